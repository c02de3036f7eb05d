import PyProof.Rows.All
import Wide.All
import OpenK.AllK
import Wide.FinOn
import Lean
import PyProof.EqAt
import PyProof.EqKinds
import PyProof.TupleCall
import PySem.Challenge.RW_ringbase_k63_whole_answers_agree
set_option Elab.async false
set_option linter.all false
set_option bootstrap.genMatcherCode false
set_option compiler.extract_closed false
set_option maxRecDepth 100000
set_option hygiene false
local macro_rules
|`(tactic|show $x)=>`(tactic|refine $x)
local macro_rules
|`(0#$x)=>`(ai rl (ai rl $x))
|`(1#$x)=>`(some (.lst $x))
|`(2#$x)=>`($x λ_ A _ s H Y Q E v P h=>?_)
|`(3#$x)=>`(25#(ai rl $x))
|`(4#0)=>`(by decide)
|`(5#$x)=>`(θ X pq σ $x s)
|`(6#$x)=>`(λ_ _ _ _=>$x)
|`(7#0)=>`(m.testBit k)
|`(8#0)=>`(model X.prog X.w)
|`(9#$x)=>`(decide ($x))
|`(10#$x)=>`($x D=some (.lst I))
|`(11#0)=>`(by decide +kernel)
|`(12#$x)=>`(starEach $x X.env)
|`(13#$x)=>`(Option.some.inj $x)
|`(14#$x)=>`(ai rl ($x))
|`(15#$x)=>`(($x).map V.str)
|`(16#$x)=>`(List.range $x)
|`(17#$x)=>`(some (.tup $x))
|`(18#$x)=>`(s.heap.get? b=some $x)
|`(19#$x)=>`((($x :Nat):Int))
|`(20#$x)=>`(⟨_,aH.of $x ⟩)
|`(21#0)=>`(by simp)
|`(22#$x)=>`(model prog $x)
|`(23#$x)=>`($x s.heap.objs.size)
|`(24#$x)=>`(⟨dl rfl,$x ⟩)
|`(25#$x)=>`(⟨rfl,$x ⟩)
|`(26#0)=>`(by intro z;cases z)
|`(27#$x)=>`(($x).length)
|`(28#$x)=>`(.lst ($x))
|`(29#$x)=>`((false,eval $x X.env))
|`(30#$x)=>`($x==NameKind.free&&env.scope.kind == .function&&env.kindOf n==some .cell)
|`(31#$x)=>`(X.env.scope.names.lookup $x=some .local)
|`(32#$x)=>`(X.env.cells.lookup $x=some c)
|`(33#$x)=>`($x<=sizeLine)
|`(34#$x)=>`(wordsOf p J $x rs)
|`(tactic|show 35)=>`(tactic|(rcases XS.mp t with rfl|t))
|`(36#$x)=>`((s.heap.push $x).objs.size)
|`(37#$x)=>`($x A s U H _ I h)
|`(38#$x)=>`(some (.ref $x))
|`(39#$x)=>`(b8 K T.c7 (bq $x))
|`(40#0)=>`(λ_ _=>False)
|`(41#$x)=>`(let a:=j8;let d:=kP;$x)
|`(42#0)=>`(λ_ _ _ _=>br)
|`(43#$x)=>`((kp N).getD $x 0)
|`(44#$x)=>`(some (.int $x))
|`(45#$x)=>`(aH.of ($x))
|`(46#$x)=>`(if $x=true then 1 else 0)
|`(47#$x)=>`($x b=some o)
|`(48#0)=>`(2^J.length)
|`(49#$x)=>`(aC ($x T) P (bT aZ bA))
|`(50#$x)=>`(dl (Yv.mpr $x))
|`(51#$x)=>`($x X params body scope c ctv)
|`(52#$x)=>`(aC ($x T) P (bq aZ))
|`(53#$x)=>`(λY H Q _=>$x)
|`(54#$x)=>`($x _ (.head _))
|`(55#$x)=>`(PySem.W.keepIn $x (.ref f)=true)
|`(56#$x)=>`(ae _ (ak $x) ?_)
|`(57#$x)=>`(bh (by lia) (by lia) $x)
|`(58#0)=>`(eG X.env.cells scope.names [])
|`(59#$x)=>`(envOfC B scope s.heap.objs.size f $x)
|`(tactic|show 60)=>`(tactic|(obtain⟨t,rfl⟩:=c))
|`(61#$x)=>`(.fields #[.ref $x,.none,.none,.none,.bool false,.none])
|`(62#0)=>`(List Value)
|`(tactic|show 63)=>`(tactic|(intro A s U H Q I h))
|`(64#$x)=>`(some (.gT $x))
|`(65#$x)=>`(List.replicate $x none)
|`(66#$x)=>`(Builtin.Int.intBits $x)
|`(67#$x)=>`(wpAny 22#w A $x Q E s)
|`(68#$x)=>`(PE X (.Name x l) $x)
|`(69#0)=>`(by simpa using k)
|`(70#$x)=>`(ai rl ($x))
|`(71#0)=>`((M.heap.push oI).objs.size)
|`(72#$x)=>`(∀M,aj H M->Q $x M)
|`(73#$x)=>`(show $x by lia)
|`(tactic|show 74)=>`(tactic|(obtain⟨d,rfl⟩:=L))
|`(75#$x)=>`(ah $x (XT.mp W))
|`(76#0)=>`(bx H w p J)
|`(77#0)=>`(by with_unfolding_all rfl)
|`(78#$x)=>`(PyData.strOk $x=true)
|`(79#$x)=>`(aY.of ($x))
|`(80#$x)=>`(wpAny (model P w) A $x Q E s)
|`(81#$x)=>`(bu 0 (gn $x))
|`(82#$x)=>`(bh (aj.new $x) aa rl)
|`(83#$x)=>`(scope.names.lookup $x)
|`(84#$x)=>`(($x).map Tx.bN)
|`(85#0)=>`(by simpa using Z)
|`(86#$x)=>`(η $x D (.lst []))
|`(87#0)=>`((kp N).length)
|`(88#$x)=>`($x ≠X.env.locals)
|`(89#$x)=>`(($x).cps.toList.length)
|`(90#$x)=>`($x->Hp->VK->Prop)
|`(91#$x)=>`(some (some $x))
|`(92#$x)=>`(cZ (by rfl) T.c9 (bq $x))
|`(tactic|show 93)=>`(tactic|(repeat (any_goals (first | assumption | wp_step))))
|`(94#$x)=>`(Nat->$x->Hp->Prop)
|`(tactic|show 95)=>`(tactic|(intro A s U H x y v u Q I c L h))
|`(96#0)=>`(s.heap.objs.size+1)
|`(97#$x)=>`(dU o p J $x)
|`(98#$x)=>`(Obj.mapSeq λ_=>$x)
|`(99#$x)=>`(SeqAt.shaped $x=true)
local macro_rules
|`(100#$x)=>`(dS X (own++fq) scope $x C s H a)
|`(101#$x)=>`(.inl (aH.of $x))
|`(102#$x)=>`(($x).testBit j)
|`(103#$x)=>`(N.bK (λk=>7#0) N.n $x)
|`(104#$x)=>`(List.replicate $x true)
|`(105#$x)=>`(b9 rl _ (aH.of $x))
|`(106#$x)=>`(aL (iA vt vv $x) a)
|`(tactic|show 107)=>`(tactic|(obtain⟨rfl,rfl⟩:=z))
|`(108#$x)=>`(az $x (I.list T))
|`(109#0)=>`(PySem.W.nsIn K mainGlobals x)
|`(110#0)=>`(⟨_,rfl⟩)
|`(111#$x)=>`(h'.get? b=some $x)
|`(112#$x)=>`(A.deeper (envOfC $x (aP st) s.heap.objs.size f d))
|`(113#$x)=>`(($x).cps.toList)
|`(114#0)=>`(Option Addr)
|`(115#$x)=>`(compareOp $x)
|`(116#$x)=>`(bR (gA K) bA $x)
|`(tactic|show 117)=>`(tactic|(first | show .inl rl | show .inr rl | assumption))
|`(118#$x)=>`(h.get? a=some $x)
|`(119#$x)=>`(by have:=$x;lia)
section
variable{α β γ δ ε:Sort _}{G:Prop}{A B C D E F:Prop}{P Q R S:α->Prop}{P2 Q2 R2 S2 T2 U2:α->β->Prop}{P3 Q3 R3 S3 T3:α->β->γ->Prop}{P4 Q4 R4 S4 T4:α->β->γ->δ->Prop}{P5:α->β->γ->δ->ε->Prop}
theorem b9(o:A)(x)(p:P x):A/\∃x,P x:=⟨o,x,p⟩
theorem bX(o:A)(x)(p:P x)(q:Q x):A/\∃x,P x/\Q x:=⟨o,x,p,q⟩
theorem bg(o:A)(x)(y)(p:P2 x y)(q:Q2 x y):A/\∃x y,P2 x y/\Q2 x y:=⟨o,x,y,p,q⟩
theorem bh(o:A)(p:B)(q:C):A/\B/\C:=⟨o,p,q⟩
theorem bj(o:A)(p:B)(x)(q:P x)(r:Q x):A/\B/\∃x,P x/\Q x:=⟨o,p,x,q,r⟩
theorem f7(o:A)(p:B)(q:C)(r:D):A/\B/\C/\D:=⟨o,p,q,r⟩
theorem fE(o:A)(p:B)(q:C)(r:D)(s:E):A/\B/\C/\D/\E:=⟨o,p,q,r,s⟩
theorem ae(x)(o:P x)(p:Q x):∃x,P x/\Q x:=⟨x,o,p⟩
theorem au(x)(o:P x)(p:Q x)(q:R x):∃x,P x/\Q x/\R x:=⟨x,o,p,q⟩
theorem cS(x)(o:P x)(p:Q x)(q:R x)(r:S x):∃x,P x/\Q x/\R x/\S x:=⟨x,o,p,q,r⟩
theorem fj(x)(y)(o:P2 x y):∃x y,P2 x y:=⟨x,y,o⟩
theorem bf(x)(y)(o:P2 x y)(p:Q2 x y):∃x y,P2 x y/\Q2 x y:=⟨x,y,o,p⟩
theorem ao(x)(y)(o:P2 x y)(p:Q2 x y)(q:R2 x y):∃x y,P2 x y/\Q2 x y/\R2 x y:=⟨x,y,o,p,q⟩
theorem aM(x)(y)(o:P2 x y)(p:Q2 x y)(q:R2 x y)(r:S2 x y):∃x y,P2 x y/\Q2 x y/\R2 x y/\S2 x y:=⟨x,y,o,p,q,r⟩
theorem cL(x)(y)(o:P2 x y)(p:Q2 x y)(q:R2 x y)(r:S2 x y)(s:T2 x y):∃x y,P2 x y/\Q2 x y/\R2 x y/\S2 x y/\T2 x y:=⟨x,y,o,p,q,r,s⟩
theorem aQ(x)(y)(o:P2 x y)(p:Q2 x y)(q:R2 x y)(r:S2 x y)(s:T2 x y)(t:U2 x y):∃x y,P2 x y/\Q2 x y/\R2 x y/\S2 x y/\T2 x y/\U2 x y:=⟨x,y,o,p,q,r,s,t⟩
theorem dU(x)(y)(z)(o:P3 x y z):∃x y z,P3 x y z:=⟨x,y,z,o⟩
theorem eV(x)(y)(z)(o:P3 x y z)(p:Q3 x y z):∃x y z,P3 x y z/\Q3 x y z:=⟨x,y,z,o,p⟩
theorem bS(x)(y)(z)(o:P3 x y z)(p:Q3 x y z)(q:R3 x y z)(r:S3 x y z)(s:T3 x y z):∃x y z,P3 x y z/\Q3 x y z/\R3 x y z/\S3 x y z/\T3 x y z:=⟨x,y,z,o,p,q,r,s⟩
theorem jw(x)(y)(z)(u)(o:P4 x y z u):∃x y z u,P4 x y z u:=⟨x,y,z,u,o⟩
theorem bO(x)(y)(z)(u)(o:P4 x y z u)(p:Q4 x y z u)(q:R4 x y z u)(r:S4 x y z u)(s:T4 x y z u):∃x y z u,P4 x y z u/\Q4 x y z u/\R4 x y z u/\S4 x y z u/\T4 x y z u:=⟨x,y,z,u,o,p,q,r,s⟩
theorem rX(k:A->B->G):(A/\B)->G:=69#0
theorem bE(k:A->∀x,P x->Q x->G):(A/\∃x,P x/\Q x)->G:=69#0
theorem c5(k:A->B->C->G):(A/\B/\C)->G:=69#0
theorem bL(k:A->B->∀x,P x->Q x->G):(A/\B/\∃x,P x/\Q x)->G:=69#0
theorem mF(k:A->B->C->D->G):(A/\B/\C/\D)->G:=69#0
theorem m9(k:A->B->C->D->E->G):(A/\B/\C/\D/\E)->G:=69#0
theorem eO(k:A->B->C->D->E->F->G):(A/\B/\C/\D/\E/\F)->G:=69#0
theorem eu(k:∀x,P x->G):(∃x,P x)->G:=69#0
theorem ah(k:∀x,P x->Q x->G):(∃x,P x/\Q x)->G:=69#0
theorem az(k:∀x,P x->Q x->R x->G):(∃x,P x/\Q x/\R x)->G:=69#0
theorem dI(k:∀x,P x->Q x->∀y,P2 x y->G):(∃x,P x/\Q x/\∃y,P2 x y)->G:=69#0
theorem d8(k:∀x,P x->Q x->R x->S x->G):(∃x,P x/\Q x/\R x/\S x)->G:=69#0
theorem aR(k:∀x y,P2 x y->Q2 x y->G):(∃x y,P2 x y/\Q2 x y)->G:=69#0
theorem aA(k:∀x y,P2 x y->Q2 x y->R2 x y->G):(∃x y,P2 x y/\Q2 x y/\R2 x y)->G:=69#0
theorem bD(k:∀x y,P2 x y->Q2 x y->R2 x y->S2 x y->G):(∃x y,P2 x y/\Q2 x y/\R2 x y/\S2 x y)->G:=69#0
theorem eX(k:∀x y,P2 x y->Q2 x y->R2 x y->S2 x y->T2 x y->G):(∃x y,P2 x y/\Q2 x y/\R2 x y/\S2 x y/\T2 x y)->G:=69#0
theorem eR(k:∀x y z,P3 x y z->G):(∃x y z,P3 x y z)->G:=69#0
theorem cu(k:∀x y z,P3 x y z->Q3 x y z->G):(∃x y z,P3 x y z/\Q3 x y z)->G:=69#0
theorem cy(k:∀x y z,P3 x y z->Q3 x y z->R3 x y z->G):(∃x y z,P3 x y z/\Q3 x y z/\R3 x y z)->G:=69#0
theorem bV(k:∀x y z,P3 x y z->Q3 x y z->R3 x y z->S3 x y z->T3 x y z->G):(∃x y z,P3 x y z/\Q3 x y z/\R3 x y z/\S3 x y z/\T3 x y z)->G:=69#0
theorem qh(k:∀x y z u,P4 x y z u->G):(∃x y z u,P4 x y z u)->G:=69#0
theorem jd(k:∀x y z u v,P5 x y z u v->G):(∃x y z u v,P5 x y z u v)->G:=69#0
end
abbrev rl:=@rfl
abbrev e5:=@decide_eq_true
abbrev fW:=@decide_eq_false
abbrev om:=@of_decide_eq_true
abbrev iX:=@List.mem_append_right
abbrev nc:=@List.mem_cons_of_mem
abbrev fC:=@List.mem_of_getElem?
abbrev jc:=@List.getElem?_eq_some_iff
abbrev m3:=@Option.map_eq_some_iff
abbrev OM:=@List.mem_append_left
abbrev cM:=List (PySem.Addr×PySem.Obj)
abbrev sG:=PySem.Value->PySem.Shared->Prop
abbrev vy:=PySem.Str->Option PySem.Value
abbrev b7:=PySem.W.Frag
def XG:=@List.length_map
def XH:=@if_neg
def XI:=@if_pos
def XJ:=@Nat.le_refl
def XM:=@PySem.Heap.get?_push_of_some
def XN:=@PySem.wpAny_pure
def XO:=@List.getD_eq_getElem?_getD
def XQ:=@List.getElem?_map
def XR:=@List.length_append
def XS:=@List.mem_cons
def XT:=@List.mem_map
def XU:=@List.mem_singleton
def XW:=@List.getElem?_eq_getElem
def XX:=@PySem.Heap.lt_size
def XY:=@Nat.le_trans
def XZ:=@Bool.false_ne_true
def X0:=@List.mem_cons_self
def X3:=@Int.toNat_natCast
def X4:=@Nat.lt_of_lt_of_le
def X5:=@List.map_append
def X6:=@PySem.Heap.get?_push_size
def X7:=@List.length_cons
def X8:=@Nat.testBit_xor
def X9:=@List.size_toArray
def Yb:=@List.take_length
def Yc:=@List.take_add_one
def Yd:=@List.map_cons
def Ye:=@List.mem_append
def Yg:=@List.length_filter_le
def Yh:=@List.length_range
def Yi:=@Nat.testBit_two_pow
def Yj:=@Nat.ne_of_lt
def Yk:=@List.mem_range
def Yl:=@PySem.F.plainAttrs_str
def Ym:=@List.length_take
def Yn:=@PySem.wpAny_mono
def Yo:=@Nat.zero_le
def Yp:=@PySem.F.plainAttrs_list
def Yq:=@congrArg
def Yr:=@List.filter_cons
def Ys:=@PySem.wpAny_holding
def Yt:=@PySem.F.slot_list_append
def Yu:=@PySem.F.type_list_append
def Yv:=@Nat.ble_eq
def Yw:=@PySem.StrLaws.glued_eq_join
def Yx:=@List.getElem?_append_left
def Yy:=@Ne.symm
def Yz:=@List.mem_filter
def YA:=@List.length_singleton
def YB:=@List.getElem?_append_right
def YC:=@List.map_map
def YD:=@PySem.F.plain_min_loop
def YE:=@Bool.and_eq_true
def YF:=@PySem.Heap.SameBut.update
def YG:=@Bool.eq_iff_iff
def YH:=@List.length_replicate
def YI:=@Classical.byContradiction
def YJ:=@PySem.Heap.get?_update_other
def YK:=@List.nodup_cons
def YL:=@Nat.lt_of_le_of_lt
def YM:=@List.filter_append
def YN:=@decide_eq_decide
def YO:=@Nat.testBit_lt_two_pow
def YQ:=@Nat.pow_le_pow_right
def YR:=@Nat.eq_of_testBit_eq
def YS:=@PySem.F.slot_str_split
def YT:=@PySem.F.type_str_split
def YU:=@List.append_nil
def YV:=@PySem.Heap.get?_update_self
def YW:=@PySem.F.slot_str_join
def YX:=@PySem.F.type_str_join
def YY:=@PySem.mem_of_lookup
def YZ:=@Nat.lt_irrefl
def Y0:=@List.lookup_cons
def Y3:=@List.sum_cons
def Y4:=@Nat.xor_lt_two_pow
def Y5:=@Nat.not_lt_zero
def Y6:=@Nat.le_succ
def Y7:=@PyProof.Rows.slot_tuple_getitem
def Y8:=@PyProof.Rows.boot_tuple
def Y9:=@Nat.xor_assoc
def Za:=@Nat.le_of_lt
def Zb:=@Nat.ne_of_gt
def Zc:=@Nat.min_eq_left
def Zd:=@List.getElem?_of_mem
def Ze:=@List.take_of_length_le
def Zf:=@List.replicate_succ
def Zg:=@Int.zero_add
def Zh:=@List.range_succ
def Zi:=@Nat.two_pow_pos
def Zj:=@Int.le_refl
def Zk:=@PyProof.Rows.callWith_type1
def Zl:=@List.all_eq_true
def Zm:=@Nat.min_le_left
def Zn:=@Nat.exists_testBit_of_ne_zero
def Zo:=@Nat.xor_zero
def Zp:=@Nat.zero_xor
def Zq:=@Int.zero_dvd
def Zr:=@Option.toList_some
def Zs:=@PySem.wpAny_tryCatch
def Zt:=@PySem.W.mg_none_of
def Zu:=@Nat.lt_succ_of_lt
def Zv:=@List.find?_cons
def Zw:=@List.getElem?_range
def Zx:=@Int.toNat_of_nonneg
def Zy:=@Nat.lt_trans
def Zz:=@PySem.F.entry_min_loop
def ZA:=@PyProof.Rows.boot_list
def ZC:=@Array.getElem?_eq_some_iff
def ZD:=@Bool.true_and
def ZE:=@List.length_drop
def ZF:=@List.not_mem_nil
def ZG:=@PyProof.Rows.boot_str
def ZH:=@Int.mul_le_mul_of_nonneg_right
def ZI:=@List.getElem?_replicate
def ZJ:=@Array.length_toList
def ZK:=@Nat.min_eq_right
def ZL:=@Bool.xor_false
def ZM:=@List.getElem?_set_self
def ZN:=@PySem.Obj.data_mapFields
def ZO:=@List.length_nil
def ZP:=@List.length_set
def ZQ:=@Option.map_some
def ZR:=@PySem.Obj.isFreed_of_fields
def ZS:=@Int.mul_ne_zero
def ZT:=@Nat.mod_two_eq_zero_or_one
def ZU:=@List.flatten_cons
def ZV:=@PySem.F.slot_dict_keyiterator_next
def ZW:=@List.getElem?_set_ne
def ZX:=@List.replicate_succ'
def ZY:=@Int.one_mul
def ZZ:=@PySem.Heap.size_push
def Z0:=@Bool.and_false
def Z1:=@Nat.lt_succ_self
def Z2:=@List.getElem_mem
def Z3:=@Nat.le_add_right
def Z4:=@Nat.xor_self
def Z5:=@Nat.pow_succ
def Z6:=@Nat.zero_testBit
def Z7:=@List.mem_map_of_mem
def Z8:=@PySem.F.slot_tuple_hash
def Z9:=@List.mem_filterMap
def a!:=@Int.natCast_nonneg
def Ω:=@List.foldl_cons
def Θ:=@Nat.log2_lt
def q!:=@List.filter_eq_nil_iff
def R!:=@List.eq_nil_of_length_eq_zero
def b!:=@List.foldl_append
def c!:=@List.filter_congr
def r!:=@List.lookup_cons_self
def J':=@List.nodup_nil
def Ξ:=@Int.le_of_lt
def t!:=@PyProof.Rows.boot_all
def u!:=@PyProof.Rows.boot_int
def U':=@List.take_zero
def d!:=@List.getElem_inj
def e!:=@Nat.succ_ne_self
def g!:=@Nat.max_eq_right
def v!:=@List.Pairwise.filter
def w!:=@List.mem_of_mem_drop
def x!:=@Nat.pow_lt_pow_right
def h!:=@Nat.testBit_succ
def y!:=@List.mem_of_mem_take
def z!:=@List.getElem_of_mem
def A!:=@List.map_congr_left
def B!:=@PySem.joinOk_length
def i!:=@Nat.max_eq_left
def S!:=@PySem.F.slot_dict_getitem
def T!:=@List.mem_of_find?_eq_some
def C!:=@PySem.W.callWith_K
def W':=@Nat.le_total
def U!:=@Int.mul_ediv_cancel_left
def j!:=@Bool.false_and
def V!:=@Nat.exists_eq_add_of_le
def W!:=@List.eraseIdx_cons_succ
def X!:=@Int.eq_ofNat_of_zero_le
def Y!:=@PyProof.Rows.boot_range
def Z!:=@Nat.add_sub_cancel_left
def D!:=@List.append_assoc
def E!:=@PySem.Obj.cls_mapFields
def F!:=@List.nodup_append
def A?:=@Int.mul_nonneg_of_nonpos_of_nonpos
def b?:=@PySem.W.cellsFrom_some
def d?:=@PyProof.Rows.bitAnd_pp
def k!:=@List.any_cons
def l!:=@Bool.and_true
def G!:=@List.countP_cons
def B?:=@Nat.testBit_eq_decide_div_mod_eq
def H!:=@Array.toList_inj
def C?:=@PyProof.Rows.slot_int_bit_length
def D?:=@PyProof.Rows.type_int_bit_length
def I!:=@Nat.succ_le_succ
def g?:=@PySem.F.slot_dict_get
def i?:=@Array.getElem?_toList
def j?:=@PyProof.Rows.boot_min
def k?:=@PyProof.Rows.boot_max
def l?:=@PyProof.Rows.boot_sum
def E?:=@Array.getElem?_setIfInBounds_ne
def m?:=@PySem.Heap.get?_none_of_le
def J!:=@List.of_mem_zip
def Z':=@beq_iff_eq
def K!:=@List.sum_append
def n!:=@Nat.sub_self
def o!:=@Nat.le_of_eq
def p!:=@Int.le_trans
def F?:=@List.take_append_of_le_length
def n?:=@List.filterMap_cons
def L!:=@List.drop_zero
def M!:=@PySem.boot_len
def o?:=@Nat.and_lt_two_pow
def q?:=@List.map_singleton
def N!:=@Nat.zero_add
def r?:=@List.nodup_range
def u?:=@List.any_eq_true
def O!:=@Nat.xor_comm
def w?:=@Nat.testBit_zero
def P!:=@Int.mul_zero
def Q!:=@Int.zero_mul
def z?:=@Array.all_toList
namespace L2
open PySem PySem.Spec PyProof.Rows
abbrev aW:=@wpAny_bind
abbrev Key:=Sum Int Str
def wK:Key->Value->Bool
 | .inl k,v=>Value.isInt k v
 | .inr x,v=>Value.isStrOf x v
def Tz(w:World):Key->Int
 | .inl k=>hashInt k
 | .inr x=>hashStr w x
def eK:∀{k} {v},wK k v=true->(∃i t,k=Sum.inl i/\v=Value.int i t)\/(∃x t,k=Sum.inr x/\v=Value.str x t)
 | .inl i,v,h=>by
   obtain⟨t,e⟩:=Value.isInt_shape h;show .inl (bf i t rl e)
 | .inr x,v,h=>by
   obtain⟨t,e⟩:=Value.isStrOf_shape h;show .inr (bf x t rl e)
def GY(i)(t):wK (.inl i) (.int i t)=true:=by simp[wK,Value.isInt]
def GZ(x)(t):wK (.inr x) (.str x t)=true:=by simp[wK,Value.isStrOf]
def Pa(a b):9#((Sum.inl a:Key)=Sum.inl b)=(a==b):=by
 by_cases e:a=b
 .subst e;simp
 .have h : ¬(Sum.inl a:Key)=Sum.inl b:=λq=>e (Sum.inl.inj q)
  rw[fW h];show(beq_eq_false_iff_ne.mpr e).symm
def Pb(a b):9#((Sum.inr a:Key)=Sum.inr b)=decide (a=b):=by
 by_cases e:a=b
 .subst e;simp
 .have h : ¬(Sum.inr a:Key)=Sum.inr b:=λq=>e (Sum.inr.inj q)
  rw[fW h,fW e]
def Pc(a)(b):9#((Sum.inl a:Key)=Sum.inr b)=false:=fW (λq=>nomatch q)
def Pd(a)(b):9#((Sum.inr a:Key)=Sum.inl b)=false:=fW (λq=>nomatch q)
def e8(prog)(w):PySem.KeyKind prog w Key where
 is:=wK
 hash:=Tz w
 inj:=λv a b C Z=>by
  rcases eK C with⟨i,t,rfl,rfl⟩|⟨x,t,rfl,rfl⟩
  .rcases eK Z with⟨j,u,rfl,e⟩|⟨y,u,rfl,e⟩
   .injection e with J _;rw[J]
   .show nomatch e
  .rcases eK Z with⟨j,u,rfl,e⟩|⟨y,u,rfl,e⟩
   .show nomatch e
   .injection e with J _;rw[J]
 byValue:=λk v h=>by
  rcases eK h with⟨i,t,rfl,rfl⟩|⟨x,t,rfl,rfl⟩<;>rfl
 pyHash:=λc h=>by
  rcases eK c with⟨i,t,rfl,rfl⟩|⟨x,t,rfl,rfl⟩
  .show wpAny_pyHash_int h
  .show wpAny_pyHash_str h
 eqBool:=λr c h=>by
  rcases eK r with⟨i,t,rfl,rfl⟩|⟨x,t,rfl,rfl⟩
  .rcases eK c with⟨j,u,rfl,rfl⟩|⟨y,u,rfl,rfl⟩
   .rw[Pa]at h;show wpAny_eqBool_int h
   .rw[Pc]at h;show SeqAt.EqAt.int_str i t y u _ _ _ _ h
  .rcases eK c with⟨j,u,rfl,rfl⟩|⟨y,u,rfl,rfl⟩
   .rw[Pd]at h;show SeqAt.EqAt.str_int x t j u _ _ _ _ h
   .rw[Pb]at h;show wpAny_eqBool_str h
 «strs»:=λk x t v h=>by
  rcases eK h with⟨i,u,rfl,e⟩|⟨y,u,rfl,e⟩
  .show nomatch e
  .injection e with J _
   subst J;cases v<;>rfl
def Ai(prog)(w)(i)(t):(e8 prog w).is (.inl i) (.int i t)=true:=GY i t
def Aj(prog)(w)(x)(t):(e8 prog w).is (.inr x) (.str x t)=true:=GZ x t
inductive V where
 | fg | bl (b:Bool) | int (i:Int) | str (x:Str) | Jm (b:Array UInt8) | S3 (b:UInt64) | ref (a:Addr) | ty (n:String)
 deriving DecidableEq
def ο:V->Value->Prop
 | .fg,u=>u=Value.none
 | .bl b,u=>u=Value.bool b
 | .int i,u=>∃t,u=Value.int i t
 | .str x,u=>∃t,u=Value.str x t
 | .Jm b,u=>∃t,u=Value.bytes b t
 | .S3 b,u=>∃t,u=Value.float b t
 | .ref a,u=>u=Value.ref a
 | .ty n,u=>u=Value.type n
abbrev ξ:List V->62#0->Prop:=Paired ο
def ξ.length(r:ξ xs g):xs.length=g.length:=Paired.length r
def ξ.get:∀{xs} {us} {i:Nat} {x},ξ xs us->xs[i]?=some x->∃u,us[i]?=some u/\ο x u
 | _,_,_,_,.nil,e=>by simp at e
 | _,_,0,_,.cons r _,e=>by simp at e;subst e;show ae _ rl r
 | _,_,i+1,x,.cons _ t,e=>by
   show ah (λu G C=>?_) (ξ.get t (by simpa using e))
   show ae u (by simpa using G) C
def ξ.set(r:ο x u):∀{xs} {us} i,ξ xs us->ξ (xs.set i x) (us.set i u)
 | _,_,_,.nil=>.nil
 | _,_,0,.cons _ t=>.cons r t
 | _,_,i+1,.cons q t=>.cons q (ξ.set r i t)
def ξ.append{xs ys:List V}{g l:62#0}(h:ξ xs g)(s:ξ ys l):ξ (xs++ys) (g++l):=by
 induction h with
 | nil=>show s
 | cons r _ O=>show .cons r O
def ξ.take:∀{xs} {us} n,ξ xs us->ξ (xs.take n) (us.take n)
 | _,_,0,_=>.nil
 | _,_,_+1,.nil=>.nil
 | _,_,n+1,.cons r t=>.cons r (ξ.take n t)
def ξ.drop:∀{xs} {us} n,ξ xs us->ξ (xs.drop n) (us.drop n)
 | _,_,0,r=>r
 | _,_,_+1,.nil=>.nil
 | _,_,n+1,.cons _ t=>ξ.drop n t
def oq:Option V->Option Value->Prop
 | some v,some u=>ο v u
 | none,none=>True
 | _,_=>False
def KV{a:Type}:List (a×V)->List (a×Value)->Prop:=Paired λp q=>p.1=q.1/\ο p.2 q.2
def kV:Key->V
 | .inl i=>.int i
 | .inr x=>.str x
inductive HO where
 | lst (xs:List V)
 | tup (xs:List V)
 | dK (kvs:List (Key×V)) | dT (kvs:List (List Key×V))
 | set (S:Int->Bool) (n:Nat)
 | ins (C dx:Addr) (fs:List (Str×V))
 | own (x:Addr)
 | xd (fs:List (Str×V))
 | met (f x:Addr)
 | CT (lo hi:Int)
 | ou (o:Obj) (u:HO)
 | gT (ps:Array Value)
 | ext (φ:Heap->Prop)
abbrev Hp:=Addr->Option HO
def η(H:Hp)(a:Addr)(o:HO):Hp:=λb=>if b=a then some o else H b
def aa:η H a o a=some o:=by unfold η;rw[XI rfl]
def aq(h:b≠a):η H a o b=H b:=by unfold η;rw[XH h]
def cC{H:Hp}(h:H a=some o)(h' : H b=some u)(d:o≠u):a≠b:=by
 intro e;subst e;rw[h]at h';show d (13#h')
def bW{H:Hp}(h:H a=some o)(h' : H b=none):a≠b:=by
 intro e;subst e;rw[h]at h';cases h'
def MJ(m:Array Value):Str:=match (m[0]?:Option Value) with | some (Value.str q _)=>q | _=>""
section
variable (P:Program)(w:World)
def dO(H:Hp)(h:Heap)(a:Addr):HO->Prop
 | .lst f=>33#f.length/\∃(N:62#0) (n:Nat),ξ f N/\118#{ cls:=.type "list",data:=.seq N.toArray n}
 | .tup f=>33#f.length/\∃N:62#0,ξ f N/\IsTup h a N.toArray
 | .dK J=>33#J.length/\(a==sysModules)=false/\∃Y,KV J Y/\h.DictOf (e8 P w) a Y
 | .dT J=>33#J.length/\(a==sysModules)=false/\∃f:List (List Key×Addr×Value),
  Paired (λp q=>p.1=q.1/\H q.2.1=17#(p.1.map kV)/\ο p.2 q.2.2) J f/\
  ∃o W N,118#o/\o.ExactDict/\o.data = .dict W N/\W.toList=f.map (entryOfKey (tupleKind (e8 P w)))/\(f.map (·.1)).Nodup
 | .set S n=>h.SetOf (intKind P w) a S n
 | .ins C g M=>H g=some (.own a)/\M.length<=1000/\g≠a/\118#(PySem.W.instObj C g)/\
  ∃p,h.Ns1 g p/\(∀f,oq (M.lookup f) (p f))/\PySem.Within p (M.map (·.1))
 | .own _=>∃o,118#o
 | .xd M=>∃p,h.Ns1 a p/\∀f,oq (M.lookup f) (p f)
 | .CT lo F=>∃t u v,118#{ cls:=.type "range",data:=.fields #[.int lo t,.int F u,.int 1 v]}
 | .ou o u=>118#o/\dO H h a u
 | .gT m=>∃i:Array Value,118#{ cls:=.none,data:=.fields i}/\((m.size=3/\(i = #[]\/∃c,i = #[m.getD 1 .none,m.getD 2 .none,.ref c]/\H c=some (.own a)/\h.CodeRec (.ref c) (MJ m)))\/∃q l k,m = #[q,l,k]++i/\i.size=3)
 | .met f x=>118#(PySem.W.methodObj (.ref f) (.ref x))
 | .ext d=>d h/\(∃o,118#o)/\∀G C:Heap,d G->(∀o,G.get? a=some o->C.get? a=some o)->d C
def lC(H:Hp)(h:Heap):Prop:=∀a o,H a=some o->dO P w H h a o
end
section
variable    {h h' : Heap}{a:Addr}
def dO.lt(x:dO P w H h a o):a<h.objs.size:=by
 cases o with
 | lst f=>revert x;show rX λ_=>aR λ_ _ _ e=>?_;show XX e
 | tup f=>revert x;show bE λ_ _ _ p=>?_;show p.lt
 | dK J=>revert x;show bL λ_ _ _ _=>cu λo _ _ e _=>?_;show XX e
 | dT J=>revert x;show bL λ_ _ _ _=>cu λo _ _ e _=>?_;show XX e
 | set S n=>revert x;show eu λo=>cu λ_ _ _ e _=>?_;show XX e
 | ins C g M=>revert x;show m9 λ_ _ _ e _=>?_;show XX e
 | own y=>obtain⟨_,e⟩:=x;show XX e
 | xd M=>revert x;show ah λ_ U _=>?_;obtain⟨_,_,_,e,_⟩:=U;show XX e
 | CT lo F=>revert x;show eR λ_ _ _ e=>?_;show XX e
 | ou C u=>obtain⟨e,_⟩:=x;show XX e
 | gT i=>revert x;show ah λ_ e _=>?_;show XX e
 | met f y=>show XX (x)
 | ext d=>revert x;show c5 λ_ f _=>?_;obtain⟨_,e⟩:=f;show XX e
def Paired.Ak{d:List m}{e:List c}(h:Paired F d e)(f:∀a b,F a b->G a b):Paired G d e:=by
 induction h with
 | nil=>show .nil
 | cons r _ O=>show .cons (f _ _ r) O
def Paired.imp'{F G:m->c->Prop}(f:∀a b,F a b->G a b){l₁}{l₂}(r:Paired F l₁ l₂):Paired G l₁ l₂:=Paired.Ak r f
def dO.stay(x:dO P w H h a o)(k:∀b u,(b=a\/H b=some (.own a))->h.get? b=some u->111#u)
 (s:∀b,H b=some (.own a)->M b=some (.own a)) (R:∀b xs,H b=17#xs->M b=17#xs):dO P w M h' a o:=by
 induction o with
 | lst xs=>revert x;show rX λz=>aR λN n r e=>?_;show bg z N n r (k _ _ (.inl rl) e)
 | tup xs=>revert x;show bE λz N r=>ah λC e c=>?_;show b9 z N (bX r C (k _ _ (.inl rl) e) c)
 | dK J=>revert x;show bL λz y Y r=>cu λC W N e c=>?_;show bj z y Y r (eV C W N (k _ _ (.inl rl) e) c)
 | dT J =>
   revert x;show bL λz y xs r=>cu λC W N e c=>?_
   show bj z y xs (Paired.Ak r λp q z=>bh z.1 (R _ _ z.2.1) z.2.2) (eV C W N (k _ _ (.inl rl) e) c)
 | set S n=>revert x;show eu λC=>cu λW N t e c=>?_;show⟨C,(eV W N t (k _ _ (.inl rl) e) c)⟩
 | ins C g f =>
   revert x;show c5 λd z=>bL λT e p i r=>?_;obtain⟨m,W,N,D,c⟩:=i
   show bh (s _ d) z (bj T (k _ _ (.inl rl) e) p (eV m W N (k _ _ (.inr d) D) c) r)
 | own y=>obtain⟨C,e⟩:=x;show⟨C,k _ _ (.inl rl) e⟩
 | xd f=>revert x;show ah λp d r=>?_;obtain⟨m,W,N,e,c⟩:=d;show ae p (eV m W N (k _ _ (.inl rl) e) c) r
 | CT lo F=>revert x;show eR λt u v e=>?_;show dU t u v (k _ _ (.inl rl) e)
 | ou C u O=>obtain⟨e,q⟩:=x;show⟨k _ _ (.inl rl) e,O q⟩
 | gT n =>
   revert x;show ah λi e f=>?_
   show ae i (k _ _ (.inl rl) e) ?_;rcases f with⟨m,f|⟨c,J,D,O,l,Y,d,L,q,j,g⟩⟩|f
   .show .inl ⟨m,.inl f⟩
   .cases L;show .inl ⟨m,.inr (au c J (s _ D) (fj c l (aM Y d rl (k _ _ (.inr D) q) j g)))⟩
   .show .inr f
 | met f y =>
   have e:=x;show k a _ (.inl rl) e
 | ext d=>revert x;show c5 λp c st=>?_;obtain⟨o,e⟩:=c;show bh (st _ _ p λo q=>k _ _ (.inl rl) q) ⟨o,k _ _ (.inl rl) e⟩ st
def lC.lt(x:lC P w H h)(e:H a=some o):a<h.objs.size:=(x a o e).lt
def lC.fresh(x:lC P w H h)(e:h.objs.size<=a):H a=none:=by
 cases q:H a with
 | none=>rfl
 | some u=>show absurd (X4 (x.lt q) e) (YZ _)
def lC.kept(x:lC P w H h)(k:∀b u,h.get? b=some u->111#u):lC P w H h':=λa o e =>
 (x a o e).stay (λb u _ q=>k b u q) (λ_ q=>q) λ_ _ q=>q
def lC.laid(x:lC P w H h)(k:∀b u,h.get? b=some u->111#u)(t:h.objs.size<=a)(Q:dO P w (η H a o) h' a o):lC P w (η H a o) h':=λb u e=>by
 have g:=x.fresh t
 by_cases Z:b=a
 .subst Z;rw[aa]at e;cases e;show Q
 .rw[aq Z]at e;show(x b u e).stay (λc v _ q=>k c v q) (λc q=>by rw[aq (bW q g)];show q) λc f q=>by rw[aq (bW q g)];show q
end
def Rd(H:Hp)(a:Addr)(u:HO):Prop:=H a=some u\/∃o,H a=some (.ou o u)
def Rd.ok(r:Rd H a u)(x:lC P w H h):dO P w H h a u:=by
 rcases r with r|⟨o,r⟩
 .show x a u r
 .obtain⟨_,q⟩:=x a _ r;show q
def Rx:Option HO->Prop
 | some (.lst _)=>True
 | some (.dK _)=>True
 | some (.dT _)=>True
 | some (.set _ _)=>True
 | some (.ins _ _ _)=>True
 | some (.ext _)=>True
 | _=>False
section
variable    {h h' : Heap}
def lC.write(B:lC P w H h)(g:Rx (H x))(n:e=x\/H e=some (.own x))(k:∀b u,b≠e->h.get? b=some u->111#u)(j:∃u,h'.get? e=some u)
 (Q:dO P w (η H x m) h' x m):lC P w (η H x m) h':=λb u q=>by
 have d:∀c y,H c=some (.own y)->c≠x:=λc y r z=>by subst z;rw[r]at g;show g
 have l:∀c f,H c=some (.tup f)->c≠x:=λc f r z=>by subst z;rw[r]at g;show g
 by_cases Z:b=x
 .subst Z;rw[aa]at q;cases q;show Q
 .rw[aq Z]at q
  by_cases i:b=e
  .have U:H b=some (.own x):=by
    rcases n with z|z
    .show absurd (i.trans z) Z
    .rw[i];show z
   rw[q]at U;cases U;obtain⟨v,a⟩:=j;show⟨v,by rw[i];show a⟩
  .show(B b u q).stay (λc v L r=>k c v ?_ r) (λc r=>by rw[aq (d c b r)];show r) λc f r=>by rw[aq (l c f r)];show r
   rcases L with rfl|L
   .show i
   .rintro rfl;rcases n with z|z
    .show d c b L z
    .rw[L]at z;cases z;show Z rfl
end
structure Un(fs ex:List Addr)(H H' : Hp)(h h' : Heap):Prop where
 keep:∀b o,47#h.get?->H b=none->b∉fs->b∉ex->47#h'.get?
 slot:∀b o,47#h.get?->H b=none->b∈fs->b∉ex->∃sl,111#{ o with slots:=sl}
 free:∀b o,47#h.get?->H b=none->b∉ex->H' b=none
 there:∀b o,47#h.get?->b∉ex->∃o',111#o'
 tups:∀b xs,H b=17#xs->H' b=17#xs
 jx:∀b o u,H b=some (.ou o u)->H' b=some (.ou o u)
 lD:∀b ps,H b=some (.gT ps)->∃more,H' b=64#(ps++more)
section
variable   {h h1 h2 h' : Heap}{a x e:Addr}
def Un.any(u:Un M ex H N h h1)(q:h.get? b=some ob)(n:H b=none)(B:b∉ex):∃O,h1.get? b=some { ob with slots:=O}:=by
 by_cases Z:b∈M
 .show u.slot b ob q n Z B
 .show⟨ob.slots,u.keep b ob q n Z B⟩
def Un.kept(k:∀b u,h.get? b=some u->111#u):Un M ex H H h h' :=
 ⟨λb C q _ _ _=>k b C q,λb C q _ _ _=>⟨C.slots,k b C q⟩,λ_ _ _ n _=>n,λb C q _=>⟨C,k b C q⟩,λ_ _ q=>q,λ_ _ _ q=>q,λ_ i q=>⟨#[],by rw[q];simp⟩⟩
def Un.refl:Un M ex H H h h:=Un.kept λ_ _ q=>q
def Un.laid(k:∀b u,h.get? b=some u->111#u)(t:h.objs.size<=a)(g:H a=none):Un M ex H (η H a o) h h' where
 keep:=λb u q _ _ _=>k b u q
 slot:=λb u q _ _ _=>⟨u.slots,k b u q⟩
 free:=λb u q n _=>by rw[aq (Yj (X4 (XX q) t))];show n
 there:=λb u q _=>⟨u,k b u q⟩
 tups:=λb f q=>by rw[aq (bW q g)];show q
 jx:=λb u f q=>by rw[aq (bW q g)];show q
 lD:=λb i q=>⟨#[],by rw[aq (bW q g),q];simp⟩
def Un.write(g:Rx (H x))(c:e=x\/H e=some (.own x))(k:∀b u,b≠e->h.get? b=some u->111#u)(j:∃u,h'.get? e=some u):Un M ex H (η H x o) h h':=by
 have B:∀b,H b=none->b≠x:=λb n z=>by subst z;rw[n]at g;show g
 have Z:∀b,H b=none->b≠e:=λb n z=>by
  subst z;rcases c with r|r
  .show B b n r
  .rw[n]at r;cases r
 have d:∀b u,H b=some u->¬ Rx (some u)->b≠x:=λb u q Y z=>by subst z;rw[q]at g;show Y g
 show⟨λb u q n _ _=>k b u (Z b n) q,λb u q n _ _=>⟨u.slots,k b u (Z b n) q⟩,λb u q n _=>by rw[aq (B b n)];show n,λb u q _=>?_,
  λb f q=>by rw[aq (d b _ q λz=>z)];show q,λb u f q=>by rw[aq (d b _ q λz=>z)];show q,λb i q=>⟨#[],by rw[aq (d b _ q λz=>z),q];simp⟩⟩
 by_cases i:b=e
 .subst i;show j
 .show⟨u,k b u i q⟩
end
def Rh(h:Heap)(H:Hp):List Addr:=(16#h.objs.size).filter λa=>(H a).isSome
def Al(h:Heap)(H:Hp):Heap:=PySem.W.hideAll h (Rh h H)
def G0(h:Heap)(H:Hp):(Al h H).objs.size=h.objs.size:=PySem.W.hideAll_size _ _
def sH{h:Heap}(e:47#h.get?)(n:H b=none):47#(Al h H).get? :=
 PySem.W.hideAll_get _ e λd=>by
  have q:=(Yz.mp d).2;rw[n]at q;simp at q
def MK(e:47#(Al h H).get?):47#h.get?/\H b=none:=by
 have T:=PySem.W.of_hideAll (Rh h H) e;show⟨T,?_⟩;cases q:H b with
 | none=>rfl
 | some x =>
   have d:b∈Rh h H:=Yz.mpr ⟨Yk.mpr (XX T),by simp[q]⟩
   have z:(Al h H).get? b=none:=PySem.W.hideAll_none (Rh h H) d;rw[z]at e;cases e
structure Mod(K:b7)(mg:vy)(base:Heap):Prop where
 Pe:K.In base
 glob:base.Ns mainGlobals mg
 blt:∃mb,base.Ns builtinsNs mb/\∀x:Str,x≠"__name__"->mb x=bootBuiltins x
 nolimit:base.NoLimit
 bmain:∃bm ob,mg "__builtins__"=38#bm/\bm≠builtinsNs/\base.get? bm=some ob/\ob.cls = .type "module"/\ob.dict=some builtinsNs/\ob.data = .plain
structure Cx where
 prog:Program
 w:World
 K:b7
 mg:Str->Option Value
 base:Heap
 A:Around
 N:List Str
 s₀:Shared
 H₀:Hp
 env:Env
 outer:List Env
 stack:List Env
 ex:List Addr
 fn:Str->Bool
 calm:Bool
 pn:cM
 xe:Value->Shared->Prop
def frs(l:List Env):List Addr:=l.filterMap (·.frame)
abbrev Cx.fs(X:Cx):List Addr:=frs X.outer
def S4(d:Scope)(x:Str):Prop:=d.names.lookup x=some .local\/d.names.lookup x=some .cell\/d.names.lookup x=some .free
def Loc(d:Scope)(x:Str):Prop:=d.names.lookup x=some .local\/d.names.lookup x=some .cell
def Look(env:Env)(h:Heap)(m:vy)(x:Str)(u:Value):Prop :=
 (env.kindOf x=some .local/\m x=some u)\/((env.kindOf x=some .cell\/env.kindOf x=some .free)/\∃c,env.cells.lookup x=some c/\h.IsCell c (some u))
structure Cx.Ok(X:Cx):Prop where
 mod:Mod X.K X.mg X.base
 kind:X.env.scope.kind = .function
 glob:X.env.globals=mainGlobals
 blt:X.env.builtins=builtinsNs
 above:X.s₀.heap.objs.size<=X.env.locals
 inj:∀x y c,32#x->32#y->x=y
 has:∀x,(X.env.kindOf x=some .cell\/X.env.kindOf x=some .free)->∃c,32#x
 Pf:∀x c,X.fn x=true->32#x->X.s₀.heap.objs.size<=c
 hd:X.calm=true->X.A.handled=none
 frames:X.A.frames=some X.stack
 Ju:X.stack=X.outer\/(X.stack=X.env::X.outer/\X.env.frame=some X.env.locals)
 S5:∀b∈X.ex,88#b/\∀x c,32#x->c≠b
 bs:∀b o,47#X.base.get?->47#X.s₀.heap.get?/\X.H₀ b=none
 Jo:X.base.objs.size<=X.s₀.heap.objs.size
 CU:∀b o,47#X.base.get?->b∉X.ex
 G1:∀b∈X.ex,b∉X.fs
 funs:X.s₀.heap.FunFrames X.base X.outer
 Jv:∀b∈X.fs,X.H₀ b=none
structure θ(X:Cx)(pq:cM)(σ:List (Option V))(H:Hp)(s:Shared):Prop where
 ok:X.Ok
 os:s.os=X.s₀.os
 bare:AllBare s.gens
 base:Un X.fs X.ex X.H₀ H X.s₀.heap s.heap
 loc:∃m,s.heap.Ns X.env.locals m/\∀(i:Nat) (x:Str) (v:V),X.N[i]?=some x->σ[i]?=some (some v)->S4 X.env.scope x->∃u,ο v u/\Look X.env s.heap m x u
 cell:∀x c,32#x->∃v,s.heap.IsCell c v
 free:H X.env.locals=none
 gz:∀x c,32#x->H c=none
 pin:∀p∈X.pn++pq,s.heap.get? p.1=some p.2/\H p.1=none/\88#p.1/\p.1∉X.fs/\∀v,p.2.data≠.cell v
 hok:lC X.prog X.w H s.heap
 len:σ.length=X.N.length
section
variable {X:Cx}{pq:cM}{σ:List (Option V)}{H H' : Hp}{s:Shared}{h' : Heap}
def Cx.Ok.TF(B:X.Ok)(e:47#X.base.get?):b∉X.fs:=λZ=>by
 have:=(B.funs.mem Z).1;rw[e]at this;cases this
def θ.bs(I:5#H):∀b o,47#X.base.get?->18#o/\H b=none:=λb o e =>
 ⟨I.base.keep b o (I.ok.bs b o e).1 (I.ok.bs b o e).2 (I.ok.TF e) (I.ok.CU b o e),I.base.free b o (I.ok.bs b o e).1 (I.ok.bs b o e).2 (I.ok.CU b o e)⟩
def θ.bk(I:5#H):∀b o,47#X.base.get?->18#o:=λb o e=>(I.bs b o e).1
def θ.mod(I:5#H):Mod X.K X.mg X.base:=I.ok.mod
def θ.sI(I:5#H):X.K.In s.heap:=I.ok.mod.Pe.keeps I.bk
def θ.nolimit(I:5#H):s.heap.NoLimit:=I.ok.mod.nolimit.keeps I.bk
def θ.lt(I:5#H):X.env.locals<s.heap.objs.size:=let⟨_,hn,_⟩:=I.loc;hn.lt
def θ.sz(I:5#H):X.s₀.heap.objs.size<=s.heap.objs.size:=XY I.ok.above (Za I.lt)
def θ.Ry(I:5#H){a:Addr}(h:s.heap.objs.size<=a):a∉X.fs:=λZ=>by
 show bE (λ_ o F _=>?_) (I.ok.funs.mem Z)
 show absurd (X4 (XX F) (XY I.sz h)) (YZ _)
def θ.Rz(I:5#H):∀x c,32#x->88#c:=λx c e z=>by
 show aR (λv o F j=>?_) (I.cell x c e)
 show ah (λm y _=>?_) I.loc;obtain⟨f,W,N,q,B,_⟩:=y
 rw[z,q]at F;cases F;rw[B]at j;cases j
def θ.funs(I:5#H):s.heap.FunFrames X.base X.outer:=by
 have all:∀(l:List Env),(∀b∈frs l,b∈X.fs)->X.s₀.heap.FunFrames X.base l->s.heap.FunFrames X.base l:=by
  intro l
  induction l with
  | nil=>intro _ _;trivial
  | cons h r O =>
    intro W S
    revert S;show c5 λR t P=>?_;obtain⟨L,o,Y,g,F,j⟩:=t
    have a:=W L (by unfold frs;rw[n?,Y];show X0)
    obtain⟨c,e⟩:=I.base.slot L o F (I.ok.Jv L a) a λz=>I.ok.G1 L z a
    show bh R (aM L _ Y g e j) (O (λb Z=>W b (by unfold frs;rw[n?,Y];show nc _ Z)) P)
 show all X.outer (λ_ Z=>Z) I.ok.funs
def θ.stack(I:5#H):s.heap.FunFrames X.base X.stack:=by
 rcases I.ok.Ju with e|⟨e,Y⟩
 .rw[e];show I.funs
 .rw[e];show ah (λm g _=>?_) I.loc
  show .cons (by rw[I.ok.kind];decide) Y g ?_ I.funs
  show m? (XY I.ok.Jo I.ok.above)
def θ.sJ(I:5#H):∀b∈frs X.stack,b∈X.env.locals::X.fs:=λb Z=>by
 rcases I.ok.Ju with e|⟨e,Y⟩
 .rw[e]at Z;show nc _ Z
 .rw[e]at Z;unfold frs at Z;rw[n?,Y]at Z;show Z
def θ.rY(I:5#H):∀b∈frs X.stack,H b=none:=λb Z=>by
 rcases XS.mp (I.sJ b Z) with e|Z
 .rw[e];show I.free
 .show bE (λ_ o F _=>?_) (I.ok.funs.mem Z)
  show I.base.free b o F (I.ok.Jv b Z) λz=>I.ok.G1 b z Z
def θ.step{ch:List Addr}(I:5#H)
 (w:∀b∈ch,(b∈X.ex\/X.s₀.heap.objs.size<=b)/\88#b/\(∀x c,32#x->c≠b)/\∀p∈X.pn++pq,p.1≠b)
 (keep:∀b o,88#b->b∉X.fs->b∉ch->18#o->H b=none->47#h'.get?)
 (slot:∀b o,88#b->b∈X.fs->b∉ch->18#o->H b=none->∃O,111#{ o with slots:=O}) (free:∀b o,b∉ch->18#o->H b=none->H' b=none)
 (there:∀b o,b∉ch->18#o->∃f,111#f)
 (tups:∀b xs,H b=17#xs->H' b=17#xs) (jx:∀b o u,H b=some (.ou o u)->H' b=some (.ou o u)) (lD:∀b R,H b=some (.gT R)->∃Q,H' b=64#(R++Q))
 (ns:∀m,s.heap.Ns X.env.locals m->h'.Ns X.env.locals m) (A:lC X.prog X.w H' h') (y:AllBare M) :
 θ X pq σ H' { s with heap:=h',gens:=M,drawn:=U,toks:=t'}:=by
 have G:∀b o,47#X.s₀.heap.get?->88#b:=λb o e=>Yj (X4 (XX e) I.ok.above)
 have h:∀b o,47#X.s₀.heap.get?->b∉X.ex->b∉ch:=λb o e B Z=>by
  rcases(w b Z).1 with z|z
  .show B z
  .show absurd (X4 (XX e) z) (YZ _)
 have P:∀x c,32#x->∀v,s.heap.IsCell c v->h'.IsCell c v:=λx c e v=>ah λo F j=>by
  have a:c∉ch:=λz=>(w c z).2.2.1 x c e rfl
  by_cases L:c∈X.fs
  .obtain⟨O,q⟩:=slot c o (I.Rz x c e) L a F (I.gz x c e);show ae _ q j
  .show ae o (keep c o (I.Rz x c e) L a F (I.gz x c e)) j
 show⟨I.ok,I.os,y,⟨λb o e n Z B=>?_,λb o e n Z B=>?_,λb o e n B=>?_,λb o e B=>?_,λb xs e=>tups b xs (I.base.tups b xs e),λb o xs e=>jx b o xs (I.base.jx b o xs e),λb R e=>?_⟩,?_,λx c e=>?_,?_,λx c e=>?_,λp t=>?_,A,I.len⟩
 .show keep b o (G b o e) Z (h b o e B) (I.base.keep b o e n Z B) (I.base.free b o e n B)
 .obtain⟨O,J⟩:=I.base.slot b o e n Z B;obtain⟨a,D⟩:=slot b _ (G b o e) Z (h b o e B) J (I.base.free b o e n B);show⟨a,D⟩
 .obtain⟨f,J⟩:=I.base.there b o e B;show free b f (h b o e B) J (I.base.free b o e n B)
 .obtain⟨f,J⟩:=I.base.there b o e B;show there b f (h b o e B) J
 .obtain⟨z,J⟩:=I.base.lD b R e;obtain⟨C,D⟩:=lD b _ J;show⟨z++C,by rw[D,Array.append_assoc]⟩
 .show ah (λm g S=>?_) I.loc
  show ae m (ns m g) λi x v J D E=>?_
  show ah (λu r l=>?_) (S i x v J D E)
  show ae u r ?_;rcases l with l|⟨k,c,e,z⟩
  .show .inl l
  .show .inr (bX k c e (P x c e _ z))
 .obtain⟨v,z⟩:=I.cell x c e;show⟨v,P x c e v z⟩
 .show ah (λm C _=>?_) I.loc;obtain⟨o,_,_,F,_⟩:=C
  show free _ o (λz=>(w _ z).2.1 rl) F I.free
 .show aR (λv o F j=>?_) (I.cell x c e)
  show free c o (λz=>(w c z).2.2.1 x c e rl) F (I.gz x c e)
 .show m9 (λe n T N d=>?_) (I.pin p t)
  have a:p.1∉ch:=λz=>(w p.1 z).2.2.2 p t rfl
  show fE (keep p.1 p.2 T N a e n) (free p.1 p.2 a e n) T N d
def θ.un(I:5#H)(u:Un X.fs [] H H' s.heap h')(A:lC X.prog X.w H' h'):θ X pq σ H' { s with heap:=h',toks:=t'}:=by
 show ah (λm c _=>?_) (id I.loc);obtain⟨o,W,N,F,r⟩:=c
 obtain⟨O,a⟩:=u.any F I.free 21#0
 show I.step (ch:=[]) (λ_ z=>nomatch z) (λb o _ Z _ e n=>u.keep b o e n Z 21#0) (λb o _ Z _ e n=>u.slot b o e n Z 21#0) (λb o _ e n=>u.free b o e n 21#0) (λb o _ e=>u.there b o e 21#0) u.tups u.jx u.lD (λB d=>by
  revert d;show cu λf T C q P=>?_
  rw[F]at q;cases q;show eV _ T C a P) A I.bare
def θ.call(I:5#H)(u:Un (frs X.stack) ch H H' s.heap h')(A:lC X.prog X.w H' h')(y:AllBare M)
 (w:∀b∈ch,(b∈X.ex\/X.s₀.heap.objs.size<=b)/\88#b/\(∀x c,32#x->c≠b)/\∀p∈X.pn++pq,p.1≠b) :
 θ X pq σ H' { s with heap:=h',gens:=M,drawn:=U,toks:=t'}:=by
 show ah (λm k _=>?_) (id I.loc);obtain⟨o,W,N,F,r⟩:=k
 obtain⟨O,a⟩:=u.any F I.free λz=>(w _ z).2.1 rfl
 show I.step w (λb o a Z L e n=>u.keep b o e n (λz=>(XS.mp (I.sJ b z)).elim a Z) L) (λb o _ _ L e n=>u.any e n L) (λb o L e n=>u.free b o e n L) (λb o L e=>u.there b o e L) u.tups u.jx u.lD (λB d=>by
  revert d;show cu λf T C q P=>?_
  rw[F]at q;cases q;show eV _ T C a P) A y
def θ.turned(I:5#H)(k:∀b o,b≠D->18#o->47#h'.get?)(g:H D=none)(a:88#D)
 (G:D∈X.ex\/X.s₀.heap.objs.size<=D) (C:∀x c,32#x->c≠D) (l:∀p∈X.pn++pq,p.1≠D):θ X pq σ H { s with heap:=h',toks:=t'}:=by
 have f:∀b u,H b=some u->b≠D:=λb u e z=>by rw[z,g]at e;cases e
 show I.step (ch:=[D]) (λb Z=>?_) (λb o _ _ L e _=>k b o (λz=>L (by simp[z])) e) (λb o _ _ L e _=>⟨o.slots,k b o (λz=>L (by simp[z])) e⟩) (λ_ _ _ _ n=>n)
  (λb o L e=>⟨o,k b o (λz=>L (by simp[z])) e⟩) (λ_ _ e=>e) (λ_ _ _ e=>e) (λb i e=>⟨#[],by rw[e];simp⟩) (λm d=>?_) (λb u e=>?_) I.bare
 .have e:b=D:=85#0
  subst e;show f7 G a C l
 .revert d;show cu λo W N F r=>?_
  show eV o W N (k _ o (Yy a) F) r
 .show(I.hok b u e).stay (λc v L q=>k c v ?_ q) (λ_ q=>q) λ_ _ q=>q
  rcases L with z|z
  .rw[z];show f b u e
  .show f c _ z
def θ.tok(I:5#H)(t):θ X pq σ H { s with toks:=t}:=I.un Un.refl I.hok
def θ.kept(I:5#H)(k:∀b u,18#u->111#u):θ X pq σ H { s with heap:=h',toks:=t'}:=I.un (Un.kept k) (I.hok.kept k)
def θ.laid{a:Addr}(I:5#H)(k:∀b u,18#u->111#u)(t:s.heap.objs.size<=a)(Q:dO X.prog X.w (η H a o) h' a o):
 θ X pq σ (η H a o) { s with heap:=h',toks:=t'}:=I.un (Un.laid k t (I.hok.fresh t)) (I.hok.laid k t Q)
def θ.write(I:5#H)(g:Rx (H x))(n:e=x\/H e=some (.own x))(k:∀b u,b≠e->18#u->111#u)(j:∃u,h'.get? e=some u)
 (Q:dO X.prog X.w (η H x o) h' x o):θ X pq σ (η H x o) { s with heap:=h',toks:=t'}:=I.un (Un.write g n k j) (I.hok.write g n k j Q)
def θ.weak{P:List (Option V)}(I:5#H)(S:P.length=σ.length)(w:∀(i:Nat) v,P[i]?=some (some v)->σ[i]?=some (some v)):θ X pq P H s :=
 ⟨I.ok,I.os,I.bare,I.base,let⟨m,hn,hl'⟩:=I.loc;(ae m hn (λi x v J D E=>hl' i x v J (w i v D) E)),I.cell,I.free,I.gz,I.pin,I.hok,S.trans I.len⟩
def θ.gF{Ri:cM}(I:5#H)(h:∀p∈Ri,s.heap.get? p.1=some p.2/\H p.1=none/\88#p.1/\p.1∉X.fs/\∀v,p.2.data≠.cell v):θ X Ri σ H s :=
 ⟨I.ok,I.os,I.bare,I.base,I.loc,I.cell,I.free,I.gz,λp t=>(Ye.mp t).elim (λz=>I.pin p (OM _ z)) (h p),I.hok,I.len⟩
def sL{N:List Str}(o:N.Nodup){i j:Nat}(a:N[i]?=some x)(b:N[j]?=some x):i=j:=by
 obtain⟨G,J⟩:=jc.mp a;obtain⟨C,D⟩:=jc.mp b;show(d! o).mp (J.trans D.symm)
def G2{M:Model}{A:Around}{E:sG}{i:Nat}{x:Str}{v:V}{u:Value}{Q:Unit->Shared->Prop}(I:5#H)(U:X.N.Nodup)(F:X.N[i]?=some x)(B:Loc X.env.scope x)(r:ο v u)
 (h:∀G,θ X pq (σ.set i (some v)) H G->(∃a,Heap.SameBut a s.heap G.heap/\(a=X.env.locals\/X.env.cells.lookup x=some a))->Q () G) (Y:X.fn x=true\/31#x:=by show 117):wpAny M A (storeName X.env x u) Q E s:=by
 show ah (λm g S=>?_) (id I.loc)
 have f:(X.env.scope.kind == .class || (X.env.scope.kind == .module&&X.env.locals != X.env.globals))=false:=by rw[I.ok.kind];rfl
 have G:i<σ.length:=by rw[I.len];show(jc.mp F).1
 have v:=I.Rz;have Q:∀{a:Addr} {h' : Heap},(∃o,s.heap.get? a=some o/\H a=none)->Heap.SameBut a s.heap h'->lC X.prog X.w H h':=λ{a h'} C W b j e=>by
  revert C;show ah λ_ _ d=>?_
  show(I.hok b j e).stay (λc a L q=>(W.2 c ?_).trans q) (λ_ q=>q) λ_ _ q=>q
  rintro rfl;rcases L with rfl|L
  .rw[d]at e;cases e
  .rw[d]at L;cases L
 rcases B with R|R
 .show wpAny_storeName_local R g (λh' w W=>?_) f
  show cu (λL _ _ l _=>?_) (id g)
  show h _ ⟨I.ok,I.os,I.bare,⟨λb o e n Z B=>?_,λb o e n Z B=>?_,I.base.free,λb o e B=>?_,I.base.tups,I.base.jx,I.base.lD⟩,ae _ w λj y C J D A=>?_,λy c e=>?_,I.free,I.gz,λp t=>?_,Q (ae L l I.free) W,by simpa using I.len⟩ (ae _ W (.inl rl))
  .show(W.2 b (Yj (X4 (XX e) I.ok.above))).trans (I.base.keep b o e n Z B)
  .obtain⟨d,J⟩:=I.base.slot b o e n Z B;show⟨d,(W.2 b (Yj (X4 (XX e) I.ok.above))).trans J⟩
  .obtain⟨f,J⟩:=I.base.there b o e B;show⟨f,(W.2 b (Yj (X4 (XX e) I.ok.above))).trans J⟩
  .by_cases d:j=i
   .subst d;rw[F]at J;cases J;rw[ZM G]at D;cases D;show ae u r (.inl ⟨R,by simp⟩)
   .rw[ZW (Yy d)]at D;show ah (λf P q=>?_) (S j y C J D A)
    show ae f P ?_;rcases q with⟨k,e⟩|⟨k,c,e,z⟩
    .show .inl ⟨k,?_⟩;have:y≠x:=λe=>d (sL U J (e▸F))
     simp[this,e]
    .show .inr (bX k c e (z.sameBut W (v y c e)))
  .obtain⟨a,z⟩:=I.cell y c e;show⟨a,z.sameBut W (v y c e)⟩
  .show m9 (λe n T N d=>?_) (I.pin p t)
   show fE ((W.2 p.1 T).trans e) n T N d
 .have w:X.fn x=true:=by
   rcases Y with z|z
   .show z
   .rw[z]at R;cases R
  obtain⟨c,L⟩:=I.ok.has x (.inl R);obtain⟨a,z⟩:=I.cell x c L;show wpAny_storeName_cell I.ok.kind R L z (λh' E W=>?_)
  show ah (λl M Y=>?_) (id z)
  show h { s with heap:=h'} ⟨I.ok,I.os,I.bare,⟨λb o e n Z B=>?_,λb o e n Z B=>?_,I.base.free,λb o e B=>?_,I.base.tups,I.base.jx,I.base.lD⟩,ae m (g.sameBut W (Yy (v x c L))) λj y C J D A=>?_,λy O e=>?_,I.free,I.gz,λp t=>?_,Q (ae l M (I.gz x c L)) W,by simpa using I.len⟩ (ae c W (.inr L))
  .show(W.2 b (Yj (X4 (XX e) (I.ok.Pf x c w L)))).trans (I.base.keep b o e n Z B)
  .obtain⟨d,J⟩:=I.base.slot b o e n Z B;show⟨d,(W.2 b (Yj (X4 (XX e) (I.ok.Pf x c w L)))).trans J⟩
  .obtain⟨f,J⟩:=I.base.there b o e B;show⟨f,(W.2 b (Yj (X4 (XX e) (I.ok.Pf x c w L)))).trans J⟩
  .by_cases d:j=i
   .subst d;rw[F]at J;cases J;rw[ZM G]at D;cases D;show ae u r (.inr (bX (.inl R) c L E))
   .rw[ZW (Yy d)]at D;show ah (λf P q=>?_) (S j y C J D A)
    show ae f P ?_;rcases q with q|⟨k,O,e,N⟩
    .show .inl q
    .show .inr (bX k O e (N.sameBut W ?_));rintro rfl;show d (sL U J (I.ok.inj _ _ _ e L▸F))
  .by_cases d:O=c
   .subst d;show⟨_,E⟩
   .obtain⟨k,f⟩:=I.cell y O e;show⟨k,f.sameBut W d⟩
  .show m9 (λe n T N d=>?_) (I.pin p t)
   show fE ((W.2 p.1 ?_).trans e) n T N d;intro q;rw[q,M]at e;have U:=13#e;show d a (by rw[<-U];show Y)
def lE{M:Model}{A:Around}{E:sG}{i:Nat}{x:Str}{v:V}{u:Value}{Q:Unit->Shared->Prop}(I:5#H)(o:X.N.Nodup)(F:X.N[i]?=some x)(B:Loc X.env.scope x)(r:ο v u)
 (h:∀G,θ X pq (σ.set i (some v)) H G->Q () G) (Y:X.fn x=true\/31#x:=by show 117):wpAny M A (storeName X.env x u) Q E s :=
 G2 I o F B r (λG a _=>h G a) Y
def θ.Jw{G:Shared}(I:5#H)(F:G.os=s.os)(u:Un (frs X.stack) ch H H' s.heap G.heap)(A:lC X.prog X.w H' G.heap)(y:AllBare G.gens)
 (w:∀b∈ch,(b∈X.ex\/X.s₀.heap.objs.size<=b)/\88#b/\(∀x c,32#x->c≠b)/\∀p∈X.pn++pq,p.1≠b):θ X pq σ H' G:=by
 obtain⟨h',M,U,d,f⟩:=G;have e:=F;subst e;show I.call u A y w
end
abbrev XK:=Value->114#0->Hp->Prop
abbrev St:=List (Option V)
abbrev VK:=V->Hp->Prop
abbrev TE:=90#St
abbrev TT:=St->Hp->(Bool->Hp->Prop)->Prop
abbrev TA:=St->Hp->(List V->Hp->Prop)->Prop
structure Ends where
 nx:St->Hp->Prop
 rt:VK
 bk:St->Hp->Prop:=40#0
 ct:St->Hp->Prop:=40#0
abbrev TS:=Ends->St->Hp->Prop
def EP(X:Cx)(A:cM)(U:St)(Q:VK)(u:Value)(G:Shared):Prop:=∃v M,θ X A U M G/\ο v u/\Q v M
def TP(X:Cx)(A:cM)(U:St)(Q:Bool->Hp->Prop)(b:Bool)(G:Shared):Prop:=∃M,θ X A U M G/\Q b M
def AP(X:Cx)(A:cM)(U:St)(Q:List V->Hp->Prop)(g:62#0)(G:Shared):Prop:=∃Y M,θ X A U M G/\ξ Y g/\Q Y M
def SP(X:Cx)(A:cM)(D:Ends)(f:Flow)(G:Shared):Prop :=
 match f with
 | .next=>∃P M,θ X A P M G/\D.nx P M
 | .brk=>∃P M,θ X A P M G/\D.bk P M
 | .cont=>∃P M,θ X A P M G/\D.ct P M
 | .ret u=>∃v P M,θ X A P M G/\ο v u/\D.rt v M
def PE(X:Cx)(e:Expr)(t:TE):Prop :=
 ∀pq s (σ:St) H Q,5#H->t σ H Q->wpAny 8#0 X.A (eval e X.env) (EP X pq σ Q) X.xe s
def PT(X:Cx)(e:Expr)(t:TT):Prop :=
 ∀pq s (σ:St) H Q,5#H->t σ H Q->wpAny 8#0 X.A (isTrue e X.env (eval e X.env)) (TP X pq σ Q) X.xe s
def PW(X:Cx)(e:Expr)(t:TT):Prop :=
 ∀whole pq s (σ:St) H Q,5#H->t σ H Q->wpAny 8#0 X.A (isTrue e X.env whole) (TP X pq σ Q) X.xe s
def PW.pt(h:PW X e t):PT X e t:=h _
def PA(X:Cx)(W:List Expr)(t:TA):Prop :=
 ∀pos pq s (σ:St) H Q,5#H->t σ H Q->wpAny 8#0 X.A (spliced (backTo pos (12#W))) (AP X pq σ Q) X.xe s
def PS(X:Cx)(st:Stmt)(t:TS):Prop :=
 ∀pq s (σ:St) H D,5#H->t D σ H->wpAny 8#0 X.A (exec st X.env) (SP X pq D) X.xe s
def oj(X:Cx)(st:List Stmt)(t:TS):Prop :=
 ∀pq s (σ:St) H D,5#H->t D σ H->wpAny 8#0 X.A (execs st X.env) (SP X pq D) X.xe s
def dW(h:wpAny M A t Q E s)(y:∀a s,Q a s->j a s):wpAny M A t j E s:=Yn h y λ_ _ x=>x
section
variable {X:Cx}
def jH(i:Nat):TE:=λU H Q=>∃v,U[i]?=some (some v)/\Q v H
def tC(v:V):TE:=λ_ H Q=>Q v H
def Pg{i:Nat}{x:Str}{f:Pos}(o:X.N[i]?=some x)(a:S4 X.env.scope x)(j:(x==("__debug__":Str))=false:=by decide)(D:(x==("__classdict__":Str))=false:=by decide):PE X (.Name x f) (jH i):=by
 show 63
 revert h;show ah λv e h=>?_
 show ah (λm g S=>?_) I.loc
 show ah (λu r l=>?_) (S i x v o e a)
 have b:EP X A U Q u s:=ao v H I r h;rcases l with⟨R,d⟩|⟨R,c,L,N⟩
 .show wpAny_Name (wpAny_loadName_local I.ok.kind R g d b) j
 .rcases R with R|R
  .show wpAny_Name (wpAny_loadName_cell I.ok.kind R L N b) j
  .show wpAny_Name (wpAny_loadName_free I.ok.kind R L N b D) j
def av{i j pos}:PE X (.Constant (.int i) j pos) (tC (.int i)):=λ_ _ _ H _ I h=>wpAny_Constant_int (ao (.int i) H (I.tok _) 110#0 h)
def gW{b j pos}:PE X (.Constant (.bool b) j pos) (tC (.bl b)):=λ_ _ _ H _ I h=>Constant_bool (ao (.bl b) H I rl h)
def d9{j pos}:PE X (.Constant .none j pos) (tC .fg):=λ_ _ _ H _ I h=>Constant_none (ao .fg H I rl h)
def aX{x j pos}:PE X (.Constant (.str x) j pos) (tC (.str x)):=λ_ _ _ H _ I h=>Calls.Constant_str (ao (.str x) H (I.tok _) 110#0 h)
def Gl(X:Cx)(x:Str):Prop:=X.env.kindOf x=some .globalImplicit
def mG{E:sG}{A:cM}{s:Shared}{U:St}{H:Hp}{x:Str}{u:Value}{l:Pos}{Q:sG}(I:θ X A U H s)(y:Gl X x)(d:X.mg x=some u)(h:Q u s)
 (j:(x==("__debug__":Str))=false:=by decide):wpAny 8#0 X.A (eval (.Name x l) X.env) Q E s :=
 Calls.Name_function_global I.ok.kind y (Calls.loadGlobal_global (by rw[I.ok.glob];show I.mod.glob.keeps I.bk) d h) j
def jy{E:sG}{A:cM}{s:Shared}{U:St}{H:Hp}{x:Str}{u:Value}{l:Pos}{Q:sG}(I:θ X A U H s)(y:Gl X x)(d:X.mg x=none)(a:bootBuiltins x=some u)(h:Q u s)
 (g:x≠"__name__":=by decide) (j:(x==("__debug__":Str))=false:=by decide):wpAny 8#0 X.A (eval (.Name x l) X.env) Q E s:=by
 show ah (λb G C=>?_) I.mod.blt
 show Calls.Name_function_global I.ok.kind y (Calls.loadGlobal_builtin (by rw[I.ok.glob];show I.mod.glob.keeps I.bk) d (by rw[I.ok.blt];show G.keeps I.bk) ((C x g).trans a) h) j
def yx{x:Str}{v:V}{u:Value}{l:Pos}(y:Gl X x)(d:X.mg x=some u)(r:ο v u)(j:(x==("__debug__":Str))=false:=by decide):68#(tC v) :=
 λ_ _ _ H _ I h=>mG I y d (ao v H I r h) j
variable {a b:Expr}  {pos:Pos}
def PC(X:Cx)(op:CmpOp)(a b:Expr)(t:TE):Prop :=
 ∀pq s (σ:St) H Q,5#H->t σ H Q->
   wpAny 8#0 X.A (eval a X.env) (λv B=>wpAny 8#0 X.A (eval b X.env) (λu q=>wpAny 8#0 X.A (compareOp op v u) (EP X pq σ Q) X.xe q) X.xe B) X.xe s
def tB(t:TE):TT:=λU H Q=>t U H λx N=>∃c,x = .bl c/\Q c N
def Ph{op:CmpOp}{t:TE}(h:PC X op a b t)(G:behindInMarks op b=false:=by first | show nobehind _ 4#0 4#0 | rfl):PT X (.Compare a [op] [b] pos) (tB t):=by
 intro A s U H Q I j;show wpAny_isTrue_Compare1 (dW (h A s U H _ I j) λv w G=>dW G λu M C=>dW C λc k=>aA λx N J B P=>?_) G
 revert P;show ah λd e q=>?_;subst e
 cases B;show wpAny_truthy_bool (ae N J q)
def fy{e:Expr}{t:TE}(h:PE X e t)(n:∀l,isTrue e X.env l=(do let v←l;standAt e.pos;holding [v] (truthy v)):=by intro _;rfl):PT X e (tB t):=by
 intro A s U H Q I j;show isTrue_plain (dW (h A s U H _ I j) λv w=>aA λx N J B P=>?_) (n _)
 revert P;show ah λd W q=>?_;subst W
 cases B;show wpAny_truthy_bool (ae N J q)
variable  {rest:List Expr}
def TH(t u:TT):TT:=λU H Q=>t U H λc N=>if c=true then u U N Q else Q false N
def Wc(t u:TT):TT:=λU H Q=>t U H λc N=>if c=true then Q true N else u U N Q
def TJ(t:TT):TT:=λU H Q=>t U H λc N=>Q (! c) N
def jg(C:PT X a f):PW X (.BoolOp .And [a] pos) f:=by
 intro d A s U H Q I h;show isTrue_and (dW (C A s U H Q I h) λc w e=>?_)
 cases c with
 | true=>show isTrue_and_nil e
 | false=>show e
def gv(C:PT X a f):PW X (.BoolOp .Or [a] pos) f:=by
 intro d A s U H Q I h;show isTrue_or (dW (C A s U H Q I h) λc w e=>?_)
 cases c with
 | false=>show isTrue_or_nil e
 | true=>show e
def lF(C:PT X a f)(Z:PW X (.BoolOp .And (b::rest) pos) e):PW X (.BoolOp .And (a::b::rest) pos) (TH f e):=by
 intro d A s U H Q I h;show isTrue_and (dW 37#C λc w=>ah λN J P=>?_)
 cases c with
 | true=>show Z d A w U N Q J P
 | false=>show ae N J P
def iI(C:PT X a f)(Z:PW X (.BoolOp .Or (b::rest) pos) e):PW X (.BoolOp .Or (a::b::rest) pos) (Wc f e):=by
 intro d A s U H Q I h;show isTrue_or (dW 37#C λc w=>ah λN J P=>?_)
 cases c with
 | true=>show ae N J P
 | false=>show Z d A w U N Q J P
def iY(C:PT X a f):PT X (.UnaryOp .Not a pos) (TJ f):=by
 show 63;show isTrue_not (C A s U H (λc N=>Q (! c) N) I h)
def RA(z tb:TE):TE:=λU H Q=>z U H λx N=>∃c,x = .bl c/\if c=true then tb U N Q else Q (.bl false) N
def TL(z tb:TE):TE:=λU H Q=>z U H λx N=>∃c,x = .bl c/\if c=true then Q (.bl true) N else tb U N Q
def nO{op}(h:PE X a t):PE X (.BoolOp op [a] pos) t:=λA s U H Q I j=>BoolOp_one (h A s U H Q I j)
def qi(C:PE X a z)(Z:PE X (.BoolOp .And (b::rest) pos) tb):PE X (.BoolOp .And (a::b::rest) pos) (RA z tb):=by
 show 63;show BoolOp_and (dW 37#C λv w=>aA λx N J B P=>?_)
 revert P;show ah λc o P=>?_;subst o
 cases B;show wpAny_truthy_bool ?_;cases c with
 | true=>show Z A w U N Q J P
 | false=>show ao (.bl false) N J rfl P
def ON(C:PE X a z)(Z:PE X (.BoolOp .Or (b::rest) pos) tb):PE X (.BoolOp .Or (a::b::rest) pos) (TL z tb):=by
 show 63;show BoolOp_or (dW 37#C λv w=>aA λx N J B P=>?_)
 revert P;show ah λc t P=>?_;subst t
 cases B;show wpAny_truthy_bool ?_;cases c with
 | false=>show Z A w U N Q J P
 | true=>show ao (.bl true) N J rfl P
def Wd(t:TT)(z tb:TE):TE:=λU H Q=>t U H λc N=>if c=true then z U N Q else tb U N Q
def f9(L:PT X c f)(C:PE X a z)(Z:PE X b tb):PE X (.IfExp c a b pos) (Wd f z tb):=by
 show 63;show wpAny_IfExp (dW 37#L λd w=>ah λN J P=>?_)
 cases d with
 | true=>show C A w U N Q J P
 | false=>show Z A w U N Q J P
end
def aH(K:b7)(H:Hp)(a:Addr)(xs:List V):Prop :=
 Rd H a (.lst xs)\/
  ∃o N n,K.lookup a=some o/\o.cls = .type "list"/\o.dict=none/\o.data = .seq N n/\33#N.size/\ξ xs N.toList
def aY(K:b7)(H:Hp)(a:Addr)(xs:List V):Prop :=
 Rd H a (.tup xs)\/
  ∃o N n,K.lookup a=some o/\o.cls = .type "tuple"/\o.data = .seq N n/\33#N.size/\ξ xs N.toList
def TM:Value->Option V
 | .none=>some .fg
 | .bool b=>some (.bl b)
 | .int i _=>some (.int i)
 | .str x _=>some (.str x)
 | .bytes b _=>some (.Jm b)
 | .float b _=>some (.S3 b)
 | .ref a=>some (.ref a)
 | .type n=>some (.ty n)
 | _=>none
def ο.abs(r:ο x u):TM u=some x:=by
 cases x with
 | fg=>cases r;rfl
 | bl _=>cases r;rfl
 | int _=>obtain⟨t,rfl⟩:=r;rfl
 | str _=>obtain⟨t,rfl⟩:=r;rfl
 | Jm _=>obtain⟨t,rfl⟩:=r;rfl
 | S3 _=>obtain⟨t,rfl⟩:=r;rfl
 | ref _=>cases r;rfl
 | ty _=>cases r;rfl
def ο.inj(r:ο x u)(q:ο y u):x=y:=13#(r.abs.symm.trans q.abs)
def ξ.inj{xs ys:List V}{g:62#0}(h:ξ xs g)(k:ξ ys g):xs=ys:=by
 induction h generalizing ys with
 | nil=>cases k;rfl
 | cons r _ O=>obtain _ | ⟨q,t⟩:=k;rw[r.inj q,O t]
section
variable  {pq:cM}{σ:St}
def aH.of{K}(h:H a=1#xs):aH K H a xs:=.inl (.inl h)
def aY.of{K}(h:H a=17#xs):aY K H a xs:=.inl (.inl h)
def θ.list(I:5#H)(h:aH X.K H a xs):∃N:62#0,ξ xs N/\PlainL s.heap a N.toArray/\33#xs.length:=by
 rcases h with h|⟨o,N,n,R,L,j,W,m,r⟩
 .show rX (λz=>aR λN n r e=>?_) (h.ok I.hok)
  show au N r (aM _ n e rl rl rl) z
 .show au N.toList r (aM o n (I.sI a o R) L j (by simpa using W)) ?_
  have e:=r.length;simp only[ZJ]at e
  lia
def θ.tuple(I:5#H)(h:aY X.K H a xs):∃N:62#0,ξ xs N/\IsTup s.heap a N.toArray/\33#xs.length:=by
 rcases h with h|⟨o,N,n,R,L,W,m,r⟩
 .show bE (λz N r p=>?_) (h.ok I.hok)
  show au N r p z
 .show au N.toList r (ae o (I.sI a o R) (b9 L n (by simpa using W))) ?_
  have e:=r.length;simp only[ZJ]at e
  lia
def θ.lG(I:5#H)(h:aH X.K H a xs)(h' : aH X.K H a ys):xs=ys:=by
 show az (λN r b _=>?_) (I.list h);obtain⟨o,n,e,_,_,d⟩:=b
 show az (λc P p _=>?_) (I.list h');obtain⟨f,m,T,_,_,U⟩:=p
 rw[e]at T;cases T;rw[d]at U;injection U with v _
 have:N=c:=by simpa using Yq Array.toList v
 subst this;show r.inj P
def θ.wL(I:5#H)(h:aY X.K H a xs)(h' : aY X.K H a ys):xs=ys:=by
 show az (λN r t _=>?_) (I.tuple h);obtain⟨o,e,_,n,d⟩:=t
 show az (λc P b _=>?_) (I.tuple h');obtain⟨f,T,_,m,U⟩:=b
 rw[e]at T;cases T;rw[d]at U;injection U with v _
 have:N=c:=by simpa using Yq Array.toList v
 subst this;show r.inj P
end
abbrev Cx.vz(X:Cx)(E:sG):Cx:={ X with xe:=E}
abbrev Cx.Jx(X:Cx):Cx:=X.vz 40#0
def Cx.Ok.vz{X:Cx}(B:X.Ok)(E):(X.vz E).Ok :=
 ⟨B.mod,B.kind,B.glob,B.blt,B.above,B.inj,B.has,B.Pf,B.hd,B.frames,B.Ju,B.S5,B.bs,B.Jo,B.CU,B.G1,B.funs,B.Jv⟩
def Cx.Ok.lH{X:Cx}(B:(X.vz E).Ok):X.Ok :=
 ⟨B.mod,B.kind,B.glob,B.blt,B.above,B.inj,B.has,B.Pf,B.hd,B.frames,B.Ju,B.S5,B.bs,B.Jo,B.CU,B.G1,B.funs,B.Jv⟩
section
variable {X:Cx}{pq:cM}{σ:St}
def θ.vz(I:5#H)(E):θ (X.vz E) pq σ H s:=⟨I.ok.vz E,I.os,I.bare,I.base,I.loc,I.cell,I.free,I.gz,I.pin,I.hok,I.len⟩
def θ.lH(I:θ (X.vz E) pq σ H s):5#H:=⟨I.ok.lH,I.os,I.bare,I.base,I.loc,I.cell,I.free,I.gz,I.pin,I.hok,I.len⟩
def SP.lH(h:SP (X.vz E) pq D f G):SP X pq D f G:=by
 cases f with
 | next=>revert h;show aR λP M I q=>?_;show bf P M I.lH q
 | brk=>revert h;show aR λP M I q=>?_;show bf P M I.lH q
 | cont=>revert h;show aR λP M I q=>?_;show bf P M I.lH q
 | ret u=>revert h;show cy λv P M I r q=>?_;show⟨v,(ao P M I.lH r q)⟩
def oj.Jx{st}(h:oj X.Jx st t):oj X st t:=λpq s σ H D I j =>
 Yn (h pq s σ H D (I.vz _) j) (λ_ _ q=>q.lH) λ_ _ z=>False.elim z
end
section
variable {X:Cx}{st:Stmt}{rest:List Stmt}  {e:Expr}{te:TE}{pos:Pos}
def cf:TS:=λD U H=>D.nx U H
def Ends.on(D:Ends)(u:TS):Ends:={ D with nx:=u D}
def aL(t u:TS):TS:=λD U H=>t (D.on u) U H
def aN:oj X [] cf:=λ_ _ U H _ I h=>wpAny_execs_nil (bf U H I h)
def af(G:PS X st t)(C:oj X rest u):oj X (st::rest) (aL t u):=by
 intro A s U H D I h;show wpAny_execs_cons (dW (G A s U H { D with nx:=u D} I h) λf w q=>?_)
 cases f with
 | next =>
   revert q;show aR λP M a q=>?_
   show C A w P M D a q
 | ret v=>show q
 | brk=>show q
 | cont=>show q
def ak(G:PS X st t):oj X [st] t:=by
 intro A s U H D I h;show wpAny_execs_cons (dW (G A s U H D I h) λf w q=>?_)
 cases f with
 | next=>show wpAny_execs_nil q
 | ret v=>show q
 | brk=>show q
 | cont=>show q
def θ.quiet{A:cM}{U:St}(I:θ X A U H s):interactive X.env=false:=by simp[interactive,I.ok.kind]
def RB(te:TE):TS:=λD U H=>te U H λ_ N=>D.nx U N
def cV(n:PE X e te)(W:swapsWith e none pos.line X.env=pure false:=by rfl):PS X (.Expr e pos) (RB te):=by
 intro A s U H D I h;show wpAny_Expr_any (dW 37#n λv w=>aA λx N J B P=>bf U N J P) I.quiet W
def TN(te:TE):TS:=λD U H=>te U H D.rt
def aB(n:PE X e te):PS X (.Return (some e) pos) (TN te):=by
 intro A s U H D I h;show wpAny_Return_some (dW 37#n λv w=>aA λx N J B P=>?_)
 show⟨x,(ao U N J B P)⟩
def d7(c:TT)(t u:TS):TS:=λD U H=>c U H λb N=>if b=true then t D U N else u D U N
def bB(L:PT X c g)(C:oj X a t)(Z:oj X b u):PS X (.If c a b pos) (d7 g t u):=by
 intro A s U H D I h;show wpAny_If (dW 37#L λd w=>ah λN J P=>?_)
 cases d with
 | true=>show C A w U N D J P
 | false=>show Z A w U N D J P
def Pj:TS:=λ_ _ _=>False
def dP:oj X a Pj:=λ_ _ _ _ _ _ h=>h.elim
end
abbrev TG:=V->St->Hp->(St->Hp->Prop)->Prop
abbrev ME:=List V->St->Hp->(St->Hp->Prop)->Prop
def PG(X:Cx)(c:Expr)(t:TG):Prop :=
 ∀pq s (σ:St) H v u Q,5#H->ο v u->t v σ H Q->
   wpAny 8#0 X.A (assign c X.env u) (λ_ G=>∃P M,θ X pq P M G/\Q P M) X.xe s
def Rj(X:Cx)(J:List Expr)(t:ME):Prop :=
 ∀pq s (σ:St) H vs us Q,5#H->ξ vs us->t vs σ H Q->
   wpAny 8#0 X.A (assignInOrder ((assignEach J X.env).map (·.2)) us) (λ_ G=>∃P M,θ X pq P M G/\Q P M) X.xe s
abbrev Jy:=V->V->V->Hp->(Hp->Prop)->Prop
def Pk(X:Cx)(t:Jy):Prop :=
 ∀pq s (σ:St) H o i v ov iv u Q,5#H->ο o ov->ο i iv->ο v u->t o i v H Q->
   wpAny 8#0 X.A (setItem ov iv u) (λ_ G=>∃M,θ X pq σ M G/\Q M) X.xe s
abbrev RC:=V->90#V
def Vm(X:Cx)(op:Operator)(t:RC):Prop :=
 ∀pq s (σ:St) H x y v u Q,5#H->ο x v->ο y u->t x y H Q->
   wpAny 8#0 X.A (inplaceOp op v u) (EP X pq σ Q) X.xe s
section
variable {X:Cx}{pos:Pos}
def Fi(i:Nat):TG:=λv U H Q=>Q (U.set i (some v)) H
def rZ{i:Nat}{x:Str}(o:X.N.Nodup)(F:X.N[i]?=some x)(B:Loc X.env.scope x)(Y:X.fn x=true\/31#x:=by show 117):PG X (.Name x pos) (Fi i):=by
 intro A s U H v u Q I r h;show wpAny_assign_Name (lE I o F B r (λG a=>bf _ H a h) Y)
def TQ:ME:=λY U H Q=>Y=[]/\Q U H
def RD(t:TG)(u:ME):ME:=λY U H Q=>∃v r,Y=v::r/\t v U H λP M=>u r P M Q
def dQ:Rj X [] TQ:=by
 intro A s U H Y g Q I r h;obtain⟨e,h⟩:=h;subst e;cases r;show assignInOrder_nil (bf U H I h)
def aS{e:Expr}{c:List Expr}{t:TG}{u:ME}(G:PG X e t)(C:Rj X c u)
 (W:(assignEach (e::c) X.env).map (·.2)=assign e X.env::(assignEach c X.env).map (·.2):=by rfl):Rj X (e::c) (RD t u):=by
 intro A s U H Y g Q I r h
 revert h;show aR λv b J h=>?_
 subst J;cases r with
 | cons r F =>
   rw[W];show assignInOrder_cons (dW (G A s U H _ _ _ I r h) λ_ w=>aR λa N d P=>?_)
   show C A w a N _ _ Q d F P
def RE(K:b7)(n:Nat)(t:ME):TG:=λv U H Q=>∃a f,v = .ref a/\aY K H a f/\f.length=n/\t f U H Q
def Pn{W:List Expr}{k:Nat}{t:ME}{n:Nat}(L:X.calm=true)(h:Rj X W t)
 (g:27#(assignEach W X.env)=n:=by rfl) (w:(assignEach W X.env).findIdx? (·.1)=none:=by rfl):PG X (.Tuple W k pos) (RE X.K n t):=by
 intro A s U H v u Q I r j
 revert j;show bD λa f J T S j=>?_
 subst J;cases r;show az (λN O R m=>?_) (I.tuple T)
 show assign_Tuple_tuple (I.ok.hd L) R (by simp[g,<-S,O.length]) w λM B=>?_
 have c:=I.kept (t':=s.toks) λb o e=>B b o (Yj (XX e)) e
 show h A _ U H f _ Q c (by simpa using O) j
def TR(l a:TE)(t:Jy):TG:=λv U H Q=>l U H λo N=>a U N λi O=>t o i v O λX=>Q U X
def yy{o i:Expr}{l a:TE}{t:Jy}(c:PE X o l)(F:PE X i a)(W:Pk X t)
 (C:∀v,assign (.Subscript o i pos) X.env v=(do
  let d←holding [v] (eval o X.env)
  let R←holding [v,d] (eval i X.env)
  standAt pos
  holding [v,d,R] (setItem d R v)
  release [v,d,R] []):=by intro _;rfl):PG X (.Subscript o i pos) (TR l a t):=by
 intro A s U H v u Q I r h;rw[C];show aW (Ys (dW 37#c λd w=>aA λx N J B P=>?_))
 show aW (Ys (dW (F A w U N _ J P) λR M=>aA λy O Y p E=>?_))
 show aW (wpAny_standAt (aW (Ys (dW (W A M U O x y v d R u _ Y B p r E) λ_ k=>ah λb j T=>?_))))
 show wpAny_release (bf U b j T)
def Po(f:TE)(g:TG):TS:=λD U H=>f U H λx N=>g x U N D.nx
def sM{tg e:Expr}{f:TE}{g:TG}(n:PE X e f)(y:PG X tg g)(W:swapsWithSole [tg] e pos.line X.env=pure false:=by rfl)(j:swappedStores [tg] e X.env=pure none:=by rfl)
 (G:(assignEach [tg] X.env).map (·.2)=[assign tg X.env]:=by rfl):PS X (.Assign [tg] e pos) (Po f g):=by
 intro A s U H D I h;show wpAny_Assign_stores (dW 37#n λv w=>aA λx N J B P=>?_) W j
 rw[G];show dW (y A w U N x v _ J B P) λ_ M q=>q
def e9{i:Nat}{x:Str}{e:Expr}{f:TE}{Q:Pos}(o:X.N.Nodup)(F:X.N[i]?=some x)(B:Loc X.env.scope x)(n:PE X e f)(W:swapsWith e (some (.Name x Q)) pos.line X.env=pure false:=by rfl)(Y:X.fn x=true\/31#x:=by show 117):
 PS X (.Assign [.Name x Q] e pos) (Po f (Fi i)):=by
 intro A s U H D I h;show wpAny_Assign_Name (dW 37#n λv w=>aA λy N J b P=>?_) W
 show lE J o F B b (λM a=>bf _ N a P) Y
def TU(i:Nat)(f:TE)(a:RC):TS:=λD U H=>∃x,U[i]?=some (some x)/\f U H λy N=>a x y N λz O=>D.nx (U.set i (some z)) O
def qj{i:Nat}{x:Str}{e:Expr}{f:TE}{op:Operator}{a:RC}{Q:Pos}(o:X.N.Nodup)(F:X.N[i]?=some x)(B:Loc X.env.scope x)(n:PE X e f)(G:Vm X op a)(Y:X.fn x=true\/31#x:=by show 117):
 PS X (.AugAssign (.Name x Q) op e pos) (TU i f a):=by
 intro A s U H D I h
 revert h;show ah λv J h=>?_
 show ah (λm g S=>?_) I.loc
 have t:S4 X.env.scope x:=by rcases B with k | k;show .inl k;show .inr (.inl k)
 show ah (λu r l=>?_) (S i x v F J t)
 show wpAny_AugAssign_Name ?_;have W:wpAny 8#0 X.A (eval e X.env) (λw q=>wpAny 8#0 X.A (inplaceOp op u w) (λr b=>wpAny 8#0 X.A (storeName X.env x r) (λ_=>SP X A D .next) X.xe b) X.xe q) X.xe s:=by
  show dW 37#n λw R=>aA λy N c L P=>?_
  show dW (G A R U N v y u w _ c r L P) λz M=>aA λd O C p E=>?_
  show lE C o F B p (λT j=>bf _ O j E) Y
 rcases l with⟨R,d⟩|⟨R,c,L,N⟩
 .show wpAny_loadName_local I.ok.kind R g d W
 .rcases R with R|R
  .show wpAny_loadName_cell I.ok.kind R L N W
  .rcases B with k|k
   .have:X.env.scope.names.lookup x=some .free:=R;rw[k]at this;cases this
   .have:X.env.scope.names.lookup x=some .free:=R;rw[k]at this;cases this
def RG(l a f:TE)(L:V->90#V)(b:RC)(Z:Jy):TS:=λD U H=>l U H λo N=>a U N λi O=>L o i O λx X=>f U X λy c=>b x y c λz d=>Z o i z d λr=>D.nx U r
def RH(X:Cx)(t:V->90#V):Prop :=
 ∀pq s (σ:St) H o i ov iv Q,5#H->ο o ov->ο i iv->t o i H Q->
   wpAny 8#0 X.A (getItem ov iv) (EP X pq σ Q) X.xe s
def Fj{o i e:Expr}{l a f:TE}{L:V->90#V}{b:RC}{Z:Jy}{op:Operator}{g:Pos}(c:PE X o l)(F:PE X i a)(y:RH X L)(n:PE X e f)(t:Vm X op b)(W:Pk X Z)
 (C:∀d R Q,augStore i d R Q=(do holding [Q,d,R] (setItem d R Q);release [Q,d,R] [];pure .next):=by intros;rfl):PS X (.AugAssign (.Subscript o i g) op e pos) (RG l a f L b Z):=by
 intro A s U H D I h;show wpAny_AugAssign_SubscriptAny (dW 37#c λd w=>aA λg N J B P=>?_) C
 show dW (F A w U N _ J P) λR M=>aA λa O Y p E=>?_
 show dW (y A M U O g a d R _ Y B p E) λf k=>aA λx b j l T=>?_
 show dW (n A k U b _ j T) λv G=>aA λo c z m h=>?_
 show dW (t A G U c x o f v _ z l m h) λQ b=>aA λj e u q i=>?_
 show dW (W A b U e g a j d R Q _ u B p q i) λ_ S=>ah λr c m=>?_
 show bf U r c m
def sN(c:TT)(tb:TS):TS:=λD U H=>∃W:94#St,(∃m,W m U H)/\∀m U H,W m U H->
 c U H λb a=>if b=true then ∃N:St->Hp->Prop,(∀P M,N P M->∃B,B<m/\W B P M)/\tb { D with nx:=N,ct:=N,bk:=D.nx} U a else D.nx U a
def oz(t:PassesOwn 8#0 X.A X.env X.xe)(L:PT X c g)(Z:oj X p tb):PS X (.While c p [] pos) (sN g tb):=by
 intro A s U H D I h
 revert h;show ah λW r m=>?_;obtain⟨l,x⟩:=r
 show wpAny_While (codeAny_whileLoop (λn G=>∃P M,θ X A P M G/\W n P M) ?_ l (bf U H I x))
 intro n w;show aR λa q J y=>?_
 show wpAny_passesOwn t (dW (L A w a q _ J (m n a q y)) λb u=>ah λO Y E=>?_)
 cases b with
 | true =>
   revert E;show ah λN o E=>?_
   rw[XI rfl];show wpAny_passesOwn t (dW (Z A u a O _ Y E) λf k T=>?_)
   cases f with
   | next =>
     revert T;show aR λR i j e=>?_
     show ah (λB d F=>?_) (o R i e)
     show⟨B,(bg d R i j F)⟩
   | cont =>
     revert T;show aR λR i j e=>?_
     show ah (λB d F=>?_) (o R i e)
     show⟨B,(bg d R i j F)⟩
   | brk=>show T
   | ret v=>show T
 | false =>
   rw[XH XZ];show wpAny_execs_nil (bf a O Y E)
end
structure It where
 go:Nat->Hp->Prop
 G3:Nat->Hp->V->Hp->Prop
 stop:Nat->Hp->Prop
def nQ(X:Cx)(A:cM)(H:Hp)(b:Addr):Prop :=
 H b=none/\88#b/\b∉X.fs/\(b∈X.ex\/X.s₀.heap.objs.size<=b)/\(∀x c,32#x->c≠b)/\∀p∈X.pn++A,p.1≠b
def θ.vA{A:cM}{U:St}{b:Addr}(I:θ X A U H s)(Z:s.heap.objs.size<=b)(g:M b=none):nQ X A M b:=by
 show⟨g,(fE (Zb (X4 I.lt Z)) (I.Ry Z) (.inr (XY I.sz Z)) (λx c e z=>?_) λp t z=>?_)⟩
 .obtain⟨v,q⟩:=I.cell x c e;show absurd (X4 q.lt (by rw[z];show Z)) (YZ _)
 .show absurd (X4 (XX (I.pin p t).1) (by rw[z];show Z)) (YZ _)
structure Turn(P:Program)(w:World)(K:b7)(tg:Expr)(J:It)(fp:List Addr)(it:Addr)(tn:Nat->Heap->Prop):Prop where
 mem:it∈fp
 obj:∀i h,tn i h->∀b∈fp,∃o,47#h.get?/\∀v,o.data≠.cell v
 keep:∀i h h',tn i h->(∀b∈fp,∀o,47#h.get?->47#h'.get?)->tn i h'
 item:∀(X:Cx),X.prog=P->X.w=w->X.K=K->X.calm=true->∀(i:Nat) (pq:cM) (s:Shared) (σ:St) (H:Hp) (E:sG),5#H->(∀b∈fp,nQ X pq H b)->tn i s.heap->J.go i H->
  wpAny (model P w) X.A (pyNext (.ref it)) (λr s1=>∃u,r=some u/\
   wpAny (model P w) X.A (letOwnedTupleGo tg (.ref it) u) (λ_ s2=>∃x H',θ X pq σ H' s2/\ο x u/\J.G3 i H x H'/\tn (i+1) s2.heap/\∀b∈fp,H' b=none) E s1) E s
 done:∀(X:Cx),X.prog=P->X.w=w->X.K=K->X.calm=true->∀(i:Nat) (pq:cM) (s:Shared) (σ:St) (H:Hp) (E:sG),5#H->(∀b∈fp,nQ X pq H b)->tn i s.heap->J.stop i H->
  wpAny (model P w) X.A (pyNext (.ref it)) (λr s1=>r=none/\θ X pq σ H s1) E s
 self:∀(A:Around) (i:Nat) (s:Shared) (Q:sG) (E:sG),tn i s.heap->Q (.ref it) s->80#(pyIter (.ref it))
abbrev TI:=St->Hp->(It->Hp->Prop)->Prop
def Vn(X:Cx)(A:cM)(U:St)(tg:Expr)(R:It->Hp->Prop)(E:Value)(c:Shared):Prop :=
 ∃D a N J M,E = .ref D/\θ X A U M c/\Turn X.prog X.w X.K tg J a D N/\N 0 c.heap/\(∀b∈a,nQ X A M b)/\R J M
def PI(X:Cx)(tg iter:Expr)(a:TI):Prop :=
 ∀pq s (σ:St) H R,5#H->a σ H R->
   wpAny 8#0 X.A (eval iter X.env) (λv w=>wpAny 8#0 X.A (pyIter v) (Vn X pq σ tg R) X.xe w) X.xe s
def wM{s:Shared}(F:s.heap.get? D=some o)(L:o.cls = .type n)(j:o.data = .fields Y)
 (g:["enumerate","zip","dict_itemiterator","dict_reverseitemiterator","odict_iterator","itertools.zip_longest","itertools.pairwise"].contains n=false) (y:Q () s):wpAny M A (letOwnedTupleGo tg (.ref D) u) Q E s:=by
 cases tg<;>first
  | show XN y
  | (cases u<;>first
   | show XN y
   | (show aW (wpAny_load F ?_)
      rw[L,j];change wpAny M A (if(["enumerate","zip","dict_itemiterator","dict_reverseitemiterator","odict_iterator","itertools.zip_longest","itertools.pairwise"].contains n&&Y[0]? == some (rawInt _))=true then _ else _) Q E s
      rw[XH (by intro h;rw[g,j!]at h;cases h)]
      show XN y))
def Jp(K:b7)(a:Addr):It :=
 ⟨λi H=>∃f x,aH K H a f/\f[i]?=some x,λi H x M=>M=H/\∀f,aH K H a f->f[i]?=some x,λi H=>∃f,aH K H a f/\f.length<=i⟩
def Rk(K:b7)(a:Addr):It :=
 ⟨λi H=>∃f x,aY K H a f/\f[i]?=some x,λi H x M=>M=H/\∀f,aY K H a f->f[i]?=some x,λi H=>∃f,aY K H a f/\f.length<=i⟩
def Jz(lo:Int)(n:Nat):It:=⟨λi _=>i<n,λi H x M=>M=H/\x = .int (lo+i),λi _=>n<=i⟩
def wN{K}(a it):Turn P w K tg (Jp K a) [it] it (λi h=>h.IsListIter it a i) where
 mem:=by simp
 obj:=λi h st b Z=>by
  have e:b=it:=85#0
  subst e
  revert st;show az λo e c d=>?_
  show ae o e λv z=>by rw[d]at z;cases z
 keep:=λi h M st k=>st.at λo e=>k it 21#0 o e
 item:=by
  intro X g j Q L i A s U H E I Y st y;subst g j Q
  revert y;show aR λf x T B=>?_
  show 108#(λN O p m=>?_)
  show ah (λu r n=>?_) (O.get B)
  show eO (λG R l F v C=>?_) (Y it 21#0)
  show wpAny_pyNext_list_item st p.isList (by simpa using r) λM q D=>?_
  have J:=I.turned (t':=s.toks) (λb o Z e=>(D.2 b Z).trans e) G R F v C
  show az (λo e c d=>?_) (id q)
  show ae u rl (wM (s:={ s with heap:=M}) e c d 4#0 (cL x H J n 25#(λt W=>by rw[I.lG W T];show B) q (λb Z=>(Y b Z).1)))
 done:=by
  intro X g j Q L i A s U H E I Y st y;subst g j Q
  revert y;show ah λf T B=>?_
  show 108#(λN O p m=>?_)
  show eO (λG R l F v C=>?_) (Y it 21#0)
  have S:=O.length;show wpAny_pyNext_list_end (I.ok.hd L) st p.isList (by simp;lia) λM q=>25#(I.turned (t':=s.toks) (λb o Z e=>q b o Z e) G R F v C)
 self:=λ_ _ _ _ _ st h=>wpAny_pyIter_listiter st h
def CV{K}(a it):Turn P w K tg (Rk K a) [it] it (λi h=>h.IsTupleIter it a i) where
 mem:=by simp
 obj:=λi h st b Z=>by
  have e:b=it:=85#0
  subst e
  revert st;show az λo e c d=>?_
  show ae o e λv z=>by rw[d]at z;cases z
 keep:=λi h M st k=>st.at λo e=>k it 21#0 o e
 item:=by
  intro X g j Q L i A s U H E I Y st y;subst g j Q
  revert y;show aR λf x T B=>?_
  show az (λN O p m=>?_) (I.tuple T)
  show ah (λu r n=>?_) (O.get B)
  show eO (λG R l F v C=>?_) (Y it 21#0)
  show wpAny_pyNext_tuple_item st (p) (by simpa using r) λM q D=>?_
  have J:=I.turned (t':=s.toks) (λb o Z e=>(D.2 b Z).trans e) G R F v C
  show az (λo e c d=>?_) (id q)
  show ae u rl (wM (s:={ s with heap:=M}) e c d 4#0 (cL x H J n 25#(λt W=>by rw[I.wL W T];show B) q (λb Z=>(Y b Z).1)))
 done:=by
  intro X g j Q L i A s U H E I Y st y;subst g j Q
  revert y;show ah λf T B=>?_
  show az (λN O p m=>?_) (I.tuple T)
  show eO (λG R l F v C=>?_) (Y it 21#0)
  have S:=O.length;show wpAny_pyNext_tuple_end (I.ok.hd L) st (show s.heap.IsTuple a N.toArray from p) (by simp;lia) λM q=>25#(I.turned (t':=s.toks) (λb o Z e=>q b o Z e) G R F v C)
 self:=λ_ _ _ _ _ st h=>wpAny_pyIter_tupleiter st h
def CW{K}(it)(lo)(n):Turn P w K tg (Jz lo n) [it] it (λi h=>IsRangeIter h it (lo+(i:Nat)*1) ((n:Int)-(i:Nat)) 1) where
 mem:=by simp
 obj:=λi h st b Z=>by
  have e:b=it:=85#0
  subst e;show ae _ st λv z=>by
   have y:=z;cases y
 keep:=λi h M st k=>k it 21#0 _ st
 item:=by
  intro X g j Q L i A s U H E I Y st y;subst g j Q;show eO (λG R l F c C=>?_) (Y it 21#0)
  have W:=Walks.range (prog:=X.prog) (w:=X.w) (I.ok.hd L) it lo 1 n;show W.item i s _ _ y st λv M D a q m=>?_
  obtain⟨t,rfl⟩:=a;have J:θ X A U H { s with heap:=M,toks:=D}:=I.turned (λb o Z e=>m b o (85#0) e) G R F c C
  show ae _ rl (wM q rl rl 4#0 (cL (.int (lo+i)) H J ⟨t,?_⟩ ⟨rfl,rfl⟩ q (λb Z=>(Y b Z).1)))
  rw[Int.mul_one]
 done:=by
  intro X g j Q L i A s U H E I Y st y;subst g j Q;show eO (λG R l F c C=>?_) (Y it 21#0)
  show wpAny_pyNext_range_end (I.ok.hd L) st (by have:n<=i:=y;lia) λM q=>25#(I.turned (λb o Z e=>q b o Z e) G R F c C)
 self:=λ_ _ _ _ _ st h=>wpAny_pyIter_rangeiter st h
section
variable {X:Cx}{tg:Expr}
def Fo(K:b7)(d:TE):TI:=λU H R=>d U H λx N=>∃a,x = .ref a/\(∃f,aH K N a f)/\R (Jp K a) N
def ML(K:b7)(d:TE):TI:=λU H R=>d U H λx N=>∃a,x = .ref a/\(∃f,aY K N a f)/\R (Rk K a) N
def Fp(S:PE X l d):PI X tg l (Fo X.K d):=by
 intro A s U H R I h;show dW 37#S λv w=>aA λx N J B P=>?_
 revert P;show az λa e c q=>?_;obtain⟨f,T⟩:=c
 subst e;cases B;show az (λg O p m=>?_) (J.list T)
 show wpAny_pyIter_list p.isList ?_;show dU w.heap.objs.size [w.heap.objs.size] _ (aQ _ N rl (J.kept λb o e=>XM _ e) (wN a _) (au _ (X6 _ rl) rl rl) (λb Z=>?_) q)
 have e:b=w.heap.objs.size:=85#0
 subst e;show J.vA (XJ _) (J.hok.fresh (XJ _))
def JA(S:PE X l d):PI X tg l (ML X.K d):=by
 intro A s U H R I h;show dW 37#S λv w=>aA λx N J B P=>?_
 revert P;show az λa e g q=>?_;obtain⟨f,T⟩:=g
 subst e;cases B;show az (λc O p m=>?_) (J.tuple T)
 show wpAny_pyIter_tuple (p) ?_;show dU w.heap.objs.size [w.heap.objs.size] _ (aQ _ N rl (J.kept λb o e=>XM _ e) (CV a _) (au _ (X6 _ rl) rl rl) (λb Z=>?_) q)
 have e:b=w.heap.objs.size:=85#0
 subst e;show J.vA (XJ _) (J.hok.fresh (XJ _))
def Am{A:cM}{U:St}{lo hi}(I:θ X A U H s)(G : -(2^62)<=lo)(C:lo<2^62)(l : -(2^62)<=hi)(c:hi<2^62)
 (q:R (Jz lo (hi-lo).toNat) H):wpAny 8#0 X.A (pyIter (23#.ref)) (Vn X A U tg R) E { s with heap:=s.heap.push { cls:=.type "range",data:=.fields #[.int lo t,.int hi u,.int 1 v]},toks:=d}:=by
 show wpAny_pyIter_range (IsRange.new ..) (small_one G C l c) ?_;have a:θ X A U H { s with heap:=s.heap.push { cls:=.type "range",data:=.fields #[.int lo t,.int hi u,.int 1 v]},toks:=d}:=I.kept λb o e=>XM _ e
 show dU (36#{ cls:=.type "range",data:=.fields #[.int lo t,.int hi u,.int 1 v]}) [36#{ cls:=.type "range",data:=.fields #[.int lo t,.int hi u,.int 1 v]}] _ (aQ _ H rfl (a.kept λb o e=>XM _ e) (CW _ lo (hi-lo).toNat) ?_ (λb Z=>?_) q)
 .have J:lo+((0:Nat))*1=lo:=by simp
  have D:(((hi-lo).toNat:Nat))-((0:Nat))=Builtin.Range.rangeSize lo hi 1:=by rw[rangeSize_one];split<;>lia
  rw[J,D];show X6 _ rfl
 .have e:b=36#{ cls:=.type "range",data:=.fields #[.int lo t,.int hi u,.int 1 v]}:=85#0
  subst e;show a.vA (XJ _) (a.hok.fresh (XJ _))
def RI(z:TA):TI:=λU H R=>z U H λY N=>∃j:Int,Y=[.int j]/\-(2^62)<=j/\j<2^62/\R (Jz 0 j.toNat) N
def RJ(z:TA):TI:=λU H R=>z U H λY N=>∃i j:Int,Y=[.int i,.int j]/\(-(2^62)<=i/\i<2^62/\-(2^62)<=j/\j<2^62)/\R (Jz i (j-i).toNat) N
def cZ{a:Expr}{z:TA}{p l:Pos}(y:Gl X "range")(d:X.mg "range"=none)(C:PA X [a] z)(W:12#([a])=[29#a]:=by rfl):PI X tg (.Call (.Name "range" p) [a] [] l) (RI z):=by
 intro A s U H R I h;show Call_ (jy I y d boot_range (Zk (dW (C l A s U H _ I h) λg w=>aA λY N J B P=>?_) W rl))
 revert P;show d8 λj e P E q=>?_
 subst e;cases B with
 | cons r F =>
   cases F;obtain⟨t,rfl⟩:=r;show call_range_1 (Am J (by lia) (by lia) P E (by simpa using q))
def ql{a b:Expr}{z:TA}{p l:Pos}(y:Gl X "range")(d:X.mg "range"=none)(C:PA X [a,b] z)(W:12#([a,b])=[29#a,29#b]:=by rfl)(v:12#([b])=[29#b]:=by rfl):
 PI X tg (.Call (.Name "range" p) [a,b] [] l) (RJ z):=by
 intro A s U H R I h;show Call_ (jy I y d boot_range (Zk (dW (C l A s U H _ I h) λg w=>aA λY N J B P=>?_) (by rw[W,v]) (by rw[v];rfl)))
 revert P;show aA λi j e f q=>?_;obtain⟨P,E,T,c⟩:=f
 subst e;cases B with
 | cons r F =>
   cases F with
   | cons k F =>
     cases F;obtain⟨t,rfl⟩:=r;obtain⟨m,rfl⟩:=k;show call_range_2 (Am J P E T c q)
def iA(a:TI)(g:TG)(tb:TS):TS:=λD U H=>a U H λJ b=>∃W:Nat->94#St,(∃m,W 0 m U b)/\∀i m U H,W i m U H->
 (J.stop i H/\D.nx U H)\/(J.go i H/\∃N:St->Hp->Prop,(∀P M,N P M->∃B,B<m/\W (i+1) B P M)/\∀x M,J.G3 i H x M->g x U M λk O=>tb { D with nx:=N,ct:=N,bk:=D.nx} k O)
def sO(a:List Addr)(h:Heap):cM:=a.filterMap λb=>(h.get? b).map λo=>(b,o)
def j9{h:Heap}(Z:b∈a)(e:47#h.get?):(b,o)∈sO a h:=Z9.mpr (ae b Z (by rw[e];rfl))
def G4(t:p∈sO a h):p.1∈a/\h.get? p.1=some p.2:=by
 show ah (λb Z e=>?_) (Z9.mp t)
 cases q:h.get? b with
 | none=>rw[q]at e;cases e
 | some o =>
   rw[q]at e;have T:=13#e;subst T;show⟨Z,q⟩
def θ.pinned{A:cM}{U:St}(I:θ X A U H s)(Y:∀b∈a,nQ X A H b)(F:∀b∈a,∃o,18#o/\∀v,o.data≠.cell v):θ X (A++sO a s.heap) U H s :=
 I.gF λp t=>(Ye.mp t).elim (λz=>I.pin p (iX _ z)) λz=>by
  obtain⟨Z,e⟩:=G4 z;show mF (λG R l _=>?_) (Y p.1 Z)
  show ah (λo T d=>?_) (F p.1 Z)
  rw[e]at T;cases T;show fE e G R l d
def θ.oA{A D:cM}{U:St}(I:θ X (A++D) U H s):θ X A U H s:=I.gF λp t=>I.pin p (iX _ (OM _ t))
def dw{iter:Expr}{p:List Stmt}{a:TI}{g:TG}{tb:TS}{l:Pos}(t:PassesOwn 8#0 X.A X.env X.xe)(L:X.calm=true)(F:PI X tg iter a)(y:PG X tg g)(Z:oj X p tb)
 (b:∀x,foldedSetIterable iter X.env x=pure x:=by intro _;rfl):PS X (.For tg iter p [] l) (iA a g tb):=by
 intro A s U H D I h;show wpAny_For (dW 37#F λv w G=>dW G λa c C=>?_) b
 revert C;show eR λd a o=>bD λJ O e Y T=>bL λj c W b r=>?_;obtain⟨h,k⟩:=b
 subst e;have g:∀{M:Hp},(∀b∈a,M b=none)->∀b∈a,nQ X A M b:=λd b Z=>⟨d b Z,(c b Z).2⟩
 show codeAny_forLoop_any (λn f=>∃i d M,θ X A d M f/\o i f.heap/\(∀b∈a,M b=none)/\W i n d M) ?_ h ⟨0,(aM U O Y j (λb Z=>(c b Z).1) k)⟩
 intro n k;show eu λi=>bD λR c j l h f=>?_
 rcases r i n R c f with⟨u,q⟩|⟨m,N,p,step⟩
 .show wpAny_passesOwn t (dW (T.done X rl rl rl L i A k R c X.xe j (g h) l u) λr s f=>?_)
  obtain⟨P,z⟩:=f;subst P;show wpAny_execs_nil (bf R c z q)
 .show wpAny_passesOwn t (dW (T.item X rl rl rl L i A k R c X.xe j (g h) l m) λr s=>ah λu P E=>?_)
  subst P;show wpAny_passesOwn t (dW E λ_ k=>eX λx f c m q j l=>?_)
  have h:=c.pinned (g l) (T.obj _ _ j);show wpAny_passesOwn t (dW (y _ k R f x u _ h m (step x f q)) λ_ S=>aR λr g c l=>?_)
  show wpAny_passesOwn t (dW (Z _ S r g _ c l) λf h z=>?_)
  have again:∀{c:St} {q:Hp},θ X (A++sO a k.heap) c q h->N c q->∃m,m<n/\∃i d M,θ X A d M h/\o i h.heap/\(∀b∈a,M b=none)/\W i m d M:=λ{c q} Q g=>by
   show ah (λB a d=>?_) (p c q g)
   show⟨B,(b9 a (i+1) (aM c q Q.oA (T.keep _ _ _ j λb Z o e=>(Q.pin (b,o) (iX _ (iX _ (j9 Z e)))).1) (λb Z=>?_) d))⟩
   show ah (λo e d=>?_) (T.obj _ _ j b Z)
   show(Q.pin (b,o) (iX _ (iX _ (j9 Z e)))).2.1
  cases f with
  | next=>revert z;show aR λc q Q g=>?_;show again Q g
  | cont=>revert z;show aR λc q Q g=>?_;show again Q g
  | brk=>revert z;show aR λc q Q z=>?_;show bf c q Q.oA z
  | ret v=>revert z;show cy λd c q Q o z=>?_;show⟨d,(ao c q Q.oA o z)⟩
end
def oB{K:b7}{xs:List V}{g:TG}{tb:TS}{D:Ends}(d:94#St)(J:d 0 U H)(S:∀i U H,i<=xs.length->d i U H->aH K H a xs)
 (c:∀i x U H,xs[i]?=some x->d i U H->g x U H λk O=>tb { D with nx:=d (i+1),ct:=d (i+1),bk:=D.nx} k O) (j:∀U H,d xs.length U H->D.nx U H) :
 ∃W:Nat->94#St,(∃m,W 0 m U H)/\∀i m U H,W i m U H->
   ((Jp K a).stop i H/\D.nx U H)\/((Jp K a).go i H/\∃N:St->Hp->Prop,(∀P M,N P M->∃B,B<m/\W (i+1) B P M)/\∀x M,(Jp K a).G3 i H x M->g x U M λk O=>tb { D with nx:=N,ct:=N,bk:=D.nx} k O):=by
 show ae (λi m U H=>m=xs.length-i/\i<=xs.length/\d i U H) (au xs.length 21#0 (Yo _) J) ?_
 intro i m U H;show c5 λb F p=>?_;subst b
 have q:=S i U H F p
 by_cases Z:i<xs.length
 .show .inr (bX (bf xs (xs[i]) q (by simp[Z])) (d (i+1)) (λP M R=>cS (xs.length-(i+1)) (by lia) rl Z R) (λx M y=>?_))
  obtain⟨e,y⟩:=y;subst e;show c i x U _ (y xs q) p
 .have e:i=xs.length:=by lia
  subst e;show .inl ⟨ae xs q (XJ _),j U H p⟩
def Fq{K:b7}{xs:List V}{g:TG}{tb:TS}{D:Ends}(d:94#St)(J:d 0 U H)(S:∀i U H,i<=xs.length->d i U H->aY K H a xs)
 (c:∀i x U H,xs[i]?=some x->d i U H->g x U H λk O=>tb { D with nx:=d (i+1),ct:=d (i+1),bk:=D.nx} k O) (j:∀U H,d xs.length U H->D.nx U H) :
 ∃W:Nat->94#St,(∃m,W 0 m U H)/\∀i m U H,W i m U H->
   ((Rk K a).stop i H/\D.nx U H)\/((Rk K a).go i H/\∃N:St->Hp->Prop,(∀P M,N P M->∃B,B<m/\W (i+1) B P M)/\∀x M,(Rk K a).G3 i H x M->g x U M λk O=>tb { D with nx:=N,ct:=N,bk:=D.nx} k O):=by
 show ae (λi m U H=>m=xs.length-i/\i<=xs.length/\d i U H) (au xs.length 21#0 (Yo _) J) ?_
 intro i m U H;show c5 λb F p=>?_;subst b
 have q:=S i U H F p
 by_cases Z:i<xs.length
 .show .inr (bX (bf xs (xs[i]) q (by simp[Z])) (d (i+1)) (λP M R=>cS (xs.length-(i+1)) (by lia) rl Z R) (λx M y=>?_))
  obtain⟨e,y⟩:=y;subst e;show c i x U _ (y xs q) p
 .have e:i=xs.length:=by lia
  subst e;show .inl ⟨ae xs q (XJ _),j U H p⟩
def iP{lo}{g:TG}{tb:TS}{D:Ends}(d:94#St)(J:d 0 U H)
 (b:∀i U H,i<n->d i U H->g (.int (lo+i)) U H λk O=>tb { D with nx:=d (i+1),ct:=d (i+1),bk:=D.nx} k O) (j:∀U H,d n U H->D.nx U H) :
 ∃W:Nat->94#St,(∃m,W 0 m U H)/\∀i m U H,W i m U H->
   ((Jz lo n).stop i H/\D.nx U H)\/((Jz lo n).go i H/\∃N:St->Hp->Prop,(∀P M,N P M->∃B,B<m/\W (i+1) B P M)/\∀x M,(Jz lo n).G3 i H x M->g x U M λk O=>tb { D with nx:=N,ct:=N,bk:=D.nx} k O):=by
 show ae (λi m U H=>m=n-i/\i<=n/\d i U H) (au n 21#0 (Yo _) J) ?_
 intro i m U H;show c5 λa F p=>?_;subst a
 by_cases Z:i<n
 .show .inr (bX Z (d (i+1)) (λP M R=>cS (n-(i+1)) (by lia) rl Z R) (λx M y=>?_))
  obtain⟨e,y⟩:=y;subst e y;show b i U _ Z p
 .have e:i=n:=by lia
  subst e;show .inl ⟨XJ _,j U H p⟩
abbrev R2:=V->90#V
def jz(X:Cx)(f:Value->Value->Sem Value)(r:R2):Prop :=
 ∀pq s (σ:St) H x y v u Q,5#H->ο x v->ο y u->r x y H Q->
   wpAny 8#0 X.A (f v u) (EP X pq σ Q) X.xe s
def TV(X:Cx)(f:Value->Sem Value)(r:90#V):Prop :=
 ∀pq s (σ:St) H x v Q,5#H->ο x v->r x H Q->
   wpAny 8#0 X.A (f v) (EP X pq σ Q) X.xe s
def fX(X:Cx)(f:Value)(r:90#(List V)):Prop :=
 ∀pq s (σ:St) H xs us Q,5#H->ξ xs us->r xs H Q->
   wpAny 8#0 X.A (call f us) (EP X pq σ Q) X.xe s
def Pp(r:R2)(z tb:TE):TE:=λU H Q=>z U H λx N=>tb U N λy O=>r x y O Q
def We(r:90#V)(z:TE):TE:=λU H Q=>z U H λx N=>r x N Q
def rI(C:Int->Int->Prop)(g:Int->Int->V):R2:=λx y H Q=>∃i j,x = .int i/\y = .int j/\C i j/\Q (g i j) H
def G5(g:Int->Int->V):R2:=λx y H Q=>∃i j,x = .int i/\y = .int j/\Q (g i j) H
def rU(g:Int->V):90#V:=λx H Q=>∃i,x = .int i/\Q (g i) H
section
variable {X:Cx}
def Pq(C:PE X a z)(Z:PE X b tb){A:cM}{U:St}{R:V->V->Hp->Prop}(I:θ X A U H s)
 (h:z U H λx N=>tb U N λy O=>R x y O) {f:Value->Value->Sem Value}
 (Y:∀v u M x y O,θ X A U O M->ο x v->ο y u->R x y O->wpAny 8#0 X.A (f v u) Q X.xe M) :
 wpAny 8#0 X.A (eval a X.env) (λv d=>wpAny 8#0 X.A (eval b X.env) (λu q=>wpAny 8#0 X.A (f v u) Q X.xe q) X.xe d) X.xe s:=by
 show dW 37#C λv w=>aA λx N J B P=>?_
 show dW (Z A w U N _ J P) λu M=>aA λy O c p E=>?_
 show Y v u M x y O c B p E
def aJ(F:jz X (binaryOp op) r)(C:PE X a z)(Z:PE X b tb):PE X (.BinOp a op b l) (Pp r z tb):=by
 show 63;show wpAny_BinOp (Pq C Z I h λv u M x y O Y c L q=>F A M U O x y v u Q Y c L q)
def oE(F:TV X (unaryOp op) r)(C:PE X a z):PE X (.UnaryOp op a l) (We r z):=by
 show 63;show UnaryOp_ (dW 37#C λv w=>aA λx N J B P=>?_)
 show F A w U N x v Q J B P
def OO{g:Int->Int->Int}
 (rule:∀i j t u s Q E,C i j->Q (.int (g i j) s.toks) { s with toks:=s.toks+1}->wpAny 8#0 X.A (f (.int i t) (.int j u)) Q E s) :
 jz X f (rI C λi j=>.int (g i j)):=by
 intro A s U H x y v u Q I c e h
 revert h;show bD λi j b a L q=>?_;subst b a
 show 60;obtain⟨d,rfl⟩:=e;show rule i j t d s _ _ L (ao (.int (g i j)) H (I.tok _) 110#0 q)
def CY{g:Int->Int->Int}
 (rule:∀i j t u s Q E,Q (.int (g i j) s.toks) { s with toks:=s.toks+1}->wpAny 8#0 X.A (f (.int i t) (.int j u)) Q E s) :
 jz X f (G5 λi j=>.int (g i j)):=by
 show 95
 revert h;show aA λi j b a q=>?_;subst b a
 show 60;show 74;show rule i j t d s _ _ (ao (.int (g i j)) H (I.tok _) 110#0 q)
def MM{g:Int->Int->Bool}
 (rule:∀i j t u s Q E,Q (.bool (g i j)) s->wpAny 8#0 X.A (f (.int i t) (.int j u)) Q E s) :
 jz X f (G5 λi j=>.bl (g i j)):=by
 show 95
 revert h;show aA λi j a b q=>?_;subst a b
 show 60;show 74;show rule i j t d s _ _ (ao (.bl (g i j)) H I rl q)
def Pr(i j:Int):Prop:=0<j/\j<1073741824
def RK(i j:Int):Prop:=0<=j/\j<=1000000/\i.natAbs<2^64
def Pu(i j:Int):Prop:=(-(2^64)<i/\i<2^64)\/(-(2^64)<j/\j<2^64)
def Pu.ok(h:Pu i j):IntMulOk i j:=by
 rcases h with⟨G,C⟩|⟨G,C⟩
 .show .of_left (intBits_le_64 G C)
 .show .of_right (intBits_le_64 G C)
def CZ(k):(0:Int)<=2^k:=by
 rw[two_pow_cast];show a! _
def fF:jz X (binaryOp .Add) (G5 λi j=>.int (i+j)):=CY λ_ _ _ _ _ _ _ q=>add_int q
def gZ:jz X (binaryOp .Sub) (G5 λi j=>.int (i-j)):=CY λ_ _ _ _ _ _ _ q=>sub_int q
def sP:jz X (binaryOp .Mult) (rI Pu λi j=>.int (i*j)):=OO λ_ _ _ _ _ _ _ L q=>mul_int q L.ok
def kc:jz X (binaryOp .FloorDiv) (rI Pr λi j=>.int (i/j)):=OO λi j _ _ _ _ _ L q=>by
 have G:=L.1;have C:=L.2;show floordiv_int (by lia) (by rw[Int.fdiv_eq_ediv_of_nonneg i (by lia)];show q) (.inl (PyProof.noPylong_small (by lia)))
def eS:jz X (binaryOp .Mod) (rI (λ_ j=>0<j) λi j=>.int (i%j)):=OO λi j _ _ _ _ _ L q=>by
 have G:=L;show mod_int' (by lia) (by rw[Int.fmod_eq_emod_of_nonneg i (by lia)];show q)
def yz:jz X (binaryOp .Pow) (rI RK λi j=>.int (i^j.toNat)):=OO λ_ _ _ _ _ _ _ L q=>pow_int_small L.1 L.2.1 L.2.2 q
def jA:jz X (binaryOp .LShift) (rI RK λi j=>.int (i*2^j.toNat)):=OO λ_ _ _ _ _ _ _ L q=>lshift_int_small L.1 L.2.1 L.2.2 q
def JB:jz X (binaryOp .RShift) (rI (λ_ j=>0<=j) λi j=>.int (i/2^j.toNat)):=OO λi j _ _ _ _ _ L q =>
 rshift_int L (by rw[Int.fdiv_eq_ediv_of_nonneg i (CZ _)];show q)
def JC:jz X (binaryOp .BitAnd) (G5 λi j=>.int (Builtin.bitAnd i j)):=CY λ_ _ _ _ _ _ _ q=>and_int q
def g4:jz X (binaryOp .BitXor) (G5 λi j=>.int (Builtin.bitXor i j)):=CY λ_ _ _ _ _ _ _ q=>xor_int q
def Ft:jz X (inplaceOp .Add) (G5 λi j=>.int (i+j)):=CY λ_ _ _ _ _ _ _ q=>iadd_int q
def JD:jz X (inplaceOp .BitOr) (G5 λi j=>.int (Builtin.bitOr i j)):=CY λ_ _ _ _ _ _ _ q=>ior_int q
def r4:jz X (inplaceOp .BitXor) (G5 λi j=>.int (Builtin.bitXor i j)):=CY λ_ _ _ _ _ _ _ q=>ixor_int q
def Wf{g:Int->Int}
 (rule:∀i t s Q E,Q (.int (g i) s.toks) { s with toks:=s.toks+1}->wpAny 8#0 X.A (f (.int i t)) Q E s) :
 TV X f (rU λi=>.int (g i)):=by
 intro A s U H x v Q I c h
 revert h;show ah λi a q=>?_;subst a
 show 60;show rule i t s _ _ (ao (.int (g i)) H (I.tok _) 110#0 q)
def kg:TV X (unaryOp .USub) (rU λi=>.int (-i)):=Wf λ_ _ _ _ _ q=>neg_int q
end
def RL:V->V->Bool
 | .fg,.fg=>true | .fg,.int _=>true | .int _,.fg=>true | .fg,.bl _=>true | .bl _,.fg=>true | .fg,.str _=>true | .str _,.fg=>true
 | .int _,.int _=>true | .bl _,.bl _=>true | .str _,.str _=>true | .Jm _,.Jm _=>true
 | .int _,.str _=>true | .str _,.int _=>true | .bl _,.str _=>true | .str _,.bl _=>true
 | _,_=>false
def Wg:R2:=λx y H Q=>RL x y=true/\Q (.bl (decide (x=y))) H
def Wh:R2:=λx y H Q=>RL x y=true/\Q (.bl (! decide (x=y))) H
def Fv:9#(V.int i=V.int j)=(i==j):=by
 rw[YG];simp
def JE:9#(V.bl i=V.bl j)=(i==j):=by
 rw[YG];simp
def Fw:9#(V.str i=V.str j)=(i==j):=by
 rw[YG];simp
def Fy:9#(V.Jm i=V.Jm j)=(i.toList==j.toList):=by
 rw[YG];cases i;cases j;simp
section
variable {X:Cx}
def cB{A:cM}{U:St}(I:θ X A U H s)(q:Q (.bl k) H)(e:k=b):EP X A U Q (.bool b) s:=by
 subst e;show ao (.bl k) H I rl q
def cN:jz X 115#.Eq Wg:=by
 show 95;obtain⟨W,q⟩:=h;cases x with
 | fg =>
   cases c;cases y with
   | fg=>cases L;show PySem.EqNone.eq_none_none (cB I q 21#0)
   | bl j=>cases L;show PySem.EqNone.eq_none_bool (cB I q 21#0)
   | int j=>show 74;show PySem.EqNone.eq_none_int (cB I q 21#0)
   | str j=>show 74;show PySem.EqNone.eq_none_str (cB I q 21#0)
   | _=>show absurd (W) XZ
 | bl i =>
   cases c;cases y with
   | fg=>cases L;show PySem.EqNone.eq_bool_none (cB I q 21#0)
   | bl j=>cases L;show eq_bool (cB I q JE)
   | str j=>show 74;show PySem.EqMixed.eq_bool_str (cB I q 21#0)
   | _=>show absurd (W) XZ
 | int i =>
   show 60;cases y with
   | fg=>cases L;show PySem.EqNone.eq_int_none (cB I q 21#0)
   | int j=>show 74;show eq_int (cB I q Fv)
   | str j=>show 74;show PySem.EqMixed.eq_int_str (cB I q 21#0)
   | _=>show absurd (W) XZ
 | str i =>
   show 60;cases y with
   | fg=>cases L;show PySem.EqNone.eq_str_none (cB I q 21#0)
   | bl j=>cases L;show PySem.EqMixed.eq_str_bool (cB I q 21#0)
   | int j=>show 74;show PySem.EqMixed.eq_str_int (cB I q 21#0)
   | str j=>show 74;show eq_str (cB I q Fw)
   | _=>show absurd (W) XZ
 | Jm i =>
   show 60;cases y with
   | Jm j=>show 74;show PySem.W.eq_bytes (cB I q Fy)
   | _=>show absurd (W) XZ
 | _=>cases y<;>show absurd (W) XZ
def gX:jz X 115#.NotEq Wh:=by
 show 95;obtain⟨W,q⟩:=h;cases x with
 | fg =>
   cases c;cases y with
   | fg=>cases L;show PySem.EqNone.ne_none_none (cB I q 21#0)
   | bl j=>cases L;show PySem.EqNone.ne_none_bool (cB I q 21#0)
   | int j=>show 74;show PySem.EqNone.ne_none_int (cB I q 21#0)
   | str j=>show 74;show PySem.EqNone.ne_none_str (cB I q 21#0)
   | _=>show absurd (W) XZ
 | bl i =>
   cases c;cases y with
   | fg=>cases L;show PySem.EqNone.ne_bool_none (cB I q 21#0)
   | bl j=>cases L;show ne_bool (cB I q (Yq not JE))
   | str j=>show 74;show PySem.EqMixed.ne_bool_str (cB I q 21#0)
   | _=>show absurd (W) XZ
 | int i =>
   show 60;cases y with
   | fg=>cases L;show PySem.EqNone.ne_int_none (cB I q 21#0)
   | int j=>show 74;show ne_int (cB I q (Yq not Fv))
   | str j=>show 74;show PySem.EqMixed.ne_int_str (cB I q 21#0)
   | _=>show absurd (W) XZ
 | str i =>
   show 60;cases y with
   | fg=>cases L;show PySem.EqNone.ne_str_none (cB I q 21#0)
   | bl j=>cases L;show PySem.EqMixed.ne_str_bool (cB I q 21#0)
   | int j=>show 74;show PySem.EqMixed.ne_str_int (cB I q 21#0)
   | str j=>show 74;show ne_str (cB I q (Yq not Fw))
   | _=>show absurd (W) XZ
 | Jm i =>
   show 60;cases y with
   | Jm j=>show 74;show PySem.W.ne_bytes (cB I q (Yq not Fy))
   | _=>show absurd (W) XZ
 | _=>cases y<;>show absurd (W) XZ
def wO:jz X 115#.Lt (G5 λi j=>.bl (decide (i<j))):=MM λ_ _ _ _ _ _ _ q=>lt_int q
def JF:jz X 115#.LtE (G5 λi j=>.bl (decide (i<=j))):=MM λ_ _ _ _ _ _ _ q=>le_int q
def jI:jz X 115#.Gt (G5 λi j=>.bl (decide (j<i))):=MM λ_ _ _ _ _ _ _ q=>gt_int q
def An:jz X 115#.GtE (G5 λi j=>.bl (decide (j<=i))):=MM λ_ _ _ _ _ _ _ q=>ge_int q
def G6:jz X 115#.In (λx y H Q=>∃i j,x = .str i/\y = .str j/\Q (.bl (!(Builtin.Str.occurrences j i 0 j.length 1).isEmpty)) H):=by
 show 95
 revert h;show aA λi j b a q=>?_;subst b a
 show 60;show 74;show in_str (cB I q rl)
def nR:jz X 115#.Is (λx y H Q=>y = .fg/\Q (.bl (9#(x = .fg))) H):=by
 show 95;obtain⟨rfl,q⟩:=h;cases L;show is_none_gen (cB I q ?_);cases x<;>first
  | (cases c;rfl)
  | (show 60;rfl)
def r5:jz X 115#.IsNot (λx y H Q=>y = .fg/\Q (.bl (! 9#(x = .fg))) H):=by
 show 95;obtain⟨rfl,q⟩:=h;cases L;show isnot_none_gen (cB I q ?_);cases x<;>first
  | (cases c;rfl)
  | (show 60;rfl)
def aE(b:Expr){op:CmpOp}(h:op≠.In:=by decide)(C:op≠.NotIn:=by decide):behindInMarks op b=false:=by
 have J:(op==CmpOp.In)=false:=by cases op<;>first | rfl | show absurd rl h
 have D:(op==CmpOp.NotIn)=false:=by cases op<;>first | rfl | show absurd rl C
 cases b<;>simp[behindInMarks,J,D]
def cQ(F:jz X 115#op r)(C:PE X a z)(Z:PE X b tb)(d:behindInMarks op b=false):PE X (.Compare a [op] [b] l) (Pp r z tb):=by
 show 63;show wpAny_Compare1 (Pq C Z I h λv u M x y O Y c L q=>F A M U O x y v u Q Y c L q) d
def RN(t:TE):TT:=λU H Q=>t U H λx M=>∃k,x = .bl k/\Q k M
def aD(F:jz X 115#op r)(C:PE X a g)(Z:PE X b tb)(d:behindInMarks op b=false):PT X (.Compare a [op] [b] l) (RN (Pp r g tb)):=by
 show 63;show wpAny_isTrue_Compare1 (dW 37#C λv w=>aA λx N J B P=>dW (Z A w U N _ J P) λu M=>aA λy O Y p E=>
  dW (F A M U O x y v u _ Y B p E) λc i=>aR λz f j=>bE λn k e T=>?_) d
 subst e;cases n;show wpAny_truthy_bool (ae f j T)
def lI:(sizeLine:Nat)<2^63:=by rw[sizeLine_eq];decide
def sQ:jz X (binaryOp .Add) (λx y H Q=>∃i j,x = .str i/\y = .str j/\33#(i.length+j.length)/\Q (.str (i++j)) H):=by
 show 95
 revert h;show bD λi j a b m q=>?_;subst a b
 show 60;show 74;show add_str (λd D=>ao (.str (i++j)) H (I.tok _) 110#0 q) m
def vals1(r:ξ [x] g):∃u,g=[u]/\ο x u:=by
 cases r with
 | cons B p=>cases p;show ae _ rl B
def vals2(r:ξ [x,y] g):∃u C,g=[u,C]/\ο x u/\ο y C:=by
 cases r with
 | cons B p =>
   cases p with
   | cons n Z=>cases Z;show ao _ _ rl B n
def qm(L:X.calm=true):fX X (.builtin "max") (λxs H Q=>∃i j,xs=[.int i,.int j]/\Q (.int (if j > i then j else i)) H):=by
 intro A s U H xs g Q I r h
 revert h;show aR λi j a q=>?_;subst a
 show aA (λu C c b e=>?_) (vals2 r);subst c;obtain⟨t,rfl⟩:=b;obtain⟨d,rfl⟩:=e
 show max_two_ints (I.ok.hd L) λM D k=>ao _ H (I.kept k) ?_ q
 by_cases o:j > i
 .rw[XI o,XI o];show 110#0
 .rw[XH o,XH o];show 110#0
def wQ(L:X.calm=true):fX X (.builtin "min") (λxs H Q=>∃i j,xs=[.int i,.int j]/\Q (.int (if j<i then j else i)) H):=by
 intro A s U H xs g Q I r h
 revert h;show aR λi j b q=>?_;subst b
 show aA (λu C c a e=>?_) (vals2 r);subst c;obtain⟨t,rfl⟩:=a;obtain⟨d,rfl⟩:=e
 show min_two_ints (I.ok.hd L) λM D k=>ao _ H (I.kept k) ?_ q
 by_cases o:j<i
 .rw[XI o,XI o];show 110#0
 .rw[XH o,XH o];show 110#0
def gG:fX X (.type "str") (λxs H Q=>∃i,xs=[.int i]/\i.natAbs.log2<1920/\Q (.str (toString i)) H):=by
 intro A s U H xs g Q I r h
 revert h;show az λi b m q=>?_;subst b
 show ah (λu c=>eu λt a=>?_) (vals1 r);subst c a
 show PySem.P.str_of_int m (ao (.str _) H (I.tok _) 110#0 q)
end
def G7{h:Heap}(n:h.Ns1 g p):∃m,h.get? g=some m/\∀name,PySem.W.lookIn name m=some (p name):=by
 revert n;show bV λo b N F j R _ d=>?_
 show ae o F λname=>?_
 have e:=d name;unfold nsFind findBy at e;rw[<-Array.find?_toList]at e;unfold PySem.W.lookIn;rw[j];dsimp only
 split
 .rename_i y q
  rw[q]at e;show Yq some e
 .rename_i q
  rw[q]at e;have a:b.toList.any (·.refKey)=false:=by
   rw[List.any_eq_false];intro y W;obtain⟨z,t,c⟩:=R y (Array.mem_toList_iff.mp W);simp[DictEntry.refKey,c]
  have u : ¬ b.toList.any (·.refKey)=true:=by rw[a];show XZ
  rw[XH u];show Yq some e
def oq.some_of(r:oq (some v) o):∃u,o=some u/\ο v u:=by
 cases o with
 | none=>show(r).elim
 | some u=>show ae u rfl r
def G8(r:ο v u):PySem.W.handedIn u=true:=by
 cases v with
 | fg=>cases(r);rfl
 | bl b=>cases(r);rfl
 | int i=>obtain⟨t,e⟩:=(r);cases e;rfl
 | str x=>obtain⟨t,e⟩:=(r);cases e;rfl
 | Jm b=>obtain⟨t,e⟩:=(r);cases e;rfl
 | S3 b=>obtain⟨t,e⟩:=(r);cases e;rfl
 | ref a=>cases(r);rfl
 | ty n=>cases(r);rfl
section
variable {X:Cx}{pq:cM}{σ:St}{H:Hp}{s:Shared}{a C dx:Addr}{fs:List (Str×V)}{f:Str}{v:V}{A:Around}{E:sG}
def MN(Z:attributeBase e f env (eval e env)=eval e env)
 (h:wpAny 22#w A (eval e env) (λo B=>wpAny 22#w A (getAttr o f true) Q E B) E s):67#(eval (.Attribute e f l) env) :=
 Attribute_any_ h (by rw[arm_eval_Attribute,Z])
end
structure eB(k:Nat)(A:Around):Prop where
 hd:A.handled=none
 dp:A.depth+3*k+5<recursionLimit
 un:A.units+16*k+200<cLine
def eB.mono(r:eB k A)(h:j<=k):eB j A:=⟨r.hd,by have:=r.dp;lia,by have:=r.un;lia⟩
def eB.deeper(r:eB (k+1) A)(env):eB k (A.deeper env) :=
 ⟨r.hd,by have:=r.dp;change A.depth+1+3*k+5<_;lia,by have:=r.un;change A.units+3+16*k+200<_;lia⟩
def eB.in1(r:eB (k+1) A):eB k A.in1 :=
 ⟨r.hd,by have:=r.dp;change A.depth+3*k+5<_;lia,by have:=r.un;change A.units+1+16*k+200<_;lia⟩
def C0{A:Around}:(A.under (.builtin "type.__call__" ⟨.ref C::g,a⟩)).depth=A.depth+1:=by
 first | rfl | simp[Around.under,Code.weight,Code.isCreation,Code.isGuard,Code.isCaller,Code.frames,Code.isFrame,guardIds]
def C1{A:Around}:(A.under (.builtin "type.__call__" ⟨.ref C::g,a⟩)).units=A.units+1:=by
 first | rfl | simp[Around.under,Code.cUnits,Code.frames,Code.isFrame]
def eB.make(r:eB (k+1) A)(C)(us)(kw):eB k (A.under (.builtin "type.__call__" ⟨.ref C::us,kw⟩)) :=
 ⟨r.hd,by have:=r.dp;rw[C0];lia,by have:=r.un;rw[C1];lia⟩
def eB.depth(r:eB k A):A.depth<recursionLimit:=by have:=r.dp;lia
def eB.units(r:eB k A):A.units+64<cLine:=by have:=r.un;lia
def eB.C2(r:eB k A):A.units<cLine:=by have:=r.un;lia
def Pw:TA:=λ_ H Q=>Q [] H
def Fz(z:TE)(tr:TA):TA:=λU H Q=>z U H λx N=>tr U N λf O=>Q (x::f) O
section
variable {X:Cx}{e:Expr}{es:List Expr}{te:TE}{t:TA}
def eF:PA X [] Pw:=λ_ _ _ _ H Q I h=>Calls.spliced_nil (ao [] H I .nil h)
def bU(C:PE X e te)(P:PA X es t)(W:12#(e::es)=29#e::12#es:=by rfl):PA X (e::es) (Fz te t):=by
 intro l A s U H Q I h;rw[W];show Calls.spliced_cons (dW 37#C λu w=>aA λx N J B a=>?_)
 show dW (P l A w U N _ J a) λg M=>aA λf O Y p E=>?_
 show ao (x::f) O Y (.cons B p) E
def TX(t:TA):TE:=λU H Q=>t U H λf N=>33#f.length/\∀p,N p=none->Q (.ref p) (η N p (.tup f))
def TY(t:TA):TE:=λU H Q=>t U H λf N=>33#f.length/\∀p,N p=none->Q (.ref p) (η N p (.lst f))
def cW{x1}(h:PA X es t):PE X (.Tuple es x1 l) (TX t):=by
 intro A s U H Q I T;show wpAny_Tuple_spliced (dW (h l A s U H _ I T) λg w=>bD λf N J r z q=>?_)
 show⟨by rw[<-r.length];show z,?_⟩
 have Y:=J.hok.fresh (XJ _);show ao (.ref w.heap.objs.size) (η N w.heap.objs.size (.tup f)) (J.laid (λb u e=>XM _ e) (XJ _) ?_) rl (q _ Y)
 show bX z g r (ae _ (X6 _ rl) (b9 rl _ rl))
def bF(h:PA X es t):PE X (.List es l) (TY t):=by
 intro A s U H Q I T;show wpAny_List_spliced (dW (h l A s U H _ I T) λg w=>bD λf N J r z q=>?_)
 show⟨by rw[<-r.length];show z,?_⟩
 have Y:=J.hok.fresh (XJ _);show ao (.ref w.heap.objs.size) (η N w.heap.objs.size (.lst f)) (J.laid (λb u e=>XM _ e) (XJ _) ?_) rl (q _ Y)
 show bg z g 0 r (X6 _ rl)
end
abbrev Sp:=List V->Hp->VK->XK->Prop
abbrev Jq:=List Env->Hp->Shared->XK->Value->Shared->Prop
structure yC(P:Program)(w:World)(K:b7)(mg:vy)(base:Heap)(A:Around)(outer:List Env)(s:Shared)(H:Hp):Prop where
 frames:A.frames=some outer
 mod:Mod K mg base
 bs:∀b o,47#base.get?->18#o/\H b=none
 Jo:base.objs.size<=s.heap.objs.size
 funs:s.heap.FunFrames base outer
 Jv:∀b∈frs outer,H b=none
 hok:lC P w H s.heap
 bare:AllBare s.gens
def CE(outer:List Env)(P:Program)(w:World)(H:Hp)(s:Shared)(Q:VK)(u:Value)(G:Shared):Prop :=
 ∃v M,G.os=s.os/\AllBare G.gens/\Un (frs outer) [] H M s.heap G.heap/\lC P w M G.heap/\ο v u/\Q v M
def CR(CX:Jq)(outer:List Env)(P:Program)(w:World)(H:Hp)(s:Shared)(Q:VK)(E:XK)(r:Result)(G:Shared):Prop :=
 match r with
 | .ok (.ret u)=>CE outer P w H s Q u G
 | .ok _=>False
 | .error e=>CX outer H s E e G
structure je(P:Program)(w:World)(K:b7)(mg:vy)(base:Heap)(CX:Jq)(k:Nat)(f:Addr)(fd:FuncData)(ps:List Str)(sp:Sp):Prop where
 len:∀vs H Q E,sp vs H Q E->vs.length=ps.length
 run:∀(A:Around) (outer:List Env) (s:Shared) (H:Hp) (args:Args) (us:62#0) (vs:List V) (Q:VK) (E:XK),eB k A->yC P w K mg base A outer s H->BindsTo s fd args (ps.zip us)->ξ vs us->sp vs H Q E->
  codeAny (model P w) A (.call (.ref f) args) (CR CX outer P w H s Q E) s
def je.imp{K}(F:je P w K mg base CX k f fd i sp)
 (h:∀Y H Q E,c Y H Q E->sp Y H Q E):je P w K mg base CX k f fd i c :=
 ⟨λY H Q E q=>F.len Y H Q E (h _ _ _ _ q),λA b s H m g Y Q E d n Z a W=>F.run A b s H m g Y Q E d n Z a (h _ _ _ _ W)⟩
def yC.make{K}(e:yC P w K mg base A outer s H)(C)(us)(kw):
 yC P w K mg base (A.under (.builtin "type.__call__" ⟨.ref C::us,kw⟩)) outer s H:=⟨by first | show e.frames | (simpa[Around.under,Code.envs,Code.isFrame,pushEnvs]using e.frames),e.mod,e.bs,e.Jo,e.funs,e.Jv,e.hok,e.bare⟩
section
variable  {pq:cM}{σ:St}
def θ.Px(I:5#H):yC X.prog X.w X.K X.mg X.base X.A X.stack s H :=
 ⟨I.ok.frames,I.ok.mod,I.bs,XY I.ok.Jo I.sz,I.stack,I.rY,I.hok,I.bare⟩
def θ.after(I:5#H)(h:CE X.stack X.prog X.w H s Q u G):EP X pq σ Q u G:=by
 revert h;show aR λv M os=>m9 λl un A r q=>?_
 obtain⟨N,g,d,t,a⟩:=G;obtain rfl:a=s.os:=os;show ao v M (I.call un A l (λb z=>absurd z 21#0)) r q
end
def Ao(sp:Sp)(a:List V)(E:XK)(t:TA):TE:=λU H Q=>t U H λY N=>sp (Y++a) N Q E
def Binds(K:b7)(fd:FuncData)(i:List Str)(ds:62#0):Prop :=
 ∀s g,K.In s.heap->27#(g++ds)=i.length->BindsTo s fd ⟨g,[]⟩ (i.zip (g++ds))
def Binds.all{K:b7}{i:List Str}(h:∀g:62#0,g.length=i.length->bindArgs fd ⟨g,[]⟩=pure (i.zip g)):Binds K fd i []:=λs g _ S=>by
 rw[YU]at S ⊢;show .of_eq (h g S)
def Passes(CX:Jq)(X:Cx)(E:XK):Prop:=∀pq (σ:St) H s e s',5#H->CX X.stack H s E e s'->X.xe e s'
section
variable {X:Cx}{CX:Jq}{k:Nat}{f C:Addr}{fd:FuncData}{ps:List Str}{sp:Sp}{MO:List V}{ds:62#0}{E:XK}{x m:Str}{p pos apos:Pos}{e o:Expr}{es:List Expr}{ta:TE}{t:TA}
def JG{A:cM}{U:St}(F:je X.prog X.w X.K X.mg X.base CX k f fd ps sp)(P:eB k X.A)(Z:Binds X.K fd ps ds)(j:ξ MO ds)(B:Passes CX X E)
 (I:θ X A U H s) (r:ξ Y g) (h:sp (Y++MO) H Q E):wpAny 8#0 X.A (call (.ref f) g) (EP X A U Q) X.xe s:=by
 have p:=r.append j;have S:27#(g++ds)=ps.length:=by rw[<-p.length];show F.len _ _ _ _ h
 show wpAny_call (codeAny_mono (F.run X.A X.stack s H ⟨g,[]⟩ (g++ds) (Y++MO) Q E P I.Px (Z s g I.sI S) p h) λr G T=>?_)
 cases r with
 | error e=>show B A U H s e G I T
 | ok a =>
   cases a with
   | ret u=>show I.after T
   | next=>show False.elim T
   | brk=>show False.elim T
   | cont=>show False.elim T
def FA(F:je X.prog X.w X.K X.mg X.base CX k f fd ps sp)(P:eB k X.A)(y:Gl X x)(d:X.mg x=some (.ref f))(R:55#X.K)(Z:Binds X.K fd ps ds)(j:ξ MO ds)(B:Passes CX X E)
 (a:PA X (e::es) t) (b:(x==("__debug__":Str))=false:=by decide) (n:12#(e::es)=29#e::12#es:=by rfl) (c:(backTo pos (12#es)).any (·.1)=false:=by rfl) :
 PE X (.Call (.Name x p) (e::es) [] pos) (Ao sp MO E t):=by
 show 63;show wpAny_Call_Name_kw (mG I y d ?_ b);show C! I.ok.mod.Pe R (dW (a pos A s U H _ I h) λg w=>aA λY N J r q=>⟨J.sI,?_⟩) n c
 show JG F P Z j B J r q
end
structure ez(N P:List Str)(sc:Scope):Prop where
 kind:sc.kind = .function
 co:sc.isCoroutine=false
 gen:sc.isGenerator=false
 nd:N.Nodup
 pre:N.take P.length=P
 par:∀x∈P,sc.names.lookup x=some .local\/sc.names.lookup x=some .cell
 Py:∀y∈sc.names,y.2≠.free
theorem wR{kindOf}:∀{binds} {m},(∀v,(x,v)∉binds)->bindL kindOf binds m x=m x
 | [],_,_=>rfl
 | (n,v)::r,m,h=>by
   unfold bindL;rw[wR λw j=>h w (nc _ j)]
   split
   .have:x≠n:=by rintro rfl;show h v X0
    simp[this]
   .rfl
theorem wU{kindOf}:∀{binds} {m},(∀v,(x,v)∉binds)->bindC kindOf binds m x=m x
 | [],_,_=>rfl
 | (n,v)::r,m,h=>by
   unfold bindC;rw[wU λw j=>h w (nc _ j)]
   split
   .rfl
   .have:x≠n:=by rintro rfl;show h v X0
    simp[this]
theorem wW{kindOf}:∀{P:List Str} {vs} {i:Nat} {m},P.Nodup->P[i]?=some x->vs[i]?=some v->kindOf x=some .local->
 bindL kindOf (P.zip vs) m x=some v
 | [],_,_,_,_,h,_,_=>by simp at h
 | _::_,[],_,_,_,_,h,_=>by simp at h
 | p::P,w::vs,0,m,nd,h1,h2,hk=>by
   simp at h1 h2;subst h1;subst h2;change bindL kindOf ((p,w)::P.zip vs) m p=_;unfold bindL;rw[wR λv a=>(YK.mp nd).1 (J! a).1,XI hk]
   simp
 | p::P,w::vs,i+1,m,nd,h1,h2,hk=>by
   unfold bindL;show wW (i:=i) (YK.mp nd).2 (by simpa using h1) (by simpa using h2) hk
theorem wX{kindOf}:∀{P:List Str} {vs} {i:Nat} {m},P.Nodup->P[i]?=some x->vs[i]?=some v->kindOf x≠some .local->
 bindC kindOf (P.zip vs) m x=some v
 | [],_,_,_,_,h,_,_=>by simp at h
 | _::_,[],_,_,_,_,h,_=>by simp at h
 | p::P,w::vs,0,m,nd,h1,h2,hk=>by
   simp at h1 h2;subst h1;subst h2;change bindC kindOf ((p,w)::P.zip vs) m p=_;unfold bindC;rw[wU λv a=>(YK.mp nd).1 (J! a).1,XH hk]
   simp
 | p::P,w::vs,i+1,m,nd,h1,h2,hk=>by
   unfold bindC;show wX (i:=i) (YK.mp nd).2 (by simpa using h1) (by simpa using h2) hk
def start(N:List Str)(Y:List V):St:=Y.map some++65#(N.length-Y.length)
def m4(CX:Jq)(P:Program)(w:World)(K:b7)(mg:vy)(base:Heap)(N:List Str)(B:Str)(scope:Scope)(f:Addr)(cd:Value)(A:Around)(outer:List Env)(s:Shared)(H:Hp)(E:XK):Cx where
 prog:=P
 w:=w
 K:=K
 mg:=mg
 base:=base
 A:=A.deeper (59#cd)
 N:=N
 s₀:=s
 H₀:=H
 env:=59#cd
 outer:=outer
 stack:=59#cd::outer
 ex:=[]
 calm:=true
 fn:=λ_=>true
 pn:=[]
 xe:=λe G=>wpAny (model P w) (A.deeper (59#cd)) (leaving (59#cd) e) (λ_ a=>CX outer H s E e a) (λT a=>CX outer H s E T a) G
def Aq{d:Scope}(h:d.names.lookup x=some .cell):∃c,(cellsFrom n d.names []).lookup x=some c:=by
 have q:=b? d.names n [] (.inl h);show Option.isSome_iff_exists.mp q
def wY{K:b7}{A:Around}{Y:List V}
 (S:ez N n scope) (j:A.handled=none) (U:yC P w K mg base A outer s H) (J:Y.length=n.length) (r:ξ Y g)
 (x:InCallC s s.heap.objs.size (bindL (59#cd).kindOf (n.zip g) λ_=>none) (cellsFrom (96#0) scope.names []) (bindC (59#cd).kindOf (n.zip g) λ_=>none) I) :
 θ (m4 CX P w K mg base N B scope f cd A outer s H E) [] (start N Y) H I:=by
 have L:n.length<=N.length:=by have:=Yq List.length S.pre;rw[Ym]at this;lia
 show aR (λG D m R=>?_) x.done;subst m
 have d:∀b:Addr,b∉(m4 CX P w K mg base N B scope f cd A outer s H E).ex:=λb z=>absurd (show b∈([]) from z) 21#0
 show⟨⟨U.mod,S.kind,rfl,rfl,XJ _,λy z c G C=>?_,λy W=>?_,λy c _ h=>?_,λ_=>j,Around.frames_deeper U.frames,.inr ⟨rfl,rfl⟩,λb z=>absurd z (d b),U.bs,U.Jo,λb _ _=>d b,λb z=>absurd z (d b),U.funs,U.Jv⟩,
  rfl,U.bare,Un.kept R,ae _ x.toInCall.ns λi y v G C l=>?_,λy c h=>⟨_,x.cell y c h⟩,U.hok.fresh (XJ _),λy c h=>?_,λp t=>absurd (show p∈([]) from t) 21#0,U.hok.kept R,?_⟩
 .show name_of_addr x.apart (YY G) (YY C)
 .have W:=W;rcases W with W|W
  .show Aq W
  .show absurd rl (S.Py _ (YY W))
 .show Za (x.above y c (YY h))
 .have F:i<Y.length:=by
   unfold start at C
   by_cases F:i<Y.length
   .show F
   .rw[YB (by simpa using F)]at C
    rw[ZI]at C
    split at C<;>cases C
  have o:Y[i]?=some v:=by
   unfold start at C;rw[Yx (by simpa using F),XQ]at C
   cases e:Y[i]? with
   | none=>rw[e]at C;cases C
   | some a=>rw[e]at C;cases C;rfl
  show ah (λu l O=>?_) (r.get o)
  have t:n[i]?=some y:=by
   rw[<-S.pre,List.getElem?_take_of_lt (by lia)];show G
  have a:n.Nodup:=by rw[<-S.pre];show S.nd.sublist (List.take_sublist _ _)
  show ae u O ?_;rcases S.par y (fC t) with k|k
  .show .inl ⟨k,wW a t l k⟩
  .obtain⟨c,e⟩:=Aq k;show .inr (bX (.inl k) c e ?_);have q:=x.cell y c e;rw[wX a t l (by change 83#y≠_;rw[k];decide)]at q
   show q
 .show U.hok.fresh (Za (x.above y c (YY h)))
 .unfold start;change _=N.length;rw[XR,XG,YH]
  lia
def FD{K:b7}{F kV c X d ct oc:Value}
 (h:K.lookup f=some ⟨oc,m,.func (PySem.W.fnOf name B l p scope F kV c X C d ct),a⟩) (D:PySem.W.codeIn K d B=true) (S:ez N i scope)
   (len:∀Y H Q E,sp Y H Q E->Y.length=i.length)
   (z:∀A outer s H Y Q E,eB k (A.deeper (59#d))->sp Y H Q E->
    ∃t,oj (m4 CX P w K mg base N B scope f d A outer s H E) p t/\t { nx:=λ_ M=>Q .fg M,rt:=Q} (start N Y) H) :
   je P w K mg base CX (k+1) f (PySem.W.fnOf name B l p scope F kV c X C d ct) i sp:=by
  show⟨len,λA outer s H b g Y Q E a U Z r j=>?_⟩
  have m:=len _ _ _ _ j;have L:=U.mod.Pe.keeps λb o e=>(U.bs b o e).1
  have p:=U.mod.nolimit.keeps λb o e=>(U.bs b o e).1
  have l:∀y∈i.zip g,83#y.1=some .local\/(83#y.1=some .cell/\((cellsFrom (96#0) scope.names []).lookup y.1).isSome=true):=λ⟨n,v⟩ b=>by
   rcases S.par n (J! b).1 with q|q
   .show .inl q
   .show .inr ⟨q,b? _ _ _ (.inl q)⟩
  show codeAny_call_function a.depth (L _ _ h) rl S.co S.gen rl (PySem.W.codeRec_of L D) (Z _ _ _ _ ?_);show wpAny_newFunctionEnv_cells S.kind l λh c b x=>?_
  subst c;show⟨p.keeps x.toInCall.keep,codeAny_func ?_⟩;show ah (λt R T=>?_) (z A outer s H Y Q E (a.deeper _) j)
  have I:θ (m4 CX P w K mg base N B scope f d A outer s H E) [] (start N Y) H b:=wY S a.hd U m r x;show Yn (R [] b (start N Y) H _ I T) (λc G W=>?_) λe G W=>W
  have a:∀{b:St} {M:Hp} {v:V} {u:Value},θ (m4 CX P w K mg base N B scope f d A outer s H E) [] b M G->ο v u->Q v M->CE outer P w H s Q u G :=
   λ{b M v u} J O q=>aQ v M J.os J.bare J.base J.hok O q
  cases c with
  | ret u =>
    revert W;show cy λv b M J O q=>?_
    show a J O q
  | next =>
    revert W;show aR λb M J q=>?_
    show a (v:=V.fg) J rl q
  | brk =>
    revert W;show aR λ_ _ _ q=>?_
    show False.elim q
  | cont =>
    revert W;show aR λ_ _ _ q=>?_
    show False.elim q
section
variable {X:Cx}{x:Str}{p pos:Pos}{e:Expr}{es:List Expr}{t:TA}{id T:String}{r:90#(List V)}
def TZ(r:90#(List V))(t:TA):TE:=λU H Q=>t U H λY N=>r Y N Q
def dc(L:fX X (.builtin id) r)(y:Gl X x)(d:X.mg x=none)(a:bootBuiltins x=some (.builtin id))(C:PA X (e::es) t)(g:x≠"__name__":=by decide)(b:(x==("__debug__":Str))=false:=by decide)
 (n:12#(e::es)=29#e::12#es:=by rfl) (c:(backTo pos (12#es)).any (·.1)=false:=by rfl):PE X (.Call (.Name x p) (e::es) [] pos) (TZ r t):=by
 show 63;show wpAny_Call_Name_kw (jy I y d a ?_ g b);show PyProof.Rows.callWith_builtin1 (dW (C pos A s U H _ I h) λf w=>aA λY N J B P=>L A w U N Y f Q J B P) n c
def bz(L:fX X (.type T) r)(y:Gl X x)(d:X.mg x=none)(a:bootBuiltins x=some (.type T))(C:PA X (e::es) t)(g:x≠"__name__":=by decide)(b:(x==("__debug__":Str))=false:=by decide)
 (n:12#(e::es)=29#e::12#es:=by rfl) (c:(backTo pos (12#es)).any (·.1)=false:=by rfl):PE X (.Call (.Name x p) (e::es) [] pos) (TZ r t):=by
 show 63;show wpAny_Call_Name_kw (jy I y d a ?_ g b);show Zk (dW (C pos A s U H _ I h) λf w=>aA λY N J B P=>L A w U N Y f Q J B P) n c
end
end L2
namespace HT
open PySem PyProof.Rows
def lexLt:List Int->List Int->Bool
 | [],[]=>false
 | [],_::_=>true
 | _::_,[]=>false
 | x::xs,y::ys=>if x=y then lexLt xs ys else decide (x<y)
def eT(x y)(xs ys):lexLt (x::xs) (y::ys)=if x=y then lexLt xs ys else decide (x<y):=rfl
def nf:lexLt [] []=false:=rfl
def sR(y)(ys):lexLt [] (y::ys)=true:=rfl
def gH(x)(xs):lexLt (x::xs) []=false:=rfl
def Ar(A)(s)(a)(t)(c)(u):∃e,SeqAt.EqAt A s (.int a t) (.int c u) e/\(e=true↔a=c) :=
 (ae (a==c) (SeqAt.EqAt.int_int a t c u) 21#0)
def JH(A)(s)(a)(t)(c)(u)(prog)(w)(E)(Q)(h:Q (.bool (decide (a<c))) s):
 67#(richCompare .Lt (.int a t) (.int c u)) :=
 (PyProof.Rows.lt_int h)
section
open PySem.SeqAt
open PySem.AutoSeq1 (wpAny_loadPart')
open PySem.MeetsSeq PySem.MeetsSeq2 PySem.MeetsSeq3
def vB(l b:Addr)(k f:Array Value)(n T:Nat)(i a:114#0)(O z:Array (Option Value))(ns U:List Int)(F:IntsAre k.toList ns)(o:IntsAre f.toList U):
 Meets (Builtin.«tuple.__lt__» ⟨[.ref l,.ref b],[]⟩)
  (λ_ R s=>s.heap.get? l=some { cls:=.type "tuple",dict:=i,data:=.seq k n,slots:=O}/\18#{ cls:=.type "tuple",dict:=a,data:=.seq f T,slots:=z}/\
   R (.ok (.ret (.bool (lexLt ns U)))) s) :=
 .of_wp λE w A R s h=>by
  obtain⟨l,g,d,D,os⟩:=s;revert h;show c5 λS Z h=>?_
  have a:=AutoSeq1.sub_tuple_tuple;have a:k.size=ns.length:=by rw[<-F.length];simp
  have I:f.size=U.length:=by rw[<-o.length];simp
  wp_walk using wpAny_loadPart' S,wpAny_loadPart' Z,wpAny_forIn_list _ (λJ b G=>b.1=none/\G=⟨l,g,d,D,os⟩/\∃(Y n:62#0) (i L:List Int),J=Y.zip n/\
   IntsAre Y i/\IntsAre n L/\i.length+f.size=L.length+k.size/\R (.ok (.ret (.bool (lexLt i L)))) ⟨l,g,d,D,os⟩) _
  case turn =>
   intro j J b G;show c5 λv Q=>eu λY=>bV λn i L m H C M p=>?_;obtain⟨y,x⟩:=j;subst Q
   cases H with
   | nil=>rw[List.zip_nil_left]at m;cases m
   | cons a t j =>
     cases C with
     | nil=>rw[List.zip_nil_right]at m;cases m
     | cons c u X =>
       rw[List.zip_cons_cons]at m;injection m with N P
       injection N with W B
       subst W B;rw[eT]at p;simp only[X7]at M;show ah (λe b r=>?_) (Ar A.in1 ⟨l,g,d,D,os⟩ a t c u)
       show wpAny_bind (b E w _ _ ?_);cases e with
       | true =>
         rw[XI (r.mp rl)]at p
         wp_walk
         show bh rl rl (bO _ _ _ _ P j X (by lia) p)
       | false =>
         rw[XH (λq=>absurd (r.mpr q) XZ)]at p
         have b:=JH A.in1 ⟨l,g,d,D,os⟩ a t c u E w
         wp_walk using b
         show ae _ rl (by simpa using p)
  case fin =>
   intro e G;show c5 λv q=>eu λY=>bV λn i L m H C M p=>?_;obtain⟨y,x⟩:=e;subst q
   subst v;have r:lexLt i L=9#(k.size<f.size):=by
    cases H with
    | nil =>
      cases C with
      | nil =>
        rw[nf];show(fW (by lia)).symm
      | cons c u j =>
        simp only[ZO,X7]at M;rw[sR];show(e5 (by lia)).symm
    | cons a t r =>
      cases C with
      | nil =>
        simp only[ZO,X7]at M;rw[gH];show(fW (by lia)).symm
      | cons c u j =>
        rw[List.zip_cons_cons]at m;cases m
   rw[r]at p
   wp_walk
   show ae _ rl (by simpa[Builtin.Tuple.tupleCompareSizes]using p)
  case h =>
   show bh rl rl (bO k.toList f.toList ns U rl F o (by lia) h)
end
section
variable   {A:Around}  {s:Shared}
def C3(S:IsTup s.heap l k)(Z:IsTup s.heap b f)(F:IntsAre k.toList ns)(o:IntsAre f.toList U)
 (r:A.units<cLine) (h:Q (.bool (lexLt ns U)) s):67#(compareOp .Lt (.ref l) (.ref b)):=by
 show dI (λc g L n j=>?_) (id S);obtain⟨u,i,R,O⟩:=c
 show dI (λd v e T C=>?_) (id Z);obtain⟨a,G,data2,z⟩:=d
 subst L j e C;show richCompare_meets_room (op:=.Lt) (ae _ g rl) (ae _ v rl) PySem.F.slot_tuple_lt PySem.F.entry_tuple_lt (PySem.F.args_tuple_lt_2 _ _) (vB l b k f n T i G O z ns U F o)
  (bh g v (show Value.bool (lexLt ns U)≠Value.notImplemented/\Q (.bool (lexLt ns U)) s from⟨(λx=>nomatch x),h⟩)) r
def gb(n d:Nat):Option Int->Nat
 | none=>d
 | some v=>if v<0 then(v+(n:Int)).toNat else min v.toNat n
def lJ(n d):gb n d none=d:=rfl
def kh(n d k:Nat):gb n d (some (k:Int))=min k n:=by
 change(if k<0 then((k:Int)+(n:Int)).toNat else min (k:Int).toNat n)=min k n
 rw[XH (by lia),X3]
def Pz(n d)(j:d<=n)(o):gb n d o<=n:=by
 cases o with
 | none=>show j
 | some v =>
   change(if v<0 then(v+n).toNat else min v.toNat n)<=n
   by_cases a:v<0
   .rw[XI a];lia
   .rw[XH a];show Nat.min_le_right _ _
def FE(v)(n d:Nat):(if v<0 then max (v+(n:Int)) 0 else min v (n:Int))=19#(gb n d (some v)):=by
 change(if v<0 then max (v+n) 0 else min v n)=19#(if v<0 then(v+n).toNat else min v.toNat n)
 by_cases a:v<0
 .simp only[XI a];lia
 .simp only[XH a];lia
def C4(lo hi)(n:Nat):Builtin.Slice.sliceAdjust lo hi 1 (n:Int)=(19#(gb n 0 lo),19#(gb n n hi)):=by
 have G : ¬(1<0):=by lia
 show Prod.ext ?_ ?_
 .cases lo with
  | none=>rfl
  | some v=>show FE v n 0
 .cases hi with
  | none=>rfl
  | some v=>show FE v n n
def C5(i j:Nat):Builtin.Slice.slicePlaces (i:Int) (j:Int) 1=j-i:=by
 unfold Builtin.Slice.slicePlaces;have G:1 > 0:=by lia
 split<;>lia
def sS(p:IsPart v o)(h:Q o s):67#(Builtin.Slice.slicePartIndex v):=by
 cases p with
 | none=>show slicePart_none h
 | int i t=>show slicePart_int h
def jJ{lo hi}{n:Nat}(W:s.heap.IsSliceOf O p G .none)(D:IsPart p lo)(g:IsPart G hi)
 (h:Q (19#(gb n 0 lo),1,gb n n hi-gb n 0 lo) s):67#(Builtin.Slice.sliceApplied (.ref O) (pure (n:Int))):=by
 show az (λos a u b=>?_) (id W)
 show wpAny_bind (wpAny_bind (wpAny_field a b rl (wpAny_bind (wpAny_field a b rl (wpAny_bind (wpAny_field a b rl (XN ?_)))))));show wpAny_bind (slicePart_none ?_);rw[XH 4#0]
 show wpAny_bind (sS D (wpAny_bind (sS g (wpAny_bind (XN ?_)))));change wpAny _ _ (match Builtin.Slice.sliceAdjust lo hi 1 n with | (lo,hi)=>pure (lo,(1:Int),Builtin.Slice.slicePlaces lo hi 1)) _ _ s
 rw[C4 lo hi n];change wpAny _ _ (pure (19#(gb n 0 lo),1,Builtin.Slice.slicePlaces ((gb n 0 lo:Nat)) ((gb n n hi:Nat)) 1)) _ _ s;rw[C5];show XN h
def JI(xs:Array Value)(i k:Nat):((16#k).filterMap λ(m:Nat)=>xs[((i:Int)+(m:Int)*1).toNat]?).toArray=((xs.toList.drop i).take k).toArray:=by
 have e:(λ(m:Nat)=>xs[(i+(m:Int)*1).toNat]?)=λm=>xs[i+m]?:=by
  funext m
  have:((i:Int)+(m:Int)*1).toNat=i+m:=by lia
  rw[this]
 rw[e];have:=pick_run xs i k;rw[List.filterMap_map]at this;have D:((λx=>xs[x]?)∘λx=>i+x)=λm=>xs[i+m]?:=rfl
 rw[D]at this;rw[this]
def jh{lo hi}(R:IsTup s.heap t k)(W:s.heap.IsSliceOf O p G .none)(D:IsPart p lo)(g:IsPart G hi)
 (j : ¬(gb k.size 0 lo=0/\gb k.size k.size hi=k.size))
 (h:Q (23#.ref) { s with heap:=s.heap.push { cls:=.type "tuple",data:=.seq ((k.toList.drop (gb k.size 0 lo)).take (gb k.size k.size hi-gb k.size 0 lo)).toArray}})
 (x:33#k.size):67#(getItem (.ref t) (.ref O)):=by
 have c:sizeOk (.seq ((k.toList.drop (gb k.size 0 lo)).take (gb k.size k.size hi-gb k.size 0 lo)).toArray):=by
  change 33#((k.toList.drop (gb k.size 0 lo)).take (gb k.size k.size hi-gb k.size 0 lo)).toArray.size;rw[X9,Ym,ZE,ZJ]
  lia
 have o:gb k.size k.size hi<=k.size:=Pz _ _ (XJ _) hi;show az (λos a u b=>?_) (id W)
 have d:s.TypeIs (.ref O) "slice":=ae os a u;unfold getItem
 try with_reducible show Ys ?_
 first | show wpAny_bind (XN ?_) | skip
 show wpAny_bind (wpAny_sequenceKey R.typeIs 4#0 ?_)
 show wpAny_bind (wpAny_callSpecial?_slot R.typeIs Y7
  (wpAny_call_entry Y7 R.typeIs entry_tuple_getitem ?_ (args_tuple_getitem _ _)))
 change wpAny _ _ (Builtin.Tuple.tupleItemsOf (.ref t) >>= _) _ _ s;show wpAny_bind (tupleItemsOf_ R ?_);show wpAny_bind (wpAny_typeOf d ?_);rw[XI 4#0]
 show wpAny_bind (jJ W D g ?_);have v : ¬((19#(gb k.size 0 lo)==0&&(1:Int)==1&&(gb k.size k.size hi-gb k.size 0 lo)==k.size)=true):=by
  intro q;rw[YE,YE]at q;have P:=eq_of_beq q.1.1;have e:=eq_of_beq q.2;show j ⟨by lia,by lia⟩
 change wpAny _ _ (if(19#(gb k.size 0 lo)==0&&1==1&&(gb k.size k.size hi-gb k.size 0 lo)==k.size)=true then _ else _) _ _ s
 rw[XH v,JI]
 first
  | show wpAny_bind (wpAny_newObj_type (XN (ae _ rfl (XN h))) c)
  | show wpAny_bind (wpAny_newObj_type (wpAny_bind (XN (XN ⟨_,rfl,XN h⟩))) c)
  | show wpAny_bind (wpAny_bind (wpAny_newObj_type (XN (XN ⟨_,rfl,XN h⟩)) c))
  | show wpAny_bind (wpAny_bind (wpAny_newObj_type (XN ⟨_,rfl,XN h⟩) c))
end
end HT
namespace L2
open PySem PySem.Spec PyProof.Rows
abbrev TO:=St->Hp->(Option Int->Hp->Prop)->Prop
def PO(X:Cx)(e:Option Expr)(t:TO):Prop :=
 ∀pq s (σ:St) H Q,5#H->t σ H Q->
   wpAny 8#0 X.A (evalPart e X.env) (λu G=>∃o M,θ X pq σ M G/\IsPart u o/\Q o M) X.xe s
def MP:TO:=λ_ H Q=>Q none H
def RO(t:TE):TO:=λU H Q=>t U H λx N=>∃i,x = .int i/\Q (some i) N
def intsAre_of{ns:List Int}:∀{g},ξ (ns.map V.int) g->IntsAre g ns:=by
 induction ns with
 | nil=>intro g r;rw[List.map_nil]at r;cases r;show .nil
 | cons n ns O =>
   intro g r;rw[Yd]at r;cases r with
   | cons B p =>
     obtain⟨t,e⟩:=B;subst e;show .cons n t (O p)
section
variable    {lo hi:Option Expr}
def dJ:PO X none MP:=by
 show 63;rw[evalPart_none];show XN (ao none H I .none h)
def cX(h:PE X e f):PO X (some e) (RO f):=by
 intro A s U H Q I j;rw[evalPart_some];show dW (h A s U H _ I j) λu w=>aA λx N J B P=>?_
 revert P;show ah λi a q=>?_;subst a
 obtain⟨t,rfl⟩:=B;show ao (some i) N J (.int i t) q
def PB(X:Cx)(r:V->Option Int->90#(Option Int)):Prop :=
 ∀pq s (σ:St) H x v vl vu lo hi sl Q,5#H->ο x v->s.heap.IsSliceOf sl vl vu .none->IsPart vl lo->IsPart vu hi->r x lo hi H Q->
   ∃T id,typeLookup (.type T) "__getitem__"=pure (some (.builtin id))/\s.TypeIs v T/\wpAny 8#0 X.A (getItem v (.ref sl)) (EP X pq σ Q) X.xe s
def Wi(r:V->Option Int->90#(Option Int))(f:TE)(d a:TO):TE:=λU H Q=>f U H λx N=>d U N λl O=>a U O λu X=>r x l u X Q
def cz(P:PB X r)(n:PE X e f)(S:PO X lo d)(m:PO X hi a):PE X (.Subscript e (.Slice lo hi none i) L) (Wi r f d a):=by
 show 63;show Subscript_ (dW 37#n λv w=>aA λx N J B o=>?_)
 show wpAny_Slice (dW (S A w U N _ J o) λp M=>aA λl O Y D E=>?_)
 show dW (m A M U O _ Y E) λG k=>aA λu c j g F=>?_
 rw[evalPart_none];show XN ?_;have z:θ X A U c { k with heap:=k.heap.push { cls:=.type "slice",data:=.fields #[p,G,.none]}}:=j.kept λb C q=>XM _ q
 show aA (λT id t R y=>?_) (P A { k with heap:=k.heap.push { cls:=.type "slice",data:=.fields #[p,G,.none]}} U c x v p G l u k.heap.objs.size Q z B (Heap.IsSliceOf.new ..) D g F)
 show tail_any R t y (77#0)
def gw(xs:List V)(lo hi:Option Int):List V:=(xs.drop (HT.gb xs.length 0 lo)).take (HT.gb xs.length xs.length hi-HT.gb xs.length 0 lo)
def lK(xs:List V)(lo hi:Option Int):27#(gw xs lo hi)<=xs.length:=by
 unfold gw;rw[Ym,ZE]
 lia
def RP(K:b7):V->Option Int->90#(Option Int):=λx lo hi H Q=>∃a f,x = .ref a/\aY K H a f/\
 ¬(HT.gb f.length 0 lo=0/\HT.gb f.length f.length hi=f.length)/\∀p,H p=none->Q (.ref p) (η H p (.tup (gw f lo hi)))
def PD:PB X (RP X.K):=by
 intro A s U H x v p G lo hi O Q I c W D g h
 revert h;show bD λa f d B j q=>?_;subst d
 cases c;show az (λN r R m=>?_) (I.tuple B)
 have M:N.toArray.size=f.length:=by rw[X9];show r.length.symm
 show ao "tuple" _ Y7.lookup R.typeIs ?_;show HT.jh R W D g (by rw[M];show j) ?_ (by rw[M];show m)
 rw[M];show ao (23#.ref) _ (I.laid (λb C q=>XM _ q) (XJ _) ?_) rl (q _ (I.hok.fresh (XJ _)))
 show bX (XY (lK f lo hi) m) _ ((r.drop (HT.gb f.length 0 lo)).take (HT.gb f.length f.length hi-HT.gb f.length 0 lo)) (IsTup.new _ _)
end
def Jr(n:Nat)(i:Int):Option Nat:=if 0<=i then(if i<n then some i.toNat else none) else if -(n:Int)<=i then some (i+n).toNat else none
def vC{m:Type}(xs:List m)(i:Int):Option m:=(Jr xs.length i).bind λj=>xs[j]?
def FF(h:Jr n i=some j):seqIndex? i n=some j/\j<n/\-(n:Int)<=i/\i<n:=by
 unfold Jr at h
 by_cases J:0<=i
 .rw[XI J]at h
  by_cases G:i<n
  .rw[XI G]at h;have e:=13#h;show f7 (by rw[seqIndex_of J G,e]) (by lia) (by lia) G
  .rw[XH G]at h;cases h
 .rw[XH J]at h
  by_cases G : -(n:Int)<=i
  .rw[XI G]at h;have e:=13#h;show f7 (by rw[seqIndex_neg (by lia) G,e]) (by lia) G (by lia)
  .rw[XH G]at h;cases h
def yD(h:vC xs i=some v):∃j,seqIndex? i xs.length=some j/\xs[j]?=some v/\j<xs.length/\-(xs.length:Int)<=i/\i<xs.length:=by
 unfold vC at h;cases e:Jr xs.length i with
 | none=>rw[e]at h;cases h
 | some j =>
   rw[e]at h;show mF (λG C l E=>?_) (FF e)
   show⟨j,(fE G h C l E)⟩
def aG{xs:List m}{j:Nat}{v}(h:xs[j]?=some v):vC xs (j:Int)=some v:=by
 have o:=(jc.mp h).1;have e:Jr xs.length j=some j:=by
  unfold Jr;rw[XI (by lia),XI (by lia)];simp
 unfold vC;rw[e];show h
def JJ(xs:List m)(v):vC (xs++[v]) (-1)=some v:=by
 have S:27#(xs++[v])=xs.length+1:=by simp
 have e:Jr 27#(xs++[v]) (-1)=some xs.length:=by
  unfold Jr;rw[S,XH 4#0,XI (by lia)]
  congr 1
  lia
 unfold vC;rw[e];simp
def FG(b:Expr):Prop:=∀o i,subscripted b false o i=operate [o,i] (getItem o i)
def FH(X:Cx)(r:R2):Prop :=
 ∀value slice pq s (σ:St) H x y v u Q,5#H->ο x v->ο y u->r x y H Q->
   subscripted slice false v u=operate [v,u] (getItem v u)->wpAny 8#0 X.A (subscriptTail value slice v u) (EP X pq σ Q) X.xe s
def RQ(X:Cx)(id:String)(r:V->90#(List V)):Prop :=
 ∀pq s (σ:St) H x xs v us Q,5#H->ο x v->ξ xs us->r x xs H Q->
   wpAny 8#0 X.A (call (.builtin id) (v::us)) (EP X pq σ Q) X.xe s
section
variable {X:Cx}{a b:Expr}
def FH.or(h:FH X r)(h' : FH X P):FH X (λx y H Q=>r x y H Q\/P x y H Q):=by
 intro e k A s U H x y v u Q I c L q W;rcases q with q|q
 .show h e k A s U H x y v u Q I c L q W
 .show h' e k A s U H x y v u Q I c L q W
def RS(P:FH X r)(C:PE X a z)(Z:PE X b tb)(W:FG b):PE X (.Subscript a b l) (Pp r z tb):=by
 show 63;show Subscript_ (Pq C Z I h λv u M x y O Y c L q=>P a b A M U O x y v u Q Y c L q (W _ _))
def MQ(K:b7):R2:=λx y H Q=>∃p f i v,x = .ref p/\y = .int i/\aH K H p f/\vC f i=some v/\Q v H
def MR(K:b7):R2:=λx y H Q=>∃p f i v,x = .ref p/\y = .int i/\aY K H p f/\vC f i=some v/\Q v H
def PF:R2:=λx y H Q=>∃z i c,x = .str z/\y = .int i/\33#z.length/\vC z.cps.toList i=some c/\Q (.str ⟨#[c]⟩) H
def FI:FH X (MQ X.K):=by
 intro e k A s U H x y v u Q I c L h W
 revert h;show eu λp=>bV λf i z d B T n q=>?_;subst d B
 cases c;obtain⟨t,rfl⟩:=L;show 108#(λN r D m=>?_)
 show eu (λj=>m9 λG C l E F=>?_) (yD n)
 show ah (λw b Z=>?_) (r.get C)
 have S:=r.length;have g:=lI;have a:EP X A U Q w s:=ao z H I Z q
 by_cases J:0<=i
 .have o:i.toNat=j:=by
   rw[seqIndex_of J F]at G;show 13#G
  show item_listR D.isList J (by lia) (by rw[o];simpa using b) a W
 .have o:(i+N.toArray.size).toNat=j:=by
   rw[seqIndex_neg (by lia) E]at G
   rw[X9,<-S];show 13#G
  show subscriptTail_builtinR D.isList.typeIs slot_list_getitem.lookup
   (wpAny_getItem_list_neg D.isList (by lia) (by rw[X9]<;>lia) (by lia) (by rw[o];simpa using b) ⟨rfl,a⟩) W
def JK:FH X (MR X.K):=by
 intro e k A s U H x y v u Q I c L h W
 revert h;show eu λp=>bV λf i z o d T n q=>?_;subst o d
 cases c;obtain⟨t,rfl⟩:=L;show az (λN r D m=>?_) (I.tuple T)
 show eu (λj=>m9 λG C l E F=>?_) (yD n)
 show ah (λw b Z=>?_) (r.get C)
 have S:=r.length;have g:=lI;have a:EP X A U Q w s:=ao z H I Z q;show subscriptTail_builtinR D.typeIs slot_tuple_getitem.lookup
  (getItem_tuple D (by lia) (by lia) (by rw[X9,<-S];show G) (by simpa using b) ⟨rfl,a⟩) W
def JL:FH X PF:=by
 intro e k A s U H x y v u Q I f L h W
 revert h;show bV λz i c b a m n q=>?_;subst b a
 obtain⟨t,rfl⟩:=f;show 74;show eu (λj=>m9 λG C l E F=>?_) (yD n)
 have S:z.cps.toList.length=z.length:=by simp[Str.length]
 rw[S]at G E F;have g:=lI;show tail_any (typeIs_str s z t) slot_str_getitem.lookup (getItem_str (by
  have J:9#(i < -(2^63:Int))=false:=fW (by lia)
  have D:9#(i ≥ 2^63)=false:=fW (by lia)
  rw[J,D,Bool.or_false]) (by rw[G];simpa using C) (ao (.str ⟨#[c]⟩) H (I.tok _) 110#0 q)) W
def T3(K:b7):R2:=λx y H Q=>MQ K x y H Q\/MR K x y H Q\/PF x y H Q
def PJ:FH X (T3 X.K):=FI.or (JK.or JL)
def C6(N:62#0)(n j)(u):Obj.mapSeq (·.setIfInBounds j u) { cls:=.type "list",data:=.seq N.toArray n}={ cls:=.type "list",data:=.seq (N.set j u).toArray n}:=by
 simp[Obj.mapSeq]
def θ.lst{A:cM}{U:St}(I:θ X A U H s)(h:H p=1#xs):
 ∃N n,ξ xs N/\s.heap.get? p=some { cls:=.type "list",data:=.seq N.toArray n}/\33#xs.length:=by
 show rX (λz=>aR λN n r e=>?_) (I.hok p _ h)
 show ao N n r e z
def θ.PK{A:cM}{U:St}{N c:62#0}(I:θ X A U H s)(h:H p=1#xs)
 (F:s.heap.get? p=some { cls:=.type "list",data:=.seq N.toArray n}) (Y:f { cls:=.type "list",data:=.seq N.toArray n}={ cls:=.type "list",data:=.seq c.toArray m}) (r:ξ ys c) (hz:33#ys.length) (t) :
 θ X A U (η H p (.lst ys)) { s with heap:=s.heap.update p f,toks:=t}:=by
 have e:(s.heap.update p f).get? p=some { cls:=.type "list",data:=.seq c.toArray m}:=by
  rw[YV f F (by rw[Y]<;>rfl),Y]
 show I.write (by rw[h];trivial) (.inl rl) (λb u Z q=>(YJ _ _ (Yy Z)).trans q) ⟨_,e⟩ ?_
 show bg hz c m r e
def RT:V->V->V->Hp->(Hp->Prop)->Prop:=λo i v H Q=>∃p f k j,o = .ref p/\i = .int k/\H p=some (.lst f)/\Jr f.length k=some j/\Q (η H p 28#(f.set j v))
def set_list:Pk X RT:=by
 intro A s U H o i v d z u Q I y w O h
 revert h;show eu λp=>bV λf k j b c e x q=>?_;subst b c
 cases y;obtain⟨t,rfl⟩:=w;show aA (λN n r F m=>?_) (I.lst e)
 show mF (λG C l E=>?_) (FF x)
 have S:=r.length;have g:=lI;have a:θ X A U (η H p 28#(f.set j v)) { s with heap:=s.heap.update p (Obj.mapSeq (·.setIfInBounds j u))} :=
  I.PK e F (C6 N n j u) (r.set O j) (by rw[ZP];show m) s.toks
 by_cases J:0<=k
 .have R:k.toNat=j:=by
   rw[seqIndex_of J E]at G;show 13#G
  show PySem.W.ki_setAt F J (by lia) (by rw[X9,<-S];show E) (by rw[R];show ae _ a q)
 .have R:(k+N.toArray.size).toNat=j:=by
   rw[seqIndex_neg (by lia) l]at G
   rw[X9,<-S];show 13#G
  show PySem.W.ki_setBack F (by lia) (by rw[X9,<-S];show l) (by lia) (by rw[R];show ae _ a q)
def yE(lo hi)(n):(sliceBounds lo hi none n).1=19#(HT.gb n 0 lo)/\(sliceBounds lo hi none n).2.1=19#(HT.gb n n hi)/\(sliceBounds lo hi none n).2.2=1:=by
 show bh ?_ ?_ rfl
 .cases lo with
  | none=>simp[sliceBounds,HT.gb]
  | some i =>
    simp only[sliceBounds,HT.gb,Option.getD_none,show 1 > 0 by decide,if_true]
    by_cases h:i<0
    .simp only[h,if_true]<;>lia
    .simp only[h,if_false]<;>lia
 .cases hi with
  | none=>simp[sliceBounds,HT.gb]
  | some i =>
    simp only[sliceBounds,HT.gb,Option.getD_none,show 1 > 0 by decide,if_true]
    by_cases h:i<0
    .simp only[h,if_true]<;>lia
    .simp only[h,if_false]<;>lia
def vD(N:62#0)(lo hi):slicePick N.toArray lo hi none=((N.drop (HT.gb N.length 0 lo)).take (HT.gb N.length N.length hi-HT.gb N.length 0 lo)).toArray:=by
 show c5 (λG C l=>?_) (yE lo hi N.toArray.size)
 unfold slicePick;rw[G,C,l];simp only[sliceRange_one,pick_run,X9]<;>rfl
def RU(K:b7):V->Option Int->90#(Option Int):=λx lo F H Q=>∃a f,x = .ref a/\aH K H a f/\∀p,H p=none->Q (.ref p) (η H p 28#(gw f lo F))
def MS:PB X (RU X.K):=by
 intro A s U H x v p G lo F O Q I c W D g h
 revert h;show aA λa f d B q=>?_;subst d
 cases c;show az (λN r R m=>?_) (I.list B)
 have M:=r.length;show ao "list" _ slot_list_getitem.lookup R.isList.typeIs ?_;show wpAny_getItem_list_slice R.isList W D g .none 21#0 ?_ (by rw[X9]<;>lia)
 rw[vD,<-M];show ao (23#.ref) _ (I.laid (λb C q=>XM _ q) (XJ _) ?_) rl (q _ (I.hok.fresh (XJ _)))
 show bg (XY (lK f lo F) m) _ 0 ((r.drop (HT.gb f.length 0 lo)).take (HT.gb f.length f.length F-HT.gb f.length 0 lo)) (X6 _ rl)
def ji:V->Bool
 | .fg=>true
 | .bl _=>true
 | .int _=>true
 | .str _=>true
 | _=>false
def FJ:V->V->Bool
 | .fg,.fg=>true
 | .bl a,.bl b=>a==b
 | .bl a,.int b=>(if a then 1 else 0)==b
 | .int a,.bl b=>a==(if b then 1 else 0)
 | .int a,.int b=>a==b
 | .str a,.str b=>a==b
 | _,_=>false
def PL(L:ο y u)(c:ο x v)(F:ji y=true)(i:ji x=true):SeqAt.EqAt A s u v (FJ y x):=by
 cases y with
 | fg =>
   cases L;cases x with
   | fg=>cases c;show SeqAt.EqAt.same _
   | bl b=>cases c;show SeqAt.EqAt.none_bool b
   | int b=>show 60;show SeqAt.EqAt.none_int b t
   | str b=>show 60;show SeqAt.EqAt.none_str b t
   | _=>show absurd (i) XZ
 | bl a =>
   cases L;cases x with
   | fg=>cases c;show SeqAt.EqAt.bool_none a
   | bl b=>cases c;show SeqAt.EqAt.bool_bool a b
   | int b=>show 60;show SeqAt.EqAt.bool_int a b t
   | str b=>show 60;show SeqAt.EqAt.bool_str a b t
   | _=>show absurd (i) XZ
 | int a =>
   show 74;cases x with
   | fg=>cases c;show SeqAt.EqAt.int_none a d
   | bl b=>cases c;show SeqAt.EqAt.int_bool a d b
   | int b=>show 60;show SeqAt.EqAt.int_int a d b t
   | str b=>show 60;show SeqAt.EqAt.int_str a d b t
   | _=>show absurd (i) XZ
 | str a =>
   show 74;cases x with
   | fg=>cases c;show SeqAt.EqAt.str_none a d
   | bl b=>cases c;show SeqAt.EqAt.str_bool a d b
   | int b=>show 60;show SeqAt.EqAt.str_int a d b t
   | str b=>show 60;show SeqAt.EqAt.str_str a d b t
   | _=>show absurd (i) XZ
 | _=>show absurd (F) XZ
def yF(x:V)(u:Value):Bool:=match u with
 | .none=>FJ .fg x
 | .bool b=>FJ (.bl b) x
 | .int i _=>FJ (.int i) x
 | .str z _=>FJ (.str z) x
 | _=>false
def yG(r:ο y u)(f:ji y=true):yF x u=FJ y x:=by
 cases y with
 | fg=>cases r;rfl
 | bl b=>cases r;rfl
 | int i=>obtain⟨t,rfl⟩:=r;rfl
 | str z=>obtain⟨t,rfl⟩:=r;rfl
 | _=>show absurd (f) XZ
theorem oF:∀{xs} {us},ξ xs us->xs.all ji=true->us.any (yF x)=xs.any λy=>FJ y x
 | _,_,.nil,_=>rfl
 | y::xs,u::us,.cons r t,f=>by
   rw[List.all_cons,YE]at f;rw[k!,k!,yG r f.1,oF t f.2]
theorem iZ(c:ο x v)(i:ji x=true):∀{xs} {us},ξ xs us->xs.all ji=true->∀u∈us,SeqAt.EqAt A s u v (yF x u)
 | _,_,.nil,_=>λu a=>by cases a
 | y::xs,u::us,.cons r t,f=>λC a=>by
   rw[List.all_cons,YE]at f;rcases XS.mp a with rfl|a
   .rw[yG r f.1];show PL r c f.1 i
   .show iZ c i t f.2 C a
def PM(x:V)(xs:List V):Bool:=xs.any λy=>FJ y x
def S6(K:b7)(c:Bool):R2:=λx y H Q=>∃p f,y = .ref p/\(aH K H p f\/aY K H p f)/\ji x=true/\f.all ji=true/\Q (.bl (if c then ! PM x f else PM x f)) H
def G9:jz X 115#.In (S6 X.K false):=by
 show 95
 revert h;show eX λp f a T i M q=>?_;subst a
 cases L;rcases T with T|T
 .show 108#(λN r D m=>?_)
  show SeqAt.in_listAt (yF x) D.isList (λw j=>iZ c i r M w (by simpa using j)) (ao (.bl _) H I rl ?_)
  rwa [show N.toArray.any (yF x)=N.any (yF x) by simp,oF r M]
 .show az (λN r D m=>?_) (I.tuple T)
  show SeqAt.in_tupleAt (yF x) D (λw j=>iZ c i r M w (by simpa using j)) (ao (.bl _) H I rl ?_)
  rwa [show N.toArray.any (yF x)=N.any (yF x) by simp,oF r M]
def yH:jz X 115#.NotIn (S6 X.K true):=by
 show 95
 revert h;show eX λp f a T i M q=>?_;subst a
 cases L;rcases T with T|T
 .show 108#(λN r D m=>?_)
  show SeqAt.notIn_listAt (yF x) D.isList (λw j=>iZ c i r M w (by simpa using j)) (ao (.bl _) H I rl ?_)
  rwa [show N.toArray.any (yF x)=N.any (yF x) by simp,oF r M]
 .show az (λN r D m=>?_) (I.tuple T)
  show SeqAt.notIn_tupleAt (yF x) D (λw j=>iZ c i r M w (by simpa using j)) (ao (.bl _) H I rl ?_)
  rwa [show N.toArray.any (yF x)=N.any (yF x) by simp,oF r M]
def yI:fX X (.builtin "len") (λxs H Q=>∃p ys,xs=[.ref p]/\(aH X.K H p ys\/aY X.K H p ys)/\Q (.int ys.length) H):=by
 intro A s U H xs d Q I r h
 revert h;show aA λp ys b T q=>?_;subst b
 show ah (λu a c=>?_) (vals1 r);subst a
 cases c;have g:=lI;rcases T with T|T
 .show 108#(λN P D m=>?_)
  have M:=P.length;show Calls.call_len_list D.isList (by simp only[X9]<;>lia) (ao (.int ys.length) H (I.tok _) ⟨s.toks+1,by rw[X9,M]⟩ q)
 .show az (λN P D m=>?_) (I.tuple T)
  have M:=P.length;show len_tuple D (by simp only[X9]<;>lia) (ao (.int ys.length) H (I.tok _) ⟨s.toks+1,by rw[X9,M]⟩ q)
def oG:fX X (.builtin "len") (λxs H Q=>∃z,xs=[.str z]/\33#z.length/\Q (.int z.length) H):=by
 intro A s U H xs d Q I r h
 revert h;show az λz b m q=>?_;subst b
 show ah (λu a=>eu λt c=>?_) (vals1 r);subst a c
 have g:=lI;show len_str (by lia) (ao (.int z.length) H (I.tok _) 110#0 q)
def yJ:fX X (.type "list") (λxs H Q=>∃p ys,xs=[.ref p]/\(aH X.K H p ys\/aY X.K H p ys)/\∀l,H l=none->Q (.ref l) (η H l (.lst ys))):=by
 intro A s U H xs g Q I r h
 revert h;show aA λp ys i T q=>?_;subst i
 show ah (λu d c=>?_) (vals1 r);subst d
 cases c;have a:∀(N:62#0),ξ ys N->33#ys.length->∀(M:Heap) (O:Nat),(∀b f,18#f->M.get? b=some f)->
  23#M.get?=some { cls:=.type "list",dict:=none,data:=.seq N.toArray O,slots:=#[]}->EP X A U Q (23#.ref) { s with heap:=M}:=λN P m M O kp e =>
  (ao (23#.ref) _ (I.laid kp (XJ _) (show dO X.prog X.w _ M _ (.lst ys) from(bg m N O P e))) rl (q _ (I.hok.fresh (XJ _))))
 rcases T with T|T
 .show 108#(λN P D m=>?_)
  have k:=P.length;show dI (λo F L n j=>?_) D.isList
  show call_list_seq p (.inl rl) F L j (λM O kp e=>a N P m M O kp e) (by simp only[X9]<;>lia)
 .show az (λN P D m=>?_) (I.tuple T)
  have k:=P.length
  revert D;show dI λo F L n j=>?_
  show call_list_seq p (.inr rl) F L j (λM O kp e=>a N P m M O kp e) (by simp only[X9]<;>lia)
def vE:fX X (.type "tuple") (λxs H Q=>∃p ys,xs=[.ref p]/\((aH X.K H p ys/\∀l,H l=none->Q (.ref l) (η H l (.tup ys)))\/(aY X.K H p ys/\Q (.ref p) H))):=by
 intro A s U H xs g Q I r h
 revert h;show aR λp ys a h=>?_;subst a
 show ah (λu d c=>?_) (vals1 r);subst d
 cases c;rcases h with⟨T,q⟩|⟨T,q⟩
 .show 108#(λN P D m=>?_)
  have f:=P.length;show call_tuple_list D.isList (λM kp=>?_) (by simp only[X9]<;>lia)
  have J:=I.kept (t':=s.toks) kp;have Y:θ X A U (η H M.objs.size (.tup ys)) { s with heap:=M.push { cls:=.type "tuple",data:=.seq N.toArray}} :=
   J.laid (t':=s.toks) (λb o e=>XM _ e) (XJ _) (show dO X.prog X.w _ _ _ (.tup ys) from(bX m N P (IsTup.new _ _)))
  show ao (.ref M.objs.size) _ Y rl (q _ (J.hok.fresh (XJ _)))
 .show az (λN P D m=>?_) (I.tuple T)
  show call_tuple_same D (ao (.ref p) H I rl q)
def T4(K:b7)(T:String)(x:V)(H:Hp):Prop:=match x with
 | .str _=>T="str"
 | .int _=>T="int"
 | .ref p=>(T="list"/\∃f,aH K H p f)\/(T="tuple"/\∃o,K.lookup p=some o/\o.cls = .type "tuple"/\o.dict=none)\/
  (T="dict"/\((∃J,H p=some (.dK J))\/∃J,H p=some (.dT J)))\/(T="set"/\∃S n,H p=some (.set S n))
 | _=>False
def JM{A:cM}{U:St}(I:θ X A U H s)(r:ο x v)(l:T4 X.K T x H):
 s.TypeIs v T/\∀a,v = .ref a->∃ob,s.heap.get? a=some ob/\ob.dict=none:=by
 cases x with
 | str z =>
   obtain⟨t,rfl⟩:=r;cases(l);show⟨typeIs_str s z t,λ_ e=>nomatch e⟩
 | int i =>
   obtain⟨t,rfl⟩:=r;cases(l);show⟨typeIs_int s i t,λ_ e=>nomatch e⟩
 | ref p =>
   cases r;rcases l with⟨rfl,f,b⟩|⟨rfl,o,R,L,j⟩|⟨rfl,R⟩|⟨rfl,S,n,R⟩
   .show az (λN _ D _=>?_) (I.list b)
    show⟨D.isList.typeIs,λa e=>?_⟩
    cases e
    revert D;show bD λo n e c j _=>?_
    show ae o e j
   .show⟨ae o (I.sI p o R) L,λa e=>?_⟩
    cases e;show ae o (I.sI _ o R) j
   .have z:∃o,s.heap.get? p=some o/\o.ExactDict:=by
     rcases R with⟨J,R⟩|⟨J,R⟩
     .show bL 6#(cy λo _ _ e q _=>?_) (I.hok p _ R)
      show ae o e q
     .show bL 6#(cy λo _ _ e q _=>?_) (I.hok p _ R)
      show ae o e q
    revert z;show ah λo e q=>?_
    show⟨ae o e q.1,λa D=>?_⟩
    cases D;show ae o e q.2.1
   .show eu (λo=>cy λ_ _ _ e q _=>?_) (I.hok p _ R)
    show⟨ae o e q.1,λa D=>?_⟩
    cases D;show ae o e q.2.1
 | _=>show False.elim l
def T5(K:b7)(T:String)(r:V->90#(List V))(l:TE):TE:=λU H Q=>l U H λx N=>T4 K T x N/\r x [] N Q
def T6(K:b7)(T:String)(r:V->90#(List V))(l:TE)(t:TA):TE:=λU H Q=>l U H λx N=>T4 K T x N/\t U N λf O=>r x f O Q
variable {o e:Expr}{es:List Expr}{to:TE}{t:TA}{name:Str}{apos cpos:Pos}{T id:String}{r:V->90#(List V)}
def JN(L:PlainAttrs T)(slot:Slot T name id)(c:typeOf (.builtin id)=pure (.type "method_descriptor"))(d:RQ X id r)(F:PE X o to)
 (i:attributeBase o name X.env (eval o X.env)=eval o X.env:=by rfl) (f:(apos.endLine==cpos.line)=true:=by rfl):PE X (.Call (.Attribute o name apos) [] [] cpos) (T5 X.K T r to):=by
 show 63;show wpAny_Call_method0_late i f (dW 37#F λv w=>bD λx N J B l P=>?_)
 obtain⟨G,C⟩:=JM J B l;show aQ T id L slot c G C (Calls.callWith_builtin rl (PySem.evalArgs_none (d A w U N x [] v [] Q J B .nil P)))
def c6(L:PlainAttrs T)(slot:Slot T name id)(c:typeOf (.builtin id)=pure (.type "method_descriptor"))(d:RQ X id r)(F:PE X o to)(m:PA X (e::es) t)
 (i:attributeBase o name X.env (eval o X.env)=eval o X.env:=by rfl)
 (j:((backTo cpos (12#(e::es))).all (λx=>! x.1)&&(backToKw cpos (keywordEach [] X.env)).all (λx=>x.1.isSome)
  && 9#(27#(e::es)+([]:List Keyword).length+(if([]:List Keyword).isEmpty then 0 else 1)<30))=true:=by rfl)
 (f:(apos.endLine==cpos.line)=true:=by rfl) (W:12#(e::es)=29#e::12#es:=by rfl) (k:(backTo cpos (12#es)).any (·.1)=false:=by rfl) :
 PE X (.Call (.Attribute o name apos) (e::es) [] cpos) (T6 X.K T r to t):=by
 show 63;show wpAny_Call_method_late i j f rl (dW 37#F λv w=>bD λx N J B l P=>?_)
 obtain⟨G,C⟩:=JM J B l;show aQ T id L slot c G C ?_;have Z:=m cpos A w U N _ J P;rw[W]at Z ⊢;show Calls.callWith_builtin (by change(false || (backTo cpos (12#es)).any (·.1))=false;rw[k]<;>rfl) (Calls.evalArgs_plain ?_)
 show dW Z λg M=>aA λY O a p E=>?_
 show d A M U O x Y v g Q a B p E
end
def T7(X:Cx)(id:String)(r:V->90#(List V)):Prop :=
 ∀pq s (σ:St) H x xs v us Q,5#H->ο x v->ξ xs us->r x xs H Q->
   wpAny 8#0 X.A (call (.builtin id) (v::us)) (EP X pq σ Q) X.xe s
def ξ.one{x:V}{g:62#0}(h:ξ [x] g):∃u,g=[u]/\ο x u:=by
 obtain _|⟨r,_|_⟩:=h
 show ae _ rl r
def ξ.rep(h:ξ xs g):∀k:Nat,ξ (List.replicate k xs).flatten (List.replicate k g).flatten
 | 0=>.nil
 | k+1=>by
   rw[Zf,Zf,ZU,ZU];show ξ.append h (ξ.rep h k)
theorem foldl_rep(N:62#0):∀k I,
 List.foldl (λg j=>g++j) I.toArray (List.replicate k N.toArray)=(I++(List.replicate k N).flatten).toArray
 | 0,I=>by simp
 | k+1,I=>by
   have e:I.toArray++N.toArray=(I++N).toArray:=by simp
   have D:(I++N)++(List.replicate k N).flatten=I++(List.replicate (k+1) N).flatten:=by
    rw[Zf,ZU,D!]
   rw[<-D,<-foldl_rep N k (I++N),<-e,Zf,Ω]
section
variable  {pq:cM}{σ:St}
def θ.T8{N c:62#0}(I:5#H)(E:H l=1#xs)
 (e:s.heap.get? l=some { cls:=.type "list",data:=.seq N.toArray n}) (Y:f N.toArray=c.toArray) (a:ξ ys c) (hz:33#ys.length) :
 θ X pq σ (η H l (.lst ys)) { s with heap:=s.heap.update l (Obj.mapSeq f),toks:=t'}:=by
 have q:=PySem.IsL.update e f;rw[Y]at q;show I.write (by rw[E];show trivial) (.inl rl) (λg u Z r=>(YJ s.heap (Obj.mapSeq f) (Yy Z)).trans r) ⟨_,q⟩ ?_
 show bg hz c _ a q
def θ.RV(I:5#H)(a:ξ ys N)(hz:33#ys.length):
 θ X pq σ (η H s.heap.objs.size (.lst ys)) { s with heap:=s.heap.push { cls:=.type "list",data:=.seq N.toArray},toks:=t'} :=
 I.laid (λ_ _ q=>XM _ q) (XJ _) (bg hz N 0 a (X6 _ rl))
def θ.fresh(I:5#H):23#H=none:=I.hok.fresh (XJ _)
def θ.MT(I:5#H)(E:H l=1#xs):33#xs.length/\∃N n,ξ xs N/\xs.length=N.length/\s.heap.get? l=some { cls:=.type "list",data:=.seq N.toArray n}:=by
 show rX (λz=>aR λN n r e=>?_) (I.hok l _ E)
 show⟨z,(ao N n r r.length e)⟩
def JO(h:n<=sizeLine):Builtin.List.listTooLong n=false:=by
 show fW (by lia)
end
def MU:V->90#(List V):=λx Y H Q=>∃l f y,x = .ref l/\Y=[y]/\H l=some (.lst f)/\f.length<sizeLine/\Q .fg (η H l 28#(f++[y]))
def cO:T7 X "list.append" MU:=by
 intro A s U H x Y v g Q I c O h
 revert h;show bV λl f y b d E m q=>?_;subst b d
 cases c;show ah (λu a k=>?_) O.one;subst a
 show rX (λz=>aA λN n r S e=>?_) (I.MT E)
 show call_meets F.slot_list_append (ae _ e rl) F.entry_list_append (F.args_list_append_2 _ _) (PySem.list_append l N.toArray n u (by rw[X9];lia)) ⟨e,?_⟩
 show ao .fg _ (I.T8 E e 21#0 (r.append (.cons k .nil)) ?_) rl q
 rw[XR,YA]
 lia
def T9:R2:=λx y H Q=>∃l k f,x = .ref l/\y = .int k/\H l=some (.lst f)/\-(2^63)<=k/\k<2^63/\33#(f.length*k.toNat)/\
 ∀p,H p=none->Q (.ref p) (η H p (.lst (List.replicate k.toNat f).flatten))
def len_rep{m:Type}(xs:List m)(k):(List.replicate k xs).flatten.length=k*xs.length:=by
 induction k with
 | zero=>simp
 | succ k O=>rw[Zf,ZU,XR,O,Nat.succ_mul,Nat.add_comm]
def C7:jz X (binaryOp .Mult) T9:=by
 show 95
 revert h;show cu λl k f o=>eO λi E G C B q=>?_;subst o i
 cases c;obtain⟨t,rfl⟩:=L;show rX (λz=>aA λN n r S e=>?_) (I.MT E)
 have M:33#(N.toArray.size*k.toNat):=by rw[X9,<-S];show B
 have w : ¬ N.toArray.size*k.toNat > (2^63-1)/8:=by
  have:sizeLine<=(2^63-1)/8:=by decide
  lia
 have d : ¬(! Builtin.List.listFitsIndex k)=true:=by
  rw[fitsIndex_both G C];show XZ
 have p : ¬ Builtin.List.listTooLong (N.toArray.size*k.toNat)=true:=by
  rw[JO M];show XZ
 have b:List.foldl (λg j=>g++j) #[] (List.replicate (if N.toArray.isEmpty=true then 0 else k.toNat) N.toArray)=(List.replicate k.toNat N).flatten.toArray:=by
  have D:∀m:Nat,List.foldl (λg j=>g++j) #[] (List.replicate m N.toArray)=(List.replicate m N).flatten.toArray:=λm=>by
   have:=foldl_rep N m [];rw[List.nil_append]at this;show this
  rw[D];cases N with
  | nil=>simp
  | cons a P=>rw[XH 21#0]
 show wpAny_binaryOp_repeat_ref 4#0 (ae _ e rl) (λa=>typeIs_int a k t) noFill_list_mul F.fills_int_mul F.slot_int_rmul repeat_list F.slot_int_index.lookup
  (call_meets F.slot_int_rmul (typeIs_int s k t) F.entry_int_rmul (F.args_int_rmul_2 _ _) (int___rmul___int_list k t l N.toArray n)
   (f7 e rl (ae _ e rl) (call_meets F.slot_list_mul (ae _ e rl) F.entry_list_mul (F.args_list_mul_2 _ _) (AutoListH.list___mul___list_int_3 l N.toArray n k t d w p) ⟨e,?_⟩)))
 rw[b];show ao (.ref _) _ (I.RV (r.rep k.toNat) (by rw[len_rep,Nat.mul_comm];show B)) rl (q _ I.fresh)
end L2
namespace Att
open PySem PySem.W PySem.Calls PyProof.Rows
def rL:∀ns Y,WellAll P h Y (ns.map WData.int)->IntsAre Y ns:=by
 intro ns
 induction ns with
 | nil =>
   intro Y w;rw[List.map_nil]at w;cases w;show .nil
 | cons n ns O =>
   intro Y w;rw[Yd]at w;cases w with
   | cons a b =>
     cases a;show .cons _ _ (O _ b)
def Hf{l:OpenLaw}(g:l.most=some n)
 (i:l.row.toRowW.claim.pre args=true) (e:WellAll P h p args) :
 ∃a Y ns,p=[Value.ref a]/\args=[WData.list (ns.map WData.int)]/\118#{ cls:=.type "list",data:=.seq Y.toArray}/\IntsAre Y ns/\ns.length<=n:=by
 have c:=(pre_splitW i).1;have L:=(pre_splitW i).2;show aA (λd r j G C=>?_) (hasAllW_cons c);subst j
 obtain rfl:=hasAllW_nil C;show ah (λf m s=>?_) (hasW_list G);subst m
 obtain⟨ns,rfl⟩:=items_int s;have M:ns.length<=n:=by
  have E:(WTm.not (.lt (.lit (.int n)) (.len (.arg 0)))).holds [] { args:=[.list (ns.map .int)]}=true:=by
   have E:=(holds_andW L).1;rw[g]at E;show E
  have F:=condW_of E (w_not (w_lt w_lit (w_len_list (w_arg rl))));rw[XG]at F;show Nat.le_of_not_lt λq=>?_
  have U:n<((ns.length:Nat)):=by lia
  first
   | (rw[e5 U]at F;show absurd F 4#0)
   | (simp at F;lia)
 cases e with
 | cons o k =>
   cases k;cases o with
   | list F b=>show bS _ _ ns rfl rfl F (rL ns _ b) M
def Hg(l:OpenLaw)(args):l.row.toRowW.claim.post args (.bool true) args=true :=
 postW_of
  (show WShape.has [] (.bool true) .bool=true by first | rfl | decide | simp[WShape.has,WShape.arms,WShape.armsAll])
  (w_eq_bool (w_res rl) w_lit) rfl
def As{l:OpenLaw}{d:DefRec}
 (g:l.most=some n) (I:d.params.defaults=[])
 (call:∀w s₀ B mg b Q o X cd c a H ns,
  Ground q N [] U w s₀ mg b B.heap->A w B.heap->
  B.heap.get? Q=some o->o.data = .func (docDef d.name d.params d.body d.scope X cd c)->B.heap.CodeRec cd d.name->mg d.name=some (.ref Q)->
  B.heap.get? a=some { cls:=.type "list",data:=.seq H.toArray}->IntsAre H ns->ns.length<=n->B.gens = #[]->
  codeAny (model l.prog w) callerA (.call (.ref Q) ⟨[.ref a],[]⟩) (λr J=>r = .ok (.ret (.bool true))/\OldK B.heap J.heap/\J.os=B.os/\AllBare J.gens) B) :
 WalkO q N U A l.row.toRowW d [] (λf H=>PySem.call f H):=by
 intro w s₀ B mg b G Y Q o X cd c L kV F j P u S y m p D i x z e k;obtain rfl:L = .none:=Dflts.none u I;obtain rfl:kV = .none:=Dflts.noKw u;show bV (λa H ns t s W h M=>?_) (Hf g i e);subst t s
 show enter_call (codeAny_mono (call w s₀ B mg b Q o X cd c a H ns G Y F (fd_plain j) P S W h M y) λr J T=>?_)
 revert T;show mF λv C O E=>?_;subst v
 show f7 (.inl (bS (.bool true) (.bool true) [] rl (λ_=>rfl) (.bool true) (Hg l _) (λ_=>⟨List.Pairwise.nil,λ_ R=>(nomatch R)⟩))) C O E
end Att
namespace L2
open PySem PySem.Spec PyProof.Rows
theorem wZ:∀{vs} {ns},IntsAre vs ns->ξ (ns.map V.int) vs
 | _,_,.nil=>.nil
 | _,_,.cons n t h=>.cons ⟨t,rfl⟩ (wZ h)
def inClass(s:Stmt)(j:Nat):Stmt:=match s with
 | .ClassDef _ _ _ p _ _ _ _ _ _ _=>p.getD j (.Pass ⟨0,0,0,0⟩)
 | _=>.Pass ⟨0,0,0,0⟩
def dZ(s:Stmt):Arguments:=match s with
 | .FunctionDef _ a _ _ _ _ _ _ _ _=>a
 | _=>{ posonlyargs:=[],args:=[],vararg:=none,kwonlyargs:=[],kw_defaults:=[],kwarg:=none,defaults:=[]}
def cg(s:Stmt):List Stmt:=match s with
 | .FunctionDef _ _ b _ _ _ _ _ _ _=>b
 | _=>[]
def aP(s:Stmt):Scope:=match s with
 | .FunctionDef _ _ _ _ _ _ d _ _ _=>d
 | _=>{ kind:=.function,names:=[],isGenerator:=false,isCoroutine:=false}
abbrev qg:Jq:=λ_ _ _ _ _ _=>False
abbrev E0:XK:=λ_ _ _=>False
def JP:Passes qg X E0:=λ_ _ _ _ _ _ _ h=>h.elim
structure Hh(K:b7)(x qual:Str)(st:Stmt)(f:Addr)(fd:FuncData):Prop where
 ex:∃(oc:Value) (od:114#0) (kV doc pm:Value) (an:114#0) (cdv ct:Value) (osl:Array (Option Value)),
  fd=PySem.W.fnOf x qual (dZ st) (cg st) (aP st) .none kV doc pm an cdv ct/\K.lookup f=some ⟨oc,od,.func fd,osl⟩/\PySem.W.codeIn K cdv qual=true
 kp:55#K
section
variable   {K:b7}
def Hh.ok{st}(F:Hh K x B st f fd)(S:ez N i (aP st))(len:∀Y H Q E,sp Y H Q E->Y.length=i.length)
 (z:∀d A outer s H Y Q E,eB k (112#B)->sp Y H Q E->
  ∃t,oj (m4 qg P w K mg base N B (aP st) f d A outer s H E).Jx (cg st) t/\t { nx:=λ_ M=>Q .fg M,rt:=Q} (start N Y) H):je P w K mg base qg (k+1) f fd i sp:=by
 show eu (λl=>jd λm kV c X C=>cy λd W n a u D=>?_) F.ex;subst a
 show FD u D S len λA outer s H Y Q E b j=>?_
 show ah (λt h q=>?_) (z d A outer s H Y Q E b j)
 show ae t h.Jx q
def Hh.binds{st:Stmt}{i:List Str}(F:Hh K x B st f fd)
 (h:∀kV c X C d ct g,g.length=i.length->bindArgs (PySem.W.fnOf x B (dZ st) (cg st) (aP st) .none kV c X C d ct) ⟨g,[]⟩=pure (i.zip g)):Binds K fd i []:=by
 show eu (λl=>jd λm kV c X C=>cy λd ct n a u D=>?_) F.ex;subst a
 show .all (h kV c X C d ct)
def JQ{st}{kV doc pm cdv ct}(l:K.lookup f=some ⟨oc,m,.func (PySem.W.fnOf x B (dZ st) (cg st) (aP st) .none kV doc pm C cdv ct),n⟩)
 (c:PySem.W.codeIn K cdv B=true) (k:55#K):Hh K x B st f (PySem.W.fnOf x B (dZ st) (cg st) (aP st) .none kV doc pm C cdv ct):=⟨dU oc m kV (jw doc pm C cdv (ao ct n rl l c)),k⟩
end
def Au(P:eB k A):A.units+1<cLine:=YL (Nat.add_le_add_left (by decide:1<=64) _) P.units
def g5(h:n<=1000):n<sizeLine:=YL h 4#0
section
variable {X:Cx}
def pv(i:Nat){x:Str}{l:Pos}(o:X.N[i]?=some x:=by rfl)(a:S4 X.env.scope x:=by first | show Or.inl rfl | show Or.inr (Or.inl rfl) | show Or.inr (Or.inr rfl))(j:(x==("__debug__":Str))=false:=by decide)
 (D:(x==("__classdict__":Str))=false:=by decide):68#(jH i):=Pg o a j D
end
def cH{A B:Prop}(h:B):if false=true then A else B:=by
 rwa [XH XZ]
def eY{A B:Prop}(h:A):if true=true then A else B:=by
 rwa [XI rfl]
def sU{c A B:Prop}[Decidable c](G:c->A)(C : ¬ c->B):if c then A else B:=by
 by_cases h:c
 .rw[XI h];show G h
 .rw[XH h];show C h
def jK{c A B:Prop}[Decidable c](L:c)(h:B):if(! decide c)=true then A else B:=by
 rw[e5 L];show cH h
def aj(H M:Hp):Prop:=∀b o,H b=some o->M b=some o
def aj.refl(H):aj H H:=λ_ _ h=>h
def aj.trans(a:aj H N)(b:aj N O):aj H O:=λc o h=>b c o (a c o h)
def aj.free(e:aj H M)(h:M l=Option.none):H l=Option.none:=by
 cases q:H l with
 | none=>rfl
 | some o =>
   rw[e l o q]at h;cases h
def aj.seq{K}(e:aj H M)(h:aH K H a xs):aH K M a xs:=by
 rcases h with(h|⟨o,h⟩) | h
 .show .inl (.inl (e _ _ h))
 .show .inl (.inr ⟨o,e _ _ h⟩)
 .show .inr h
def eG(M:List (Str×Addr)):List (Str×NameKind)->List (Str×Addr)->List (Str×Addr)
 | [],y=>y
 | (n,k)::r,y=>eG M r (if(k==NameKind.free)=true then(n,(M.lookup n).getD 0)::y else y)
theorem sV{env:Env}
 (b:∀n k y c,(k==NameKind.free)=true->env.cells.lookup n=some c->f (n,k) y=pure (.yield ((n,c)::y)))
 (a:∀n k y,(k==NameKind.free)=false->f (n,k) y=pure (.yield y)) :
 ∀names y,(∀n k,(n,k)∈names->(k==NameKind.free)=true->∃c,env.cells.lookup n=some c)->
   forIn names y f=(pure (eG env.cells names y):Sem (List (Str×Addr)))
 | [],y,_=>by rw[List.forIn_nil];rfl
 | (n,k)::r,y,h=>by
   have O:=λy=>sV b a r y λm j d=>h m j (nc _ d)
   rw[List.forIn_cons];cases e:(k==NameKind.free) with
   | true =>
     obtain⟨c,L⟩:=h n k X0 e;rw[b n k y c e L,pure_bind];change forIn r ((n,c)::y) f=_;rw[O]
     conv=>rhs;unfold eG
     rw[XI e,L];rfl
   | false =>
     rw[a n k y e,pure_bind];change forIn r y f=_;rw[O]
     conv=>rhs;unfold eG
     rw[XH (by rw[e];show XZ)]
def ki{scope:Scope}{env:Env}(h:∀n k,(n,k)∈scope.names->(k==NameKind.free)=true->∃c,env.cells.lookup n=some c):closureFor scope env=pure (eG env.cells scope.names []):=by
 simp only[closureFor];rw[sV ?_ ?_ scope.names [] h]
 .rfl
 .intro n k y c e L;rw[XI e];unfold cellOf;rw[L];rfl
 .intro n k y e;rw[XH (by rw[e];show XZ)]
theorem jj:∀{names} {y},(eG M names y).lookup x=some c->y.lookup x=some c\/((x,NameKind.free)∈names/\(M.lookup x).getD 0=c)
 | [],y,h=>.inl h
 | (n,k)::r,y,h=>by
   unfold eG at h;rcases jj h with q|⟨P,E⟩
   .by_cases e:(k==NameKind.free)=true
    .rw[XI e]at q
     by_cases B:x=n
     .subst B;rw[r!]at q;have R:=eq_of_beq e;show .inr ⟨by rw[R];show X0,13#q⟩
     .have Z:=beq_eq_false_iff_ne.mpr B;simp only[Y0,Z]at q;show .inl q
    .rw[XH e]at q;show .inl q
   .show .inr ⟨nc _ P,E⟩
theorem i0:∀{names} {y},((x,NameKind.free)∈names\/∃c,y.lookup x=some c)->∃c,(eG M names y).lookup x=some c
 | [],y,h=>by
   rcases h with h|h
   .cases h
   .show h
 | (n,k)::r,y,h=>by
   unfold eG;apply i0;rcases h with h|⟨c,h⟩
   .rcases XS.mp h with h|h
    .cases h
     right
     rw[XI (by rfl)]
     show⟨_,r!⟩
    .show .inl h
   .right
    by_cases e:(k==NameKind.free)=true
    .rw[XI e]
     by_cases B:x=n
     .subst B;show⟨_,r!⟩
     .have Z:=beq_eq_false_iff_ne.mpr B;show⟨c,by simp only[Y0,Z];show h⟩
    .rw[XH e];show⟨c,h⟩
theorem kj{env:Env}{x:Str}{k:NameKind}:∀{names:List (Str×NameKind)},
 (names.map λ(n,k)=>if(30#k) then(n,NameKind.cell) else(n,k)).lookup x=some k->
  ∃v,names.lookup x=some v/\(k=v\/(v = .free/\k = .cell))
 | [],h=>by cases h
 | (n,j)::r,h=>by
   have O:=@kj env x k r
   replace h:List.lookup x ((if(30#j)=true then(n,NameKind.cell) else(n,j))::_)=some k:=h
   cases B:x==n with
   | true =>
     by_cases L:(30#j)=true
     .rw[XI L]at h;simp only[Y0,B]at h ⊢;have o:j=NameKind.free:=by
       rw[YE,YE]at L;show eq_of_beq L.1.1
      show ae j rl (.inr ⟨o,(13#h).symm⟩)
     .rw[XH L]at h;simp only[Y0,B]at h ⊢;show ae j rl (.inl (13#h).symm)
   | false =>
     by_cases L:(30#j)=true
     .rw[XI L]at h;simp only[Y0,B]at h ⊢;show O h
     .rw[XH L]at h;simp only[Y0,B]at h ⊢;show O h
theorem oH{env:Env}{x:Str}:∀{names:List (Str×NameKind)},names.lookup x=some .free->
 (names.map λ(n,k)=>if(30#k) then(n,NameKind.cell) else(n,k)).lookup x=some .cell\/
 (names.map λ(n,k)=>if(30#k) then(n,NameKind.cell) else(n,k)).lookup x=some .free
 | [],h=>by cases h
 | (n,j)::r,h=>by
   have O:=@oH env x r;change List.lookup x ((if(30#j)=true then(n,NameKind.cell) else(n,j))::_)=_\/
    List.lookup x ((if(30#j)=true then(n,NameKind.cell) else(n,j))::_)=_
   cases B:x==n with
   | true =>
     simp only[Y0,B]at h;cases h
     by_cases L:(30#NameKind.free)=true
     .rw[XI L];simp only[Y0,B];show .inl trivial
     .rw[XH L];simp only[Y0,B];show .inr trivial
   | false =>
     simp only[Y0,B]at h
     by_cases L:(30#j)=true
     .rw[XI L];simp only[Y0,B];show O h
     .rw[XH L];simp only[Y0,B];show O h
def dS(X:Cx)(N:List Str)(scope:Scope)(xe:sG)(C:Addr)(s:Shared)(H:Hp)(a:List Addr):Cx where
 prog:=X.prog
 w:=X.w
 K:=X.K
 mg:=X.mg
 base:=X.base
 A:=X.A
 N:=N
 s₀:=s
 H₀:=H
 env:=compEnvC scope (58#0) C X.env
 outer:=X.stack
 stack:=X.stack
 ex:=a
 fn:=λ_=>false
 calm:=X.calm
 pn:=[]
 xe:=xe
def fZ(U:St)(js:List Nat):St:=js.map λj=>(U[j]?).getD none
structure eL(X:Cx)(scope:Scope)(own fq:List Str)(js:List Nat):Prop where
 kind:scope.kind = .function
 yK:∀y∈scope.names,y.2≠.cell
 names:∀y∈scope.names,y.2 = .local->83#y.1=some .local
 free:∀y∈scope.names,y.2 = .free->X.env.scope.names.lookup y.1=some .cell\/X.env.scope.names.lookup y.1=some .free
 at_:js.map (λj=>X.N[j]?)=fq.map some
 fr:∀x∈fq,83#x=some .free
def sW{i:Nat}(h:(fZ U js)[i]?=some (some v)):∃j,js[i]?=some j/\U[j]?=some (some v):=by
 unfold fZ at h;rw[XQ]at h;cases e:js[i]? with
 | none=>rw[e]at h;cases h
 | some j =>
   rw[e]at h;have M:(U[j]?).getD none=some v:=13#h;show ae j rl ?_;cases q:U[j]? with
   | none=>rw[q]at M;cases M
   | some o=>rw[q]at M;rw[show o=some v from M]
def gx{A:cM}{U:St}{own fq:List Str}(I:θ X A U H s)(T:eL X scope own fq js):
 ∀n k,(n,k)∈scope.names->(k==NameKind.free)=true->∃c,32#n:=λn k d e=>by
 have R:=eq_of_beq e;show I.ok.has n (T.free (n,k) d R)
def JR{A:cM}{U:St}{own fq:List Str}{D C:Addr}{G:Heap}
 (I:θ X A U H s) (T:eL X scope own fq js) (Y:∀b∈a,nQ X A H b) (w:∀b∈a,∃o,18#o) (hD:s.heap.objs.size<=D) (j:s.heap.objs.size<=C) (f:D≠C)
 (old:∀b o,18#o->47#G.get?) (S:G.get? D=some { cls:=.type "list",data:=.seq ([]:62#0).toArray 0}) (g:G.Ns C m) :
 θ (100#xe) [] (65#own.length++fZ U js) (86#H) { s with heap:=G,toks:=t1}:=by
 have M:∀x c,(58#0).lookup x=some c->32#x:=λx c h=>by
  rcases jj h with q|⟨P,E⟩
  .cases q
  .obtain⟨O,n⟩:=gx I T x .free P rfl;rw[n]at E;rw[n];show Yq some E
 have W:∀b o,18#o->b<s.heap.objs.size:=λb o e=>XX e
 have h:∀x c,32#x->c<s.heap.objs.size:=λx c e=>by
  obtain⟨v,q⟩:=I.cell x c e;show q.lt
 have a:∀b∈frs X.stack,b<s.heap.objs.size:=λb Z=>by
  show bE (λ_ o F _=>?_) (I.stack.mem Z)
  show XX F
 have P:=I.hok.fresh hD;have a:=I.hok.fresh j;show⟨⟨I.ok.mod,T.kind,I.ok.glob,I.ok.blt,j,λx y c a b=>I.ok.inj x y c (M x c a) (M y c b),λx B=>?_,λx c z _=>(nomatch z),I.ok.hd,I.ok.frames,.inl rfl,λb Z=>⟨?_,λx c e z=>?_⟩,
  λb o e=>I.bs b o e,XY I.ok.Jo I.sz,λb o e Z=>?_,λb Z z=>?_,I.stack,I.rY⟩,
  rfl,I.bare,Un.laid old hD P,ae m g λi x v J a E=>?_,λx c e=>?_,?_,λx c e=>?_,λp t=>absurd (show p∈([]) from t) 21#0,?_,?_⟩
 .
  have B:=B;have i:(x,NameKind.free)∈scope.names:=by
   rcases B with B|B
   .show ah (λv q r=>?_) (kj B)
    have d:=YY q;rcases r with r|⟨r,_⟩
    .show absurd r.symm (T.yK _ d)
    .rw[r]at d;show d
   .show ah (λv q r=>?_) (kj B)
    have d:=YY q;rcases r with r|⟨_,r⟩
    .rw[<-r]at d;show d
    .cases r
  show i0 (.inl i)
 .
  obtain⟨o,F⟩:=w b Z;show Yj (X4 (W b o F) j)
 .show(Y b Z).2.2.2.2.1 x c (M x c e) z
 .
  show eO (λ_ _ _ F _ _=>?_) (Y b Z)
  rcases F with z|z
  .show I.ok.CU b o e z
  .show absurd (X4 (XX (I.ok.bs b o e).1) z) (YZ _)
 .
  show mF (λ_ R l _=>?_) (Y b Z)
  rcases XS.mp (I.sJ b z) with q|q
  .show R q
  .show l q
 .
  by_cases F:i<own.length
  .rw[Yx (by simpa using F),ZI,XI F]at a
   cases a
  .rw[YB (by simpa using F),YH]at a
   replace J:(own++fq)[i]?=some x:=J
   rw[YB (by lia)]at J
   show ah (λj b Q=>?_) (sW a)
   have a:X.N[j]?=some x:=by
    have q:=Yq (λl=>l[i-own.length]?) T.at_
    simp only[XQ,b,J,ZQ]at q;show 13#q
   have E:=T.fr x (fC J);have d:=YY E;have R:=T.free (x,.free) d rfl;show ah (λg b p=>?_) I.loc
   show ah (λu r l=>?_) (p j x v a Q (by rcases R with k | k;show .inr (.inl k);show .inr (.inr k)))
   show ae u r (.inr ⟨oH E,?_⟩);rcases l with⟨t,_⟩|⟨_,c,L,N⟩
   .have t:31#x:=t;rcases R with k|k<;>(rw[t]at k;cases k)
   .obtain⟨O,n⟩:=i0 (.inl d);have q:=M x O n;rw[L]at q;cases q;show ae c n (N.keeps old)
 .
  obtain⟨v,q⟩:=I.cell x c (M x c e);show⟨v,q.keeps old⟩
 .
  change η H D (.lst []) C=none
  rwa [aq (Yy f)]
 .have e:=M x c e;rw[aq (Yj (X4 (h x c e) hD))];show I.gz x c e
 .show I.hok.laid old hD (bg (Yo _) [] 0 .nil S)
 .change _=27#(own++fq);have q:=Yq List.length T.at_;rw[XG,XG]at q;rw[XR,XR,YH];unfold fZ;rw[XG,q]
def jB{A:cM}{U P:St}{C:Addr}
 (I:θ X A U H s) (Y:∀b∈a,nQ X A H b) (k:s.heap.objs.size<=C) (J:θ (dS X N scope xe C s H a) [] P M G) (D:Heap.SameBut C G.heap h'):θ X A U M { G with heap:=h'}:=by
 have r:M C=none:=J.free;show I.Jw (ch:=a) J.os ?_ ?_ J.bare (λb Z=>?_)
 .have u:=J.base;have T:∀b o,18#o->b≠C:=λb o e=>Yj (X4 (XX e) k)
  show⟨λb o e n Z B=>(D.2 b (T b o e)).trans (u.keep b o e n Z B),λb o e n Z B=>?_,u.free,λb o e B=>?_,u.tups,u.jx,u.lD⟩
  .obtain⟨O,q⟩:=u.slot b o e n Z B;show⟨O,(D.2 b (T b o e)).trans q⟩
  .obtain⟨f,q⟩:=u.there b o e B;show⟨f,(D.2 b (T b o e)).trans q⟩
 .intro b d e;show(J.hok b d e).stay (λc f L q=>(D.2 c ?_).trans q) (λ_ q=>q) λ_ _ q=>q
  rintro rfl;rcases L with rfl|L
  .rw[r]at e;cases e
  .rw[r]at L;cases L
 .show eO (λ_ R _ F v c=>?_) (Y b Z)
  show f7 F R v c
section
variable {prog:Program}{w:World}{A:Around}{R:Result->Shared->Prop}{s:Shared}
abbrev FL(a:List Expr)(env:Env):Sem Bool:=forIn a true λc r=>if r=true then do let ok←isTrue c env (eval c env);pure (ForInStep.yield ok) else pure (ForInStep.yield r)
def yL{o c iter:Expr}{a:List Expr}{scope:Scope}{l:Pos}{D z:Value}{env:Env}(I:Nat->Shared->Prop)
 (C:∀n s,I n s->wpAny 22#w A (pyNext D) (λr y=>match r with
  | none=>R (.ok .next) y
  | some v=>wpAny 22#w A (letOwnedTupleGo c D v) (λ_ s₀=>wpAny 22#w A (assign c env v) (λ_ q =>
   wpAny 22#w A (FL a env) (λB b =>
    if B=true then wpAny 22#w A (eval o env) (λx i =>
     wpAny 22#w A (call (.builtin "list.append") [z,x]) (λ_ k=>∃m,m<n/\I m k) (notedBy 22#w A env λe G=>R (.error e) G) i) (notedBy 22#w A env λe G=>R (.error e) G) b
    else ∃m,m<n/\I m b) (notedBy 22#w A env λe G=>R (.error e) G) q) (notedBy 22#w A env λe G=>R (.error e) G) s₀) (notedBy 22#w A env λe G=>R (.error e) G) y) (notedBy 22#w A env λe G=>R (.error e) G) s)
 (n:Nat) (h:I n s) :
 codeAny 22#w A (.compLoop (.ListComp o [⟨c,iter,a,0⟩] scope l) 0 D z env) R s:=by
 show codeAny_loop rl I (λn s d=>?_) n h
 show wpAny_noted ?_;rw[compTurn_list];show aW (wpAny_standAt (aW (Yn (C n s d) (λr y g=>?_) λ_ _ M=>M)))
 cases r with
 | none=>show XN g
 | some v =>
   show aW (Yn g (λ_ s₀ t=>?_) λ_ _ M=>M)
   show aW (Yn t (λ_ q f=>aW (Yn f (λB b j=>?_) λ_ _ M=>M)) λ_ _ M=>M)
   cases B with
   | false=>show XN ⟨rfl,j⟩
   | true =>
     show aW (aW (Yn j (λx i p=>aW (Yn p (λ_ k u=>XN (XN ⟨rfl,u⟩)) λ_ _ M=>M)) λ_ _ M=>M))
end
def Rl(X:Cx)(a:List Expr)(t:TT):Prop :=
 ∀pq s (σ:St) H Q,5#H->t σ H Q->wpAny 8#0 X.A (FL a X.env) (TP X pq σ Q) X.xe s
def RW:TT:=λ_ H Q=>Q true H
def br:Rl X [] RW:=λ_ _ _ H _ I h=>wpAny_tests_nil (ae H I h)
def gu(h:PT X c t):Rl X [c] t:=λA s U H Q I q=>wpAny_tests_one (h A s U H Q I q)
def gJ(J:It)(g:TG)(h:TT)(f:TE)(n:Nat)(l:St)(D:Addr)(Q:Hp->Prop)(a:Hp):Prop :=
 ∃W:Nat->94#(List V),(∃m,W 0 m [] a)/\∀i m I H,W i m I H->10#H/\
   ((J.stop i H/\Q H)\/(J.go i H/\I.length<sizeLine/\∃N:List V->Hp->Prop,(∀o M,N o M->∃B,B<m/\W (i+1) B o M)/\
     ∀x M,J.G3 i H x M->g x (65#n++l) M λk O=>k.drop n=l/\h k O λb X =>
     if b=true then f k X λv c=>10#c/\N (I++[v]) (η c D 28#(I++[v]))
     else N I X))
def JS(a:TI)(g:TG)(h:TT)(f:TE)(n:Nat)(js:List Nat):TE:=λU H Q=>a U H λJ N=>∀D,N D=none->gJ J g h f n (fZ U js) D (λO=>Q (.ref D) O) (86#N)
structure FN(A:Around)(cm:Bool)(P:Program)(w:World)(K:b7)(tg:Expr)(J:It)(fp:List Addr)(it:Addr)(tn:Nat->Heap->Prop):Prop where
 mem:it∈fp
 obj:∀i h,tn i h->∀b∈fp,∃o,47#h.get?/\∀v,o.data≠.cell v
 keep:∀i h h',tn i h->(∀b∈fp,∀o,47#h.get?->47#h'.get?)->tn i h'
 item:∀(X:Cx),X.prog=P->X.w=w->X.K=K->X.A=A->X.calm=cm->∀(i:Nat) (pq:cM) (s:Shared) (σ:St) (H:Hp) (E:sG),5#H->(∀b∈fp,nQ X pq H b)->tn i s.heap->J.go i H->
  wpAny (model P w) X.A (pyNext (.ref it)) (λr s1=>∃u,r=some u/\
   wpAny (model P w) X.A (letOwnedTupleGo tg (.ref it) u) (λ_ s2=>∃x H',θ X pq σ H' s2/\ο x u/\J.G3 i H x H'/\tn (i+1) s2.heap/\∀b∈fp,H' b=none) E s1) E s
 done:∀(X:Cx),X.prog=P->X.w=w->X.K=K->X.A=A->X.calm=cm->∀(i:Nat) (pq:cM) (s:Shared) (σ:St) (H:Hp) (E:sG),5#H->(∀b∈fp,nQ X pq H b)->tn i s.heap->J.stop i H->
  wpAny (model P w) X.A (pyNext (.ref it)) (λr s1=>r=none/\θ X pq σ H s1) E s
 self:∀(A:Around) (i:Nat) (s:Shared) (Q:sG) (E:sG),tn i s.heap->Q (.ref it) s->80#(pyIter (.ref it))
def Turn.x{K}(T:Turn P w K tg J e D N)(L:cm=true):FN A cm P w K tg J e D N :=
 ⟨T.mem,T.obj,T.keep,λX a b c _ d=>T.item X a b c (d.trans L),λX a b c _ d=>T.done X a b c (d.trans L),T.self⟩
section
variable {X:Cx}{elt iter tg:Expr}{ifs:List Expr}{scope:Scope}{pos:Pos}{own fq:List Str}{js:List Nat}{wi:TI}{g:TG}{tt:TT}{te:TE}
def JT{A:cM}{U:St}(I:θ (dS X N scope xe C s H a) A U b d):θ (dS X N scope MV C s H a) A U b d :=
 ⟨⟨I.ok.mod,I.ok.kind,I.ok.glob,I.ok.blt,I.ok.above,I.ok.inj,I.ok.has,I.ok.Pf,I.ok.hd,I.ok.frames,I.ok.Ju,I.ok.S5,I.ok.bs,I.ok.Jo,I.ok.CU,I.ok.G1,I.ok.funs,I.ok.Jv⟩,I.os,I.bare,I.base,I.loc,I.cell,I.free,I.gz,I.pin,I.hok,I.len⟩
def lM{A:cM}{U:St}{u:Value->Env->Result->Shared->Prop}{c:Addr->Hp->Prop}
 {h:Addr->Shared->Hp->List Addr->Value->Shared->Prop} (T:eL X scope own fq js)
 (hg:∀C s H a,PG (100#(40#0)) tg g)
 (R:∀C s H a,Rl (100#(40#0)) ifs tt)
 (he:∀C s H a,PE (100#(h C s H a)) elt te)
 (Y:θ X A U O s2) (OP:FN X.A X.calm X.prog X.w X.K tg J a it N) (f:N 0 s2.heap) (l:∀b∈a,nQ X A O b)
 (S:∀D,O D=none->gJ J g tt te own.length (fZ U js) D (c D) (86#O))
 (hRR:∀D C j M G,s2.heap.objs.size<=C->θ (dS X (own++fq) scope (40#0) C s2 O a) [] j M G->c D M->u (.ref D) (newEnv scope C X.env.globals (58#0) X.env.qual none .none (some X.env) builtinsNs) (.ok .next) G)
 (Wj:∀D C e w,s2.heap.objs.size<=C->h C s2 O a e w->notedBy 8#0 X.A (compEnvC scope (58#0) C X.env) (λe G=>u D (newEnv scope C X.env.globals (58#0) X.env.qual none .none (some X.env) builtinsNs) (.error e) G) e w) :
 wpAny 8#0 X.A (newList []) (λI m=>wpAny 8#0 X.A (newFunctionEnv scope X.env.globals (58#0) [] X.env.qual none .none (some X.env)) (λd i =>
  codeAny 8#0 X.A (.compStart (.ListComp elt [⟨tg,iter,ifs,0⟩] scope pos) 0 (.ref it) I { d with scope:=relabel scope X.env}) (u I d) i) E m) E s2:=by
 show wpAny_newObj_type (wpAny_newFunctionEnv T.yK (by intro y c;simp at c) (λh₁ RX d=>?_) T.kind)
 generalize h:s2.heap.push { cls:=.type "list",dict:=none,data:=.seq ([]).toArray}=s at RX d ⊢;have c:s.objs.size=s2.heap.objs.size+1:=by rw[<-h,ZZ]
 have Q:s2.heap.objs.size≠s.objs.size:=by rw[c];show Yj (Z1 _)
 have C:s2.heap.objs.size<=s.objs.size:=by rw[c];show Y6 _
 have i:∀b,b<s2.heap.objs.size->b≠s.objs.size:=λb Z=>by rw[c];show Yj (Zu Z)
 have old:∀b o,47#s2.heap.get?->47#h₁.get?:=λb o e=>d.extBut b o (i b (XX e)) (XM _ (h▸XM _ e))
 have hacc:=d.extBut _ _ Q (XM _ (h▸X6 _ rl));have B:∀b∈a,∃o,47#s2.heap.get?:=λb Z=>let⟨o,e,_⟩:=OP.obj _ _ f b Z;⟨o,e⟩
 have st1:=OP.keep _ _ _ f λb _ o e=>old b o e
 show ah (λW f turn=>?_) (S s2.heap.objs.size (Y.hok.fresh (XJ _)));obtain⟨m0,w0⟩:=f
 have D:∀{M:Hp},(∀b∈a,M b=none)->∀b∈a,nQ (dS X (own++fq) scope (40#0) s.objs.size s2 O a) [] M b:=λ{M} f b Z=>by
  show eO (λ_ k d _ v _=>?_) (l b Z)
  obtain⟨o,F⟩:=B b Z;show⟨f b Z,(fE (i b (XX F)) (λz=>?_) (.inl Z) (λx c e=>?_) λp t=>absurd (show p∈([]) from t) 21#0)⟩
  .rcases XS.mp (Y.sJ b z) with q|q
   .show k q
   .show d q
  .rcases jj (e) with q|⟨P,i⟩
   .cases q
   .obtain⟨j,n⟩:=gx Y T x .free P rfl;rw[n]at i;have i:=i;rw[<-i];show v x j n
 have k:∀b∈a,η O s2.heap.objs.size (.lst []) b=none:=λb Z=>by
  obtain⟨o,F⟩:=B b Z;rw[aq (Yj (XX F))];show(l b Z).1
 have H:∀{f:St} {L:cM} {d:Hp} {h:Shared},θ (dS X (own++fq) scope (40#0) s.objs.size s2 O a) L f d h->f.drop own.length=fZ U js->
  θ (dS X (own++fq) scope (40#0) s.objs.size s2 O a) [] (65#own.length++fZ U js) d h:=λ{f L d h} A j=>by
  have c:f.length=27#(own++fq):=A.len;have r:=A.gF (Ri:=[]) λp t=>absurd t 21#0
  show r.weak ?_ λi v e=>?_
  .have q:=Yq List.length j;rw[ZE]at q;rw[XR]at c;rw[XR,YH]
   lia
  .by_cases F:i<own.length
   .rw[Yx (by simpa using F),ZI,XI F]at e
    cases e
   .rw[YB (by simpa using F),YH,<-j,List.getElem?_drop]at e
    rw[73#(own.length+(i-own.length)=i)]at e
    show e
 have L:∀m:Shared,m={ s2 with heap:=h₁,toks:=s2.toks+([]:List (Str×Value)).length}->
  codeAny 8#0 X.A (.compLoop (.ListComp elt [⟨tg,iter,ifs,0⟩] scope pos) 0 (.ref it) (.ref s2.heap.objs.size) (compEnvC scope (58#0) s.objs.size X.env))
   (u (.ref s2.heap.objs.size) (newEnv scope s.objs.size X.env.globals (58#0) X.env.qual none .none (some X.env) builtinsNs)) m:=by
  rintro m rfl;show yL (λn G=>∃i I M,θ (dS X (own++fq) scope (40#0) s.objs.size s2 O a) [] (65#own.length++fZ U js) M G/\N i G.heap/\(∀b∈a,M b=none)/\W i n I M) ?_ m0
   ⟨0,(aM [] (η O s2.heap.objs.size (.lst [])) (JR Y T l B (XJ _) C Q old hacc RX) st1 k w0)⟩
  intro n k;show eu λi=>bD λI l j t p F=>?_
  obtain⟨m,c⟩:=turn i n I l F;rcases c with⟨F,u⟩|⟨B,m,q,n,step⟩
  .show Yn (OP.done (dS X (own++fq) scope (40#0) s.objs.size s2 O a) rl rl rl rl rl i [] k _ l (40#0) j (D p) t F) (λr q ⟨P,c⟩=>?_) λ_ _ z=>z.elim
   subst P;show hRR _ _ _ l q C c u
  .show Yn (OP.item (dS X (own++fq) scope (40#0) s.objs.size s2 O a) rl rl rl rl rl i [] k _ l (40#0) j (D p) t B) (λr q=>ah λu P F=>?_) λ_ _ z=>z.elim
   subst P;show Yn F (λ_ p=>eX λx j k t B c q=>?_) λ_ _ z=>z.elim
   have l:=k.pinned (D q) (OP.obj _ _ c);show Yn (hg _ _ _ _ _ p _ j x u _ l t (step x j B)) (λ_ h=>aA λf d A k r=>?_) λ_ _ z=>z.elim
   show Yn (R _ _ _ _ _ h f d _ A r) (λB t=>ah λq Q l=>?_) λ_ _ z=>z.elim
   have again:∀{h:Hp} {w:Shared},θ (dS X (own++fq) scope (40#0) s.objs.size s2 O a) ([]++sO a p.heap) f h w->N (i+1) w.heap/\∀b∈a,h b=none:=λ{h w} j=>by
    show⟨OP.keep _ _ _ c λb Z o e=>(j.pin (b,o) (iX _ (iX _ (j9 Z e)))).1,λb Z=>?_⟩
    show ah (λo e d=>?_) (OP.obj _ _ c b Z)
    show(j.pin (b,o) (iX _ (iX _ (j9 Z e)))).2.1
   cases B with
   | false =>
     rw[XH XZ];show ah (λb d p=>?_) (n _ _ l)
     obtain⟨v,c⟩:=again Q;show⟨b,(b9 d (i+1) (aM I q (H Q k) v c p))⟩
   | true =>
     rw[XI rfl];show Yn (he _ _ _ _ _ t f q _ (JT Q) l) (λr w=>bD λv h j o p c=>?_) λe w z=>Wj _ _ e w C z
     replace j:=JT (MV:=40#0) j
     show ah (λb d l=>?_) (n _ _ c)
     show Yn (cO (X:=dS X (own++fq) scope (40#0) s.objs.size s2 O a) _ w f h (.ref s2.heap.objs.size) [v] (.ref s2.heap.objs.size) [r] (λy c=>y = .fg/\c=η h s2.heap.objs.size 28#(I++[v])) j rl (.cons o .nil) ⟨_,(aQ I v rl rl p m rl rl)⟩)
      (λ_ f=>bD λy c a _ _ e=>?_) λ_ _ z=>z.elim
     subst e;obtain⟨e,c⟩:=again a;show⟨b,(b9 d (i+1) (aM (I++[v]) _ (H a k) e c l))⟩
 show codeAny_compStart_list (L _ rl) (OP.self _ 0 _ _ _ st1 (L _ rl))
def bC(T:eL X scope own fq js)(L:X.calm=true)(F:PI X tg iter wi)
 (y:∀C s H a,PG (100#(40#0)) tg g)
 (R:∀C s H a,Rl (100#(40#0)) ifs tt)
 (n:∀C s H a,PE (100#(40#0)) elt te)
 (W:∀x,foldedSetIterable iter X.env x=pure x:=by intro _;rfl) :
 PE X (.ListComp elt [⟨tg,iter,ifs,0⟩] scope pos) (JS wi g tt te own.length js):=by
 show 63;rw[eval_ListComp];show wpAny_comprehension_free rl W (ki (gx I T)) T.kind T.names ?_;show Yn 37#F (λv w G=>Yn G (λE t b=>?_) λ_ _ z=>z) λ_ _ z=>z
 revert b;show jd λp a N J O=>eO λe Y d c l S=>?_
 subst e;show lM T y R n Y (d.x L) c l S (λD C P M r k i q=>?_) λ_ _ _ _ _ z=>z.elim
 show ah (λm f _=>?_) i.loc
 show ae m f λo j=>ao (.ref D) M (jB Y l k i j) rl q
def Vo(X:Cx)(tg iter:Expr)(wi:TI):Prop:=∀pq s (σ:St) H R,5#H->wi σ H R->
 wpAny 8#0 X.A (eval iter X.env) (λv w=>wpAny 8#0 X.A (pyIter v) (λE c=>∃D a N J M,E = .ref D/\θ X pq σ M c/\FN X.A X.calm X.prog X.w X.K tg J a D N/\N 0 c.heap/\(∀b∈a,nQ X pq M b)/\R J M) X.xe w) X.xe s
def JU(T:eL X scope own fq js)(F:Vo X tg iter wi)
 (y:∀C s H a,PG (100#(40#0)) tg g)
 (R:∀C s H a,Rl (100#(40#0)) ifs tt)
 (n:∀C s H a,PE (100#(40#0)) elt te)
 (W:∀x,foldedSetIterable iter X.env x=pure x:=by intro _;rfl) :
 PE X (.ListComp elt [⟨tg,iter,ifs,0⟩] scope pos) (JS wi g tt te own.length js):=by
 show 63;rw[eval_ListComp];show wpAny_comprehension_free rl W (ki (gx I T)) T.kind T.names ?_;show Yn 37#F (λv w G=>Yn G (λE t b=>?_) λ_ _ z=>z) λ_ _ z=>z
 revert b;show jd λp a N J O=>eO λe Y d c l S=>?_
 subst e;show lM T y R n Y d c l S (λD C P M r k i q=>?_) λ_ _ _ _ _ z=>z.elim
 show ah (λm f _=>?_) i.loc
 show ae m f λo j=>ao (.ref D) M (jB Y l k i j) rl q
def JV(i:Nat)(wi:TI)(g:TG)(tt:TT)(te:TE)(n:Nat)(js:List Nat):TS:=λD U H=>JS wi g tt te n js U H λv N=>D.nx (U.set i (some v)) N
def fb{i:Nat}{x:Str}{Q b:Pos}(Z:X.N.Nodup)(hix:X.N[i]?=some x)(B:31#x)(T:eL X scope own fq js)(L:X.calm=true)(F:PI X tg iter wi)
 (c:∀C s H a,PG (100#(40#0)) tg g)
 (R:∀C s H a,Rl (100#(40#0)) ifs tt)
 (n:∀C s H a,PE (100#(40#0)) elt te)
 (d:swapsWith (.ListComp elt [⟨tg,iter,ifs,0⟩] scope pos) (some (.Name x Q)) b.line X.env=pure true:=by rfl)
 (W:∀x,foldedSetIterable iter X.env x=pure x:=by intro _;rfl) :
 PS X (.Assign [.Name x Q] (.ListComp elt [⟨tg,iter,ifs,0⟩] scope pos) b) (JV i wi g tt te own.length js):=by
 intro A s U H D I h;rw[exec_Assign_Name_used _ _ _ _ d];show aW (wpAny_standAt (aW ?_));show aW (Yn (wpAny_comprehension_free rl W (ki (gx I T)) T.kind T.names ?_) (λ_ i b=>XN (XN b)) λ_ _ e=>e)
 show Yn 37#F (λv w G=>Yn G (λE d b=>?_) λ_ _ z=>z) λ_ _ z=>z
 revert b;show jd λf a h J O=>eO λe Y d j l S=>?_
 subst e;show lM T c R n Y (d.x L) j l S (λf C P M i k h q=>?_) λ_ _ _ _ _ z=>z.elim
 have j:θ X A U M i:=by
  obtain⟨N,b,m,c,r⟩:=i;show jB Y l k h (Heap.SameBut.refl ..)
 show ah (λm b _=>?_) h.loc
 show cy (λa l N n c s=>?_) (id b)
 have r:=h.free;have d:=Zb (X4 Y.lt k);have h:C∉X.fs:=λz=>by
  show bE (λ_ o b _=>?_) (Y.funs.mem z)
  show absurd (X4 (XX b) k) (YZ _)
 have b:θ X (A++[(C,a)]) U M i:=j.gF λp t=>(Ye.mp t).elim (λz=>j.pin p (iX _ z)) λz=>by
  have e:p=(C,a):=by simpa using z
  subst e;show fE n r d h λv z=>by have y:=z;rw[c]at y;cases y
 show wpAny_assign_Name (lE (v:=.ref f) b Z hix (.inl B) rl (λh u=>?_) (.inr B))
 have b:=(u.pin (C,a) (iX _ (iX _ 21#0))).1
 show ae m ⟨a,(ao l N b c s)⟩ λh f=>bf _ M ?_ q
 have a:=u.oA;show a.turned (λb o Z e=>(f.2 b Z).trans e) r d (.inr (XY Y.sz k)) (λy c e=>?_) (λp t z=>?_)
 .obtain⟨v,a⟩:=Y.cell y c e;show Yj (X4 a.lt k)
 .have a:=(Y.pin p t).1;show absurd (X4 (XX a) (by rw[z];show k)) (YZ _)
end
section
variable {K:b7}  {xs:List V}     {fr:St}
def bw(d:94#(List V))(J:d 0 [] N)(S:∀i I H,i<=xs.length->d i I H->aH K H a xs/\10#H/\I.length<=i)(hz:33#xs.length)
 (W:∀i x I H,xs[i]?=some x->d i I H->g x (65#n++fr) H λk O=>k.drop n=fr/\h k O λb X =>
  if b=true then f k X λv c=>10#c/\d (i+1) (I++[v]) (η c D 28#(I++[v])) else d (i+1) I X)
 (j:∀I H,d xs.length I H->Q H):gJ (Jp K a) g h f n fr D Q N:=by
 show ae (λi m I H=>m=xs.length-i/\i<=xs.length/\d i I H) (au xs.length 21#0 (Yo _) J) ?_
 intro i m I H;show c5 λr F p=>?_;subst r
 show c5 (λq u C=>?_) (S i I H F p)
 show⟨u,?_⟩
 by_cases Z:i<xs.length
 .show .inr (bj (bf xs (xs[i]) q (by simp[Z])) (by lia) (d (i+1)) (λo M R=>cS (xs.length-(i+1)) (by lia) rl Z R) (λx M y=>?_))
  obtain⟨e,y⟩:=y;subst e;show W i x I _ (y xs q) p
 .have e:i=xs.length:=by lia
  subst e;show .inl ⟨ae xs q (XJ _),j I H p⟩
def i4(d:94#(List V))(J:d 0 [] N)(S:∀i I H,i<=xs.length->d i I H->aY K H a xs/\10#H/\I.length<=i)(hz:33#xs.length)
 (W:∀i x I H,xs[i]?=some x->d i I H->g x (65#n++fr) H λk O=>k.drop n=fr/\h k O λb X =>
  if b=true then f k X λv c=>10#c/\d (i+1) (I++[v]) (η c D 28#(I++[v])) else d (i+1) I X)
 (j:∀I H,d xs.length I H->Q H):gJ (Rk K a) g h f n fr D Q N:=by
 show ae (λi m I H=>m=xs.length-i/\i<=xs.length/\d i I H) (au xs.length 21#0 (Yo _) J) ?_
 intro i m I H;show c5 λl F p=>?_;subst l
 show c5 (λq u C=>?_) (S i I H F p)
 show⟨u,?_⟩
 by_cases Z:i<xs.length
 .show .inr (bj (bf xs (xs[i]) q (by simp[Z])) (by lia) (d (i+1)) (λo M R=>cS (xs.length-(i+1)) (by lia) rl Z R) (λx M y=>?_))
  obtain⟨e,y⟩:=y;subst e;show W i x I _ (y xs q) p
 .have e:i=xs.length:=by lia
  subst e;show .inl ⟨ae xs q (XJ _),j I H p⟩
def ee{lo}(d:94#(List V))(J:d 0 [] N)(S:∀i I H,i<=m->d i I H->10#H/\I.length<=i)(hz:m<=sizeLine)
 (W:∀i I H,i<m->d i I H->g (.int (lo+i)) (65#n++fr) H λa O=>a.drop n=fr/\h a O λb X =>
  if b=true then f a X λv c=>10#c/\d (i+1) (I++[v]) (η c D 28#(I++[v])) else d (i+1) I X)
 (j:∀I H,d m I H->Q H):gJ (Jz lo m) g h f n fr D Q N:=by
 show ae (λi k I H=>k=m-i/\i<=m/\d i I H) (au m 21#0 (Yo _) J) ?_
 intro i k I H;show c5 λl F p=>?_;subst l
 obtain⟨u,C⟩:=S i I H F p;show⟨u,?_⟩
 by_cases Z:i<m
 .show .inr (bj Z (by lia) (d (i+1)) (λo M R=>cS (m-(i+1)) (by lia) rl Z R) (λx M y=>?_))
  obtain⟨e,y⟩:=y;subst e y;show W i I _ Z p
 .have e:i=m:=by lia
  subst e;show .inl ⟨XJ _,j I H p⟩
end
def sX(scope g:Scope)(N fq:List Str)(js:List Nat):Bool :=
 9#(scope.kind = .function)&&scope.names.all (λy=>9#(y.2≠.cell))&&scope.names.all (λy=>9#(y.2 = .local->83#y.1=some .local)) &&
 scope.names.all (λy=>9#(y.2 = .free->g.names.lookup y.1=some .cell\/g.names.lookup y.1=some .free))&&9#(js.map (λj=>N[j]?)=fq.map some)&&fq.all (λx=>9#(83#x=some .free))
def Av{X:Cx}{scope:Scope}{own fq:List Str}{js:List Nat}(g:Scope)(N:List Str)(G:X.env.scope=g:=by rfl)(C:X.N=N:=by rfl)(h:sX scope g N fq js=true:=by decide +kernel):eL X scope own fq js:=by
 unfold sX at h;simp only[YE,decide_eq_true_eq,Zl]at h;obtain⟨⟨⟨⟨⟨a,b⟩,c⟩,d⟩,e⟩,f⟩:=h;show⟨a,b,c,by rw[G];show d,by rw[C];show e,f⟩
mutual
inductive jC(K:b7)(H:Hp):V->PyData->Prop
 | fg:jC K H .fg .none
 | bl (b:Bool):jC K H (.bl b) (.bool b)
 | int (i:Int):jC K H (.int i) (.int i)
 | str (x:Str):jC K H (.str x) (.str x)
 | lst {a:Addr} {xs:List V} {ds:List PyData} (h:aH K H a xs) (r:DatVs K H xs ds):jC K H (.ref a) (.list ds)
 | tup {a:Addr} {xs:List V} {ds:List PyData} (h:aY K H a xs) (r:DatVs K H xs ds):jC K H (.ref a) (.tuple ds)
inductive DatVs(K:b7)(H:Hp):List V->List PyData->Prop
 | nil:DatVs K H [] []
 | cons {x:V} {d:PyData} {xs:List V} {ds:List PyData} (h:jC K H x d) (r:DatVs K H xs ds):DatVs K H (x::xs) (d::ds)
end
section
variable {X:Cx}{pq:cM}{σ:St}{H:Hp}{s:Shared}
mutual
def jC.reads(I:5#H):∀{v} {d} {u},jC X.K H v d->ο v u->∃as,Reads s.heap u d as
 | _,_,u,.fg,r=>by cases(r);show⟨_,.none⟩
 | _,_,u,.bl b,r=>by cases(r);show⟨_,.bool b⟩
 | _,_,u,.int i,r=>by obtain⟨t,rfl⟩:=(r);show⟨_,.int i t⟩
 | _,_,u,.str x,r=>by obtain⟨t,rfl⟩:=(r);show⟨_,.str x t⟩
 | _,_,u,.lst h L,r=>by
   cases(r);show az (λN O y _=>?_) (I.list h);obtain⟨o,n,e,c,_,d⟩:=y
   obtain⟨as,q⟩:=DatVs.reads I L O;show⟨_,.list e c d (by simpa using q)⟩
 | _,_,u,.tup h L,r=>by
   cases(r);show az (λN O t _=>?_) (I.tuple h);obtain⟨o,e,c,n,d⟩:=t
   obtain⟨as,q⟩:=DatVs.reads I L O;show⟨_,.tuple e c d (by simpa using q)⟩
def DatVs.reads(I:5#H):∀{vs} {ds} {us},DatVs X.K H vs ds->ξ vs us->∃as,ReadsAll s.heap us ds as
 | _,_,_,.nil,.nil=>⟨_,.nil⟩
 | _,_,_,.cons h r,.cons O F=>by
   obtain⟨as,q⟩:=jC.reads I h O;obtain⟨f,E⟩:=DatVs.reads I r F;show⟨_,.cons q E⟩
end
end
section
variable {X:Cx}
def RY(K:b7):R2:=λx y H Q=>∃d e,jC K H x d/\jC K H y e/\99#d/\99#e/\Q (.bl (PyData.eqv d e)) H
def RZ(K:b7):R2:=λx y H Q=>∃d e,jC K H x d/\jC K H y e/\99#d/\99#e/\Q (.bl (! PyData.eqv d e)) H
def PN(r:X.A.units+64<cLine):jz X 115#.Eq (RY X.K):=by
 show 95
 revert h;show eX λd e G C w M q=>?_
 obtain⟨D,b⟩:=G.reads I c;obtain⟨f,a⟩:=C.reads I L;show eq_dataH b a w M r (ao (.bl _) H I rl q)
def PR(r:X.A.units+64<cLine):jz X 115#.NotEq (RZ X.K):=by
 show 95
 revert h;show eX λd e G C w M q=>?_
 obtain⟨D,b⟩:=G.reads I c;obtain⟨f,a⟩:=C.reads I L;show ne_dataH b a w M r (ao (.bl _) H I rl q)
def FO:RQ X "int.bit_length" (λx xs H Q=>∃i,x = .int i/\xs=[]/\Q (.int (66#i)) H):=by
 intro A s U H x xs v g Q I c L h
 revert h;show az λi a k q=>?_;subst a k
 show 60;cases L;show call_int_bit_length (ao (.int _) H (I.tok _) 110#0 q)
def r6{x:Str}{v:Int}{l:Pos}(y:Gl X x)(h:∃t,X.mg x=some (.int v t))(j:(x==("__debug__":Str))=false:=by decide):68#(tC (.int v)):=by
 obtain⟨t,e⟩:=h;show yx y e ⟨t,rfl⟩ j
def PI.or(h:PI X tg l a)(h' : PI X tg l b):PI X tg l (λU H R=>a U H R\/b U H R):=by
 intro A s U H R I q;rcases q with q|q
 .show h A s U H R I q
 .show h' A s U H R I q
def PU(S:PE X l d):PI X tg l (λU H R=>Fo X.K d U H R\/ML X.K d U H R):=(Fp S).or (JA S)
def qn{K}(h:aH K H p xs\/aY K H p xs)(e:vC xs i=some v)(q:Q v H):T3 K (.ref p) (.int i) H Q:=by
 rcases h with h|h
 .show .inl (bO p xs i v rl rl h e q)
 .show .inr (.inl (bO p xs i v rl rl h e q))
end
def dl{n:Nat}(h:Nat.ble n 1000=true):n<=sizeLine:=Za (g5 (Nat.le_of_ble_eq_true h))
def oJ{j:Int}(h:decide (0<j)=true):0<j:=om h
def gf{c A B:Prop}[Decidable c](h : ¬ c)(Z:B):if decide c=true then A else B:=by
 rw[fW h];show cH Z
def lN{c A B:Prop}[Decidable c](h:c)(C:A):if decide c=true then A else B:=by
 rw[e5 h];show eY C
def aj.new(h:H p=none):aj H (η H p o):=λb u e=>by
 rwa [aq (bW e h)]
def aj.put(s:aj H O)(h:H D=none):aj H (η O D o):=λb u e=>by
 rw[aq (bW e h)];show s b u e
def aj.Vp{K}(e:aj H M)(h:aY K H a xs):aY K M a xs:=by
 rcases h with(h|⟨o,h⟩) | h
 .show .inl (.inl (e _ _ h))
 .show .inl (.inr ⟨o,e _ _ h⟩)
 .show .inr h
def fh(H M:Hp):Prop:=∀b f,H b=some (.tup f)->M b=some (.tup f)
def aj.tups(s:aj H M):fh H M:=λb f e=>s b _ e
def fh.trans(a:fh H N)(b:fh N O):fh H O:=λc f e=>b c f (a c f e)
def fh.put(h:H D=1#ys):fh H (η H D o):=λb f e=>by
 rwa [aq (cC e h 26#0)]
def Paired.lA:∀{l} {r:List c} {i:Nat} {x},Paired F l r->l[i]?=some x->∃y,r[i]?=some y/\F x y
 | _,_,_,_,.nil,e=>by simp at e
 | _,_,0,_,.cons h _,e=>by
   simp at e;subst e;show ae _ rl h
 | _,_,i+1,x,.cons _ t,e=>by
   show ah (λy G C=>?_) (Paired.lA t (by simpa using e))
   show ae y (by simpa using G) C
section
variable  {pq:cM}{σ:St}
def θ.swap(I:5#H)(e:H a=some J)(nt:∀xs,HO.tup xs≠J)(f:∀i,HO.gT i≠J)(k:∀y,HO.own y≠J)(d:∀b o u,X.H₀ b=some (.ou o u)->b≠a)
 (j:∀{H'},(∀b,H b=some (.own a)->H' b=some (.own a))->(∀b xs,H b=17#xs->H' b=17#xs)->dO X.prog X.w H' s.heap a g):5#(η H a g):=by
 have T:∀b,H b=none->b≠a:=λb h z=>by rw[z,e]at h;cases h
 have F:∀y b,H b=some (.own y)->η H a g b=some (.own y):=λy b q=>by rw[aq (cC q e (k y))];show q
 have R:∀b xs,H b=17#xs->η H a g b=17#xs:=λb xs q=>by rw[aq (cC q e (nt xs))];show q
 show⟨I.ok,I.os,I.bare,⟨I.base.keep,I.base.slot,λb o q n B=>?_,I.base.there,λb xs q=>R b xs (I.base.tups b xs q),λb o u q=>?_,λb i q=>?_⟩,I.loc,I.cell,?_,λx c q=>?_,λp t=>?_,λb u q=>?_,I.len⟩
 .have z:=I.base.free b o q n B
  rwa [aq (T b z)]
 .rw[aq (d b o u q)];show I.base.jx b o u q
 .obtain⟨Q,z⟩:=I.base.lD b i q;show⟨Q,by rw[aq (cC z e (f _))];show z⟩
 .rw[aq (T _ I.free)];show I.free
 .rw[aq (T _ (I.gz x c q))];show I.gz x c q
 .show c5 (λm E v=>?_) (I.pin p t)
  show bh m (by rw[aq (T _ E)];show E) v
 .by_cases Z:b=a
  .subst Z;rw[aa]at q;cases q;show j (F _) R
  .rw[aq Z]at q;show(I.hok b u q).stay (λ_ _ _ q=>q) (F b) R
end
section
variable {X:Cx}{l:Expr}{tl:TE}{tg a b o e:Expr}  {es:List Expr}
def C8(K:b7)(r:X.A.units+64<cLine)(h:X.K=K:=by rfl):jz X 115#.Eq (RY K):=by subst h;show PN r
def qo(K:b7)(r:X.A.units+64<cLine)(h:X.K=K:=by rfl):jz X 115#.NotEq (RZ K):=by subst h;show PR r
def R0(K:b7):90#(List V):=λf H Q=>∃p t,f=[.ref p]/\(aH K H p t\/aY K H p t)/\Q (.int t.length) H
def Ua(K:b7)(h:X.K=K:=by rfl):fX X (.builtin "len") (R0 K):=by subst h;show yI
def R1(K:b7):90#(List V):=λf H Q=>∃p t,f=[.ref p]/\(aH K H p t\/aY K H p t)/\∀l,H l=none->Q (.ref l) (η H l (.lst t))
def JW(K:b7)(h:X.K=K:=by rfl):fX X (.type "list") (R1 K):=by subst h;show yJ
def R3(K:b7):90#(List V):=λf H Q=>∃p t,f=[.ref p]/\((aH K H p t/\∀l,H l=none->Q (.ref l) (η H l (.tup t)))\/(aY K H p t/\Q (.ref p) H))
def qX(K:b7)(h:X.K=K:=by rfl):fX X (.type "tuple") (R3 K):=by subst h;show vE
def gA(K:b7)(h:X.K=K:=by rfl):FH X (MQ K):=by subst h;show FI
def MW(K:b7)(h:X.K=K:=by rfl):FH X (MR K):=by subst h;show JK
def Rm(K:b7)(h:X.K=K:=by rfl):FH X (T3 K):=by subst h;show PJ
def CP(K:b7)(h:X.K=K:=by rfl):PB X (RU K):=by subst h;show MS
def MX(K:b7)(h:X.K=K:=by rfl):PB X (RP K):=by subst h;show PD
def R4(K:b7)(h:X.K=K:=by rfl):jz X 115#.In (S6 K false):=by subst h;show G9
def JX(K:b7)(h:X.K=K:=by rfl):jz X 115#.NotIn (S6 K true):=by subst h;show yH
def kZ(K:b7)(S:PE X l tl)(h:X.K=K:=by rfl):PI X tg l (Fo K tl):=by subst h;show Fp S
def Rn(K:b7)(S:PE X l tl)(h:X.K=K:=by rfl):PI X tg l (ML K tl):=by subst h;show JA S
def Ub(K:b7)(S:PE X l tl)(h:X.K=K:=by rfl):PI X tg l (λU H R=>Fo K tl U H R\/ML K tl U H R):=by subst h;show PU S
def yM(K:b7){k:Nat}{t:ME}{n:Nat}{d:Pos}(L:X.calm=true)(c:Rj X es t)(g:27#(assignEach es X.env)=n:=by rfl)(w:(assignEach es X.env).findIdx? (·.1)=none:=by rfl)(h:X.K=K:=by rfl):
 PG X (.Tuple es k d) (RE K n t):=by subst h;show Pn L c g w
end
def Uc(e:Addr)(h:Heap):Prop:=∃T Y,h.get? e=some T/\T.data = .fields Y/\Y[2]?=some .none
def sY(m:114#0)(c:Value)(e:Addr)(h:Heap):Prop:=∃T Y,h.get? e=some T/\T.data = .fields Y/\Y[2]?=some c/\T.dict=m
def JY(o:Obj)(f):(o.mapFields f).dict=o.dict:=by
 obtain⟨c,d,g,O⟩:=o;cases g<;>rfl
section
variable  {A:Around}  {s:Shared}{B:Heap}
def yN{h:Heap}(f)(t:h.get? T=some k)(j:k.data = .fields J):h.UpToSlots (h.update T f):=λb o Z g=>by
 have a:T≠b:=λz=>by
  rw[<-z,t]at Z;cases Z;show g J j
 show⟨o.slots,(YJ h f a).trans Z⟩
def qp(f)(k:B.StaysIn h)(n:B.get? T=none):B.StaysIn (h.update T f):=λb o Z=>by
 have a:T≠b:=λz=>by
  rw[<-z,n]at Z;cases Z
 show(YJ h f a).trans (k b o Z)
def ko{h h' : Heap}(x:h.FunFrames B l)(u:h.UpToSlots h'):h'.FunFrames B l:=x.of_keeps λb o Z g =>
 let⟨_,q⟩:=u b o Z g
 (ae _ q rl)
def Aw(R:B.StaysIn s.heap)(g:B.get? e=none)(S:s.heap.FunFrames B l)(z:s.heap.TracedAtW B e cls v a)(C:sY m c e s.heap)
 (q:∀h',Heap.FlyingW B l e cls v h'->sY m c e h'->s.heap.UpToSlots h'->Q () { s with heap:=h'}):wpAny M A (setFlight (.ref e) none) Q E s:=by
 revert z;show eR λw Y T=>bD λk J U L i=>eO λu p n b h F=>?_
 have t:=(ZC.mp F).1;rw[setFlight];show aW (wpAny_field U i u ?_);rw[XI 21#0]
 show wpAny_setField b h t ?_;have y:=yN (Obj.mapFields (·.setIfInBounds 3 (none.elim Value.none λf=>rawInt f))) b h
 have o:=(YJ s.heap (Obj.mapFields (·.setIfInBounds 3 (none.elim Value.none λf=>rawInt f))) n).trans U
 have j:=ZN h (·.setIfInBounds 3 (none.elim Value.none λf=>rawInt f))
 show q _ (bh (qp _ R p) g (b9 (ko S y) w (bO Y T _ _ o L i u (fE p n (YV _ b (ZR j)) j (by simp[t]))))) ?_ y
 revert C;show bD λD X d x r I=>?_
 rw[U]at d;cases d;show aM w X o x r I
def JZ(w:A.frames=some (env::outer))(S:s.heap.FunFrames B (env::outer))(X:env.frame=some L)(U:s.heap.get? e=some T)(R:B.StaysIn s.heap)(g:B.get? e=none)
 (i:T.data = .fields Y) (hz:1<Y.size) (J:Y[0]?=some v) (C:Y[2]?=some c) (l:T.dict=m)
 (q:∀h',Heap.HeldW B (env::outer) e T.cls v L h'->sY m c e h'->s.heap.UpToSlots h'->Q () { s with heap:=h'}) :
 wpAny M A (do let a←frameOf env;let D←entryPlaceOf L W;let b←EntryCells.newEntry I a .none (rawInt L) .none D;setField (.ref e) 1 b) Q E s:=by
 have O:e∉(env::outer).filterMap (·.frame):=λz=>by
  show bE (λ_ o F N=>?_) (S.mem z)
  rw[U]at F;cases F;show N Y i
 show aW (wpAny_frameOf_fun w S X λG f=>aW (wpAny_entryPlaceOf λD F=>?_))
 rw[EntryCells.newEntry,newFields];show aW (wpAny_newObj_type ?_ (F.sizeOk5 _ _ _ _ _));generalize t:({ cls:=.type "traceback",dict:=none,data:=.fields ([I,.ref L,.none,rawInt L,.none]++(if D.isEmpty then List.replicate 6 Value.none else D)).toArray}:Obj)=P
 have d:P.data = .fields ([I,.ref L,.none,rawInt L,.none]++(if D.isEmpty then List.replicate 6 Value.none else D)).toArray:=by rw[<-t]
 have k:=(f.2.1 e O).trans U;have h:=XM P k;have n:=Zb (XX k);show wpAny_setField h i hz ?_;have j:=ZN i (·.setIfInBounds 1 (Value.ref G.objs.size));have x:=YV (Obj.mapFields (·.setIfInBounds 1 (Value.ref G.objs.size))) h (ZR j);have N:=(YJ (G.push P) (Obj.mapFields (·.setIfInBounds 1 (Value.ref G.objs.size))) (Yy n)).trans (X6 G (by rw[<-t];rfl))
 have y:s.heap.UpToSlots ((G.push P).update e (Obj.mapFields (·.setIfInBounds 1 (Value.ref G.objs.size)))):=by
  have H:s.heap.UpToSlots G:=λb o Z _=>f.2.2 b o Z
  show(H.trans (.of_keeps λb o Z=>XM P Z)).trans (yN _ h i)
 have p:B.StaysIn G:=λb o Z=>(f.2.1 b λz=>by rw[(S.mem z).1]at Z;cases Z).trans (R b o Z)
 have r:B.StaysIn (G.push P):=λb o Z=>XM P (p b o Z)
 show q _ (bh (qp _ r g) g (b9 (ko S y) _ (bO _ G.objs.size P _ x ⟨E! _ _,by rw[E? 4#0];show J⟩ j (by simp[hz]) (fE p.fresh n N d ?_)))) ?_ y
 .first | (simp;done) | (rcases F with rfl | ⟨_,_,_,_,_,_,_,rfl⟩<;>simp)
 .show aM _ _ x j (by rw[E? 4#0];show C) ((JY _ _).trans l)
def OQ(w:A.frames=some (env::outer))(u:env.frame=some L)(a:Heap.FlyingW B (env::outer) e cls v s.heap)(C:sY m c e s.heap)
 (q:∀h',Heap.HeldW B (env::outer) e cls v L h'->sY m c e h'->s.heap.UpToSlots h'->Q () { s with heap:=h'}):wpAny M A (noteFrame (.ref e) env) Q E s:=by
 revert a;show mF λR g S=>eR λN Y T=>bD λk J U f i=>eO λt p n b h F=>?_;obtain⟨D,z⟩:=f
 revert C;show bD λH X d l r I=>?_
 rw[U]at d;cases d;rw[i]at l;cases l;cases D;rw[noteFrame];simp only[u];show aW (wpAny_field U i t ?_);rw[XI 21#0]
 show aW (wpAny_field b h F ?_);rw[XH (by simp[rawInt])]
 show aW (wpAny_setField b h (ZC.mp F).1 ?_);have y:=yN (Obj.mapFields (·.setIfInBounds 3 Value.none)) b h;have o:=(YJ s.heap (Obj.mapFields (·.setIfInBounds 3 Value.none)) n).trans U;show JZ w (ko S y) u o (qp _ R p) g i (ZC.mp t).1 z r I λh' G j x=>q h' G j (y.trans x)
def R5(x:Heap.FlyingW B (env::outer) e cls v s.heap):Heap.FlyingW B outer e cls v s.heap :=
 let⟨k1,k2,⟨_,_,k3⟩,k4⟩:=x
 (f7 k1 k2 k3 k4)
def leave_on2(w:A.frames=some (env::outer))(Y:env.frame=some L)(a:Heap.FlyingW B (env::outer) e cls v s.heap)(C:sY m c e s.heap)
 (q:∀h',Heap.FlyingW B outer e cls v h'->sY m c e h'->s.heap.UpToSlots h'->Q () { s with heap:=h'}):wpAny M A (leaving env (.ref e)) Q E s:=by
 rw[leaving];show aW (OQ w Y a C λh' g j x=>?_)
 revert g;show mF λz X b f=>?_
 show Aw z X b f j λd u I t=>q d (R5 (s:={ s with heap:=d}) u) I (x.trans t)
def leave_new(w:A.frames=some (env::outer))(a:env.frame=some L)(R:B.StaysIn s.heap)(g:B.get? e=none)(S:s.heap.FunFrames B (env::outer))(U:s.heap.get? e=some T)(i:T.data = .fields Y)
 (J:Y[0]?=some v) (G:Y[1]?=some .none) (C:Y[2]?=some c) (l:T.dict=m)
 (q:∀h',Heap.FlyingW B outer e T.cls v h'->sY m c e h'->s.heap.UpToSlots h'->Q () { s with heap:=h'}):wpAny M A (leaving env (.ref e)) Q E s:=by
 rw[leaving,noteFrame];simp only[a];show aW (aW (wpAny_field U i G ?_));rw[XH 4#0]
 show JZ w S a U R g i (ZC.mp G).1 J C l λh' h j x=>?_
 revert h;show mF λz X b f=>?_
 show Aw z X b f j λd u I t=>q d (R5 (s:={ s with heap:=d}) u) I (x.trans t)
end
section
variable      {o:HO}
def dO.thing(x:dO P w H h a o):∃ob,118#ob:=by
 cases o with
 | lst f=>revert x;show rX λ_=>aR λ_ _ _ e=>?_;show⟨_,e⟩
 | tup f=>revert x;show bE λ_ _ _=>ah λob e _=>?_;show⟨ob,e⟩
 | dK J=>revert x;show bL λ_ _ _ _=>cu λob _ _ e _=>?_;show⟨ob,e⟩
 | dT J=>revert x;show bL λ_ _ _ _=>cu λob _ _ e _=>?_;show⟨ob,e⟩
 | set S n=>revert x;show eu λob=>cu λ_ _ _ e _=>?_;show⟨ob,e⟩
 | ins C g M=>revert x;show m9 λ_ _ _ e _=>?_;show⟨_,e⟩
 | own y=>show x
 | xd M=>revert x;show ah λ_ r _=>?_;obtain⟨ob,_,_,e,_⟩:=r;show⟨ob,e⟩
 | CT lo F=>revert x;show eR λ_ _ _ e=>?_;show⟨_,e⟩
 | ou ob u=>obtain⟨e,_⟩:=x;show⟨_,e⟩
 | gT i=>revert x;show ah λ_ e _=>?_;show⟨_,e⟩
 | met f y=>show⟨_,(x)⟩
 | ext d=>revert x;show c5 λ_ e _=>?_;show e
def MY(B:Heap)(M:List Addr)(J:Heap)(H:Hp)(h:Heap):Prop:=∀b o,47#h.get?->(H b≠none\/∃f,J.get? b=some f)->b∉M->47#B.get?
def Ax(un:Un M [] t N J G)(A:lC P w N G)(h:∀b∈M,N b=none)(l:∀b∈M,∀ob,G.get? b=some ob->∀Y,ob.data≠.fields Y)(i:MY B M J N G)
 (g:B.StaysIn C) (y:G.UpToSlots C):Un M [] t N J C/\lC P w N C/\MY B M J N C:=by
 have d:∀b ob,G.get? b=some ob->(N b≠none\/∃f,J.get? b=some f)->b∉M->C.get? b=some ob:=λb ob e c n=>g b ob (i b ob e c n)
 have Rh:∀b u,N b=some u->b∉M:=λb u e z=>by
  rw[h b z]at e;cases e
 show bh ⟨λb ob e n Z j=>d b ob (un.keep b ob e n Z j) (.inr ⟨ob,e⟩) Z,λb ob e n Z j=>?_,un.free,λb ob e j=>?_,un.tups,un.jx,un.lD⟩ (λb u e=>?_) λb ob e c n=>?_
 .obtain⟨O,q⟩:=un.slot b ob e n Z j;obtain⟨a,U⟩:=y b _ q (l b Z _ q);show⟨a,U⟩
 .obtain⟨f,q⟩:=un.there b ob e j
  by_cases Z:b∈M
  .obtain⟨a,U⟩:=y b _ q (l b Z _ q);show⟨_,U⟩
  .show⟨f,d b f q (.inr ⟨ob,e⟩) Z⟩
 .show(A b u e).stay (λc v L q=>?_) (λ_ q=>q) λ_ _ q=>q
  have a:∃z,N c=some z:=by
   rcases L with L|L
   .rw[L];show⟨u,e⟩
   .show⟨_,L⟩
  obtain⟨z,m⟩:=a;show d c v q (.inl (by rw[m];simp)) (Rh c z m)
 .have R:∃D,G.get? b=some D:=by
   rcases c with c|⟨f,c⟩
   .cases m:N b with
    | none=>show absurd m c
    | some z=>show(A b z m).thing
   .show un.there b f c 21#0
  obtain⟨D,q⟩:=R;have E:=i b D q c n;have T:=g b D E;rw[e]at T
  rwa [13#T]
end
def Ud(L:Addr)(cls:Value):HO:=.ext λh=>∃T Y,h.get? L=some T/\T.cls=cls/\T.data = .fields Y/\Y[2]?=some .none
def PV(E:XK)(cls:Value)(m:114#0)(c:Value)(H:Hp):Prop:=(c = .none/\(∃a:Addr,cls = .ref a)/\E cls m H)\/∃C T b,cls = .ref C/\m=none/\c = .ref T/\H T=some (Ud T b)/\E (.int C T) none H
def CQ(P:Program)(w:World):Jq:=λb H s E e G=>∃L u v m c M B,e = .ref L/\G.os=s.os/\AllBare G.gens/\Un (frs b) [] H M s.heap G.heap/\lC P w M G.heap/\M L=none/\
 MY B (frs b) s.heap M G.heap/\Heap.FlyingW B b L u v G.heap/\sY m c L G.heap/\PV E u m c M
structure Out(X:Cx)(E:XK):Prop where
 Ju:X.stack=X.env::X.outer
 fr:X.env.frame=some X.env.locals
 ex:X.ex=[]
 xe:∀e s',wpAny 8#0 X.A (leaving X.env e) (λ_ s''=>CQ X.prog X.w X.outer X.H₀ X.s₀ E e s'') (λe' s''=>CQ X.prog X.w X.outer X.H₀ X.s₀ E e' s'') s'->X.xe e s'
section
variable   {pq:cM}{σ:St}
def θ.PX(I:5#H):∀b∈X.fs,∀ob,18#ob->∀Y,ob.data≠.fields Y:=λb Z ob e=>by
 show bE (λ_ o F d=>?_) (I.funs.mem Z)
 rw[e]at F;cases F;show d
def θ.PY(I:5#H)(B:X.ex=[]):∀b∈X.fs,H b=none:=λb Z=>by
 show bE (λ_ o F _=>?_) (I.ok.funs.mem Z)
 show I.base.free b o F (I.ok.Jv b Z) (by rw[B];simp)
def MY.outer(I:5#H)(i:MY B (frs X.stack) J H h)(k:∀b o,47#X.s₀.heap.get?->∃f,J.get? b=some f):MY B X.fs X.s₀.heap H h:=λb o e c n=>by
 show i b o e (c.imp id λ⟨f,q⟩=>k b f q) λz=>?_
 rcases XS.mp (I.sJ b z) with q|q
 .subst q;rcases c with c|⟨f,c⟩
  .show c I.free
  .show absurd (X4 (XX c) I.ok.above) (YZ _)
 .show n q
def FP(O:Out X E)(I:5#H)(i:MY B X.fs X.s₀.heap H s.heap)(a:Heap.FlyingW B X.outer L cls v C)(d:sY m c L C)(y:s.heap.UpToSlots C)(g:H L=none)(q:PV E cls m c H):
 CQ X.prog X.w X.outer X.H₀ X.s₀ E (.ref L) { s with heap:=C}:=by
 have un:Un X.fs [] X.H₀ H X.s₀.heap s.heap:=by
  have u:=I.base;rw[O.ex]at u;show u
 show c5 (λp j b=>?_) (Ax un I.hok (I.PY O.ex) I.PX i a.1 y)
 show⟨L,(jw cls v m c (aQ H B rl I.os I.bare p j (fE g b a d q)))⟩
def Out.Ue(O:Out X E)(I:5#H)(U:s.heap.get? L=some T)(i:T.data = .fields Y)(J:Y[0]?=some v)(G:Y[1]?=some .none)(C:Y[2]?=some c)
 (g:H L=none) (Q:X.s₀.heap.get? L=none) (q:PV E T.cls T.dict c H):X.xe (.ref L) s:=by
 show O.xe _ _ ?_;have w:X.A.frames=some (X.env::X.outer):=by rw[I.ok.frames,O.Ju]
 have S:s.heap.FunFrames (PySem.W.hideAll s.heap (L::frs X.stack)) (X.env::X.outer):=by
  have z:=PySem.W.funFrames_hide (as:=L::frs X.stack) I.stack λh n b Z=>nc _ (Z9.mpr (ae h n Z))
  rw[O.Ju]at z ⊢;show z
 show leave_new w O.fr (λb o e=>PySem.W.of_hideAll _ e) (PySem.W.hideAll_none _ (X0 ..)) S U i J G C rl λl a d y=>?_
 show FP O I (MY.outer I (λb o e c n=>?_) λb o e=>⟨o,e⟩) a d y g q
 show PySem.W.hideAll_get _ e λz=>?_
 rcases XS.mp z with z|z
 .subst z;rcases c with c|⟨f,c⟩
  .show c g
  .rw[Q]at c;cases c
 .show n z
def Out.Ug(O:Out X E)(I:5#H)(U:s.heap.get? L=some T)(i:T.data = .fields Y)(J:Y[0]?=some v)(G:Y[1]?=some .none)(C:Y[2]?=some .none)
 (g:H L=none) (Q:X.s₀.heap.get? L=none) (h:∃a:Addr,T.cls = .ref a) (q:E T.cls T.dict H):X.xe (.ref L) s:=O.Ue I U i J G C g Q (.inl (bh rl h q))
def θ.J0{G:Shared}(I:5#H)(os:G.os=s.os)(l:AllBare G.gens)(un:Un (frs X.stack) [] H M s.heap G.heap)(A:lC X.prog X.w M G.heap):θ X pq σ M G :=
 I.Jw os un A l λb z=>absurd z 21#0
def Out.passes(O:Out X E):Passes (CQ X.prog X.w) X E:=by
 intro pq σ H s e G I q
 revert q;show qh λL u v m=>bV λc M B F os l un=>eO λA g i a d f=>?_;subst F
 have J:=I.J0 os l un A;show O.xe _ _ ?_;have w:X.A.frames=some (X.env::X.outer):=by rw[I.ok.frames,O.Ju]
 rw[O.Ju]at a;show leave_on2 w O.fr a d λC j h y=>?_
 show FP O J (MY.outer J i λb o e=>I.base.there b o e (by rw[O.ex];simp)) j h y g f
end
def J6{K}:
 Out (m4 (CQ P w) P w K mg base N B scope f cd A outer s H E) E:=⟨rfl,rfl,rfl,λ_ _ h=>h⟩
def Hh.S7{K}{st}(F:Hh K x B st f fd)(S:ez N i (aP st))
 (len:∀Y H Q E,sp Y H Q E->Y.length=i.length)
 (z:∀d A outer s H Y Q E,eB k (112#B)->sp Y H Q E->
  ∃t,oj (m4 (CQ P w) P w K mg base N B (aP st) f d A outer s H E) (cg st) t/\t { nx:=λ_ M=>Q .fg M,rt:=Q} (start N Y) H):je P w K mg base (CQ P w) (k+1) f fd i sp:=by
 show eu (λl=>jd λm kV c X C=>cy λd W n e u D=>?_) F.ex;subst e
 show FD u D S len λA outer s H Y Q E a j=>z d A outer s H Y Q E a j
def P0(K)(i)(n:Nat)(v):PySem.W.exmOne K (.int i n) v≠some true:=by
 unfold PySem.W.exmOne
 split
 .unfold PySem.W.kitCls
  split
  .split<;>simp[PySem.W.subIn]
  .split<;>simp[PySem.W.subIn]
  .simp
 .simp
def C9(L:Addr)(cls:Value)(m:114#0):HO:=.ext λh=>∃T Y,h.get? L=some T/\T.cls=cls/\T.data = .fields Y/\Y[2]?=some .none/\T.dict=m
def MZ{h:Heap}(q:∃T Y,h.get? L=some T/\T.cls=cls/\T.data = .fields Y/\Y[2]?=some .none/\T.dict=m):dO P w H h L (C9 L cls m) :=
 (bh q (let⟨T,_,e,_⟩:=q;⟨T,e⟩) (λG C=>eX λT Y e c d z y k=>cL T Y (k T e) c d z y))
section
variable  {pq:cM}{σ:St}
def θ.J7(I:5#H)(g:H L=none)(J:X.s₀.heap.get? L=none)(a:88#L)(k:∀x c,32#x->c≠L)(t:∀p∈X.pn++pq,p.1≠L)
 (h:dO X.prog X.w (η H L o) s.heap L o):5#(η H L o):=by
 have T:∀b u,H b=some u->b≠L:=λb u e z=>by rw[z,g]at e;cases e
 show⟨I.ok,I.os,I.bare,⟨I.base.keep,I.base.slot,λb C e n B=>?_,I.base.there,λb f e=>?_,λb C u e=>?_,λb i e=>?_⟩,I.loc,I.cell,?_,λx c e=>?_,λp d=>?_,λb u e=>?_,I.len⟩
 .rw[aq (λz=>by rw[z,J]at e;cases e)]
  show I.base.free b C e n B
 .have q:=I.base.tups b f e
  rwa [aq (T b _ q)]
 .have q:=I.base.jx b C u e
  rwa [aq (T b _ q)]
 .obtain⟨Q,q⟩:=I.base.lD b i e;show⟨Q,by rw[aq (T b _ q)];show q⟩
 .rw[aq (Yy a)];show I.free
 .rw[aq (k x c e)];show I.gz x c e
 .show c5 (λm E v=>?_) (I.pin p d)
  show bh m (by rw[aq (t p d)];show E) v
 .by_cases Z:b=L
  .subst Z;rw[aa]at e;cases e;show h
  .rw[aq Z]at e;show(I.hok b u e).stay (λ_ _ _ q=>q) (λc q=>by rw[aq (T c _ q)];show q) λc f q=>by rw[aq (T c _ q)];show q
def θ.vF{A' : Around}{a Ri:cM}(I:5#H)(Z:A'.frames=X.A.frames)(b:cm=true->A'.handled=none)(t:∀p∈a++Ri,p∈X.pn++pq):
 θ { X with A:=A',calm:=cm,pn:=a,xe:=MV} Ri σ H s :=
 ⟨⟨I.ok.mod,I.ok.kind,I.ok.glob,I.ok.blt,I.ok.above,I.ok.inj,I.ok.has,I.ok.Pf,b,Z.trans I.ok.frames,I.ok.Ju,I.ok.S5,I.ok.bs,I.ok.Jo,I.ok.CU,I.ok.G1,I.ok.funs,I.ok.Jv⟩,
   I.os,I.bare,I.base,I.loc,I.cell,I.free,I.gz,λp z=>I.pin p (t p z),I.hok,I.len⟩
def w4(I:5#H)(u:X.N.Nodup)(F:X.N[i]?=some x)(B:31#x)
 (h:∀G,θ X pq (σ.set i none) H G->Q () G):wpAny M A (do bindName X.env x .none;unbindBehindTheSuite X.env x l) Q E s:=by
 show ah (λm g S=>?_) (id I.loc)
 have a:(X.env.scope.kind == .class || (X.env.scope.kind == .module&&X.env.locals != X.env.globals))=false:=by rw[I.ok.kind];rfl
 show wpAny_nameGoes_keeps B g a λR v w W=>?_
 have r:∀b C,X.s₀.heap.get? b=some C->88#b:=λb C e=>Yj (X4 (XX e) I.ok.above)
 show h _ ⟨I.ok,I.os,I.bare,⟨λb C e n Z B=>(W.2 b (r b C e)).trans (I.base.keep b C e n Z B),λb C e n Z B=>?_,I.base.free,λb C e B=>?_,I.base.tups,I.base.jx,I.base.lD⟩,
  (ae _ w (λj y L J D d=>?_)),λy c e=>?_,I.free,I.gz,λp t=>?_,λb C e=>?_,by rw[ZP];show I.len⟩
 .obtain⟨O,J⟩:=I.base.slot b C e n Z B;show⟨O,(W.2 b (r b C e)).trans J⟩
 .obtain⟨f,J⟩:=I.base.there b C e B;show⟨f,(W.2 b (r b C e)).trans J⟩
 .by_cases o:j=i
  .subst o;have c:j<σ.length:=by rw[I.len];show(jc.mp F).1
   rw[ZM c]at D;cases D
  .rw[ZW (Yy o)]at D;show ah (λf P q=>?_) (S j y L J D d)
   show ae f P ?_;rcases q with⟨k,e⟩|⟨k,c,e,z⟩
   .have N:y≠x:=λT=>o (sL u J (T▸F))
    show .inl ⟨k,by simp[N,e]⟩
   .show .inr (bX k c e (z.sameBut W (I.Rz y c e)))
 .obtain⟨d,z⟩:=I.cell y c e;show⟨d,z.sameBut W (I.Rz y c e)⟩
 .show m9 (λe n T N d=>?_) (I.pin p t)
  show fE ((W.2 p.1 T).trans e) n T N d
 .show(I.hok b C e).stay (λc v L q=>(W.2 c ?_).trans q) (λ_ q=>q) λ_ _ q=>q
  intro z;subst z;have Y:=I.free;rcases L with L|L
  .rw[<-L,Y]at e;cases e
  .rw[Y]at L;cases L
end
def OR(o:Addr->Value->114#0->HO)(K:b7)(C i k:Nat)(tb:XK->TS)(a:Addr->TS):TS:=λD U H=>∃E:XK,tb E D U H/\∀u m M,E u m M->PySem.W.exmOne K u (.ref C)=some true/\
 ∀L,M L=none->a L { nx:=λb O=>D.nx (b.set i none) O,rt:=D.rt} ((65#k).set i (some (.ref L))) (η M L (o L u m))
abbrev R6:=OR C9
section
variable {X:Cx}
def M0(o:Addr->Value->114#0->HO)(K:b7)(C k:Nat)(tb:XK->TS)(d:Addr->TS):TS:=λD U H=>∃E:XK,tb E D U H/\∀u m M,E u m M->PySem.W.exmOne K u (.ref C)=some true/\
 ∀L,M L=none->d L D (65#k) (η M L (o L u m))
def Hi(oo:Addr->Value->114#0->HO)(Wk:∀{H:Hp} {h:Heap} {L:Addr} {cls:Value} {od:114#0},(∃T Y,h.get? L=some T/\T.cls=cls/\T.data = .fields Y/\Y[2]?=some .none/\T.dict=od)->dO X.prog X.w H h L (oo L cls od))
 {x:Str} {nm:Option Str} {C:Addr} {d e:List Stmt} {c:Stmt} {g f l:Pos} {tb:XK->TS} {b a:Addr->TS} (K:b7) (R:X.stack=X.env::X.outer) (hf:X.env.frame=some X.env.locals) (Uh:X.ex=[])
 (hg:Gl X x) (hm:X.mg x=some (.ref C))
 (Z:∀E pn xe,Passes (CQ X.prog X.w) { X with pn:=pn,xe:=xe} E->oj { X with pn:=pn,xe:=xe} d (tb E))
 (W:∀n,nm=some n->∃i,X.N.Nodup/\X.N[i]?=some n/\31#n/\∀L D U H,b L D U H->a L { nx:=λk O=>D.nx (k.set i none) O,rt:=D.rt} (U.set i (some (.ref L))) H)
 (hs0:nm=none->∀L D U H,b L D U H->a L { nx:=D.nx,rt:=D.rt} U H)
 (hh:∀L pn,oj { X with A:=X.A.mark (some (.ref L)),calm:=false,pn:=pn,xe:=40#0} (c::e) (a L)) (Q:X.K=K:=by rfl) (S:(x==("__debug__":Str))=false:=by decide) :
 PS X (.Try d [.ExceptHandler (some (.Name x g)) nm (c::e) f] [] [] l) (M0 oo K C X.N.length tb b):=by
 subst Q;intro l s U H D I h
 revert h;show ah λE j m=>?_
 show wpAny_Try_except ?_;have Q:X.A.frames=some (X.env::X.outer):=by rw[I.ok.frames,R]
 have c:θ { X with pn:=X.pn++l,xe:=λe w=>∃b P d h,θ { X with pn:=X.pn++l} b P d h/\CQ X.prog X.w X.stack d h E e w} [] U H s :=
  I.vF rl I.ok.hd λp t=>by simpa using t
 have g:Passes (CQ X.prog X.w) { X with pn:=X.pn++l,xe:=λe w=>∃b P d h,θ { X with pn:=X.pn++l} b P d h/\CQ X.prog X.w X.stack d h E e w} E:=by
  intro b P d h e w J q;show⟨b,(eV P d h (J.vF rl J.ok.hd λp t=>t) q)⟩
 have Wm:∀{b P M G},θ { X with pn:=X.pn++l} b P M G->θ X l P M G:=λ{b P M G} J=>by
  have z:=J.vF (MV:=X.xe) rl J.ok.hd λp t=>OM _ t
  show z
 have a:∀{b P M G} {MV:sG},θ { X with pn:=X.pn++l,xe:=MV} b P M G->θ X l P M G:=λ{b P M G MV} J=>by
  have z:=J.vF (MV:=X.xe) rl J.ok.hd λp t=>OM _ t
  show z
 show Yn (Z E _ _ g [] s U H D c j) (λf w q=>?_) λe w q=>?_
 .cases f with
  | next =>
    revert q;show aR λP M J q=>?_
    show wpAny_execs_nil (bf P M (a J) q)
  | brk =>
    revert q;show aR λP M J q=>?_
    show bf P M (a J) q
  | cont =>
    revert q;show aR λP M J q=>?_
    show bf P M (a J) q
  | ret u =>
    revert q;show cy λv P M J r q=>?_
    show⟨v,(ao P M (a J) r q)⟩
 .revert q;show eu λb=>cu λP d h x=>qh λL cls E od=>bV λc N B o os C un=>eO λJ g D a sc j=>?_;subst o
  rcases j with⟨rfl,_,j⟩|⟨d,o,b,rfl,rfl,rfl,_,j⟩
  case inr=>show absurd (m _ _ _ j).1 (P0 _ _ _ _)
  obtain⟨hex,M⟩:=m cls od N j;have j:=x.J0 os C un J;have U:=j.rY;have H:∀{m:Heap},w.heap.UpToSlots m->∀b∈frs X.stack,∀s,m.get? b=some s->∀Y,s.data≠.fields Y:=λ{m} y b Z s e Y z=>by
   show bE (λ_ o F d=>?_) (j.stack.mem Z)
   obtain⟨j,q⟩:=y b o F d;rw[e]at q;cases q;show d Y z
  have G:∀{m:Heap},B.StaysIn m->w.heap.UpToSlots m->θ X l P N { w with heap:=m}:=λ{m} b y=>by
   show c5 (λp j _=>?_) (Ax un J U (H (Heap.UpToSlots.refl _)) D b y)
   show Wm (x.J0 os C p j)
  have b:L∉frs X.stack:=λz=>by
   show bD (λT Y e _ d _=>?_) a.first
   show H (Heap.UpToSlots.refl _) L z T e Y d
  have J:h.heap.get? L=none:=by
   cases m:h.heap.get? L with
   | none=>rfl
   | some o =>
     show aR (λT Y e _=>?_) a.first
     have q:=D L T e (.inr ⟨o,m⟩) b;rw[a.2.1]at q;cases q
  have b:Heap.FlyingW B (X.env::X.outer) L cls E w.heap:=by
   rw[R]at a;show a
  show OQ Q hf b sc λa j y D=>?_
  revert j;show mF λa d b h=>?_
  show Aw a d b h y λj C Q H=>?_
  have y:=D.trans H;have a:=G C.1 y;have D:(X.A.mark (some (.ref L))).frames=X.A.frames:=rfl;have b:θ { X with A:=X.A.mark (some (.ref L)),calm:=false,pn:=X.pn,xe:=40#0} l P N { w with heap:=j}:=a.vF D (λz=>nomatch z) λp t=>t
  show wpAny_handleBy_cons (codeAny_handlers_test (mG b hg hm ?_ S)) (by intro q;cases q)
  show ah (λs b h=>?_) C.there
  have LT:PySem.W.Looks 8#0 j (typeOf (.ref L)) cls:=h▸(PySem.W.Looks.ld b).andThen .now;show PySem.W.Looks.here (PySem.W.exm_one a.sI LT hex) ?_;have H:∀a,Heap.FlyingW B (X.env::X.outer) L cls E a->sY od .none L a->j.UpToSlots a->θ { X with A:=X.A.mark (some (.ref L)),calm:=false,pn:=X.pn,xe:=40#0} l (65#X.N.length) (η N L (oo L cls od)) { w with heap:=a}:=λa b h s=>by
   have j:=y.trans s;have r:=G b.1 j;show bD (λT Y R E B _=>?_) b.first
   have u:Y[2]?=some .none/\T.dict=od:=by
    revert h;show bD λF o d S m j=>?_
    rw[R]at d;cases d;rw[B]at S;cases S;show⟨m,j⟩
   have d:88#L:=λz=>by
    show ah (λm v _=>?_) r.loc;obtain⟨o,_,_,F,j,_⟩:=v
    rw[<-z]at F;rw[R]at F;cases F;rw[B]at j;cases j
   have S:θ X l P (η N L (oo L cls od)) { w with heap:=a}:=by
    show r.J7 g ?_ d (λy c e z=>?_) (λp t z=>?_) (Wk (cL T Y R E B u.1 u.2))
    .cases m:X.s₀.heap.get? L with
     | none=>rfl
     | some o =>
       obtain⟨j,q⟩:=x.base.there L o m (show L∉X.ex by rw[Uh];simp)
       rw[J]at q;cases q
    .show aR (λv o F j=>?_) (r.cell y c e)
     rw[z,R]at F;cases F;rw[B]at j;cases j
    .have q:=(x.pin p (OM _ t)).1;rw[z,J]at q;cases q
   have z:θ X l (65#X.N.length) (η N L (oo L cls od)) { w with heap:=a}:=S.weak (by rw[YH,S.len]) λj v e=>by
    rw[ZI]at e
    split at e<;>cases e
   show z.vF D (λz=>nomatch z) λp t=>t
  have m:∀{k O j},θ { X with A:=X.A.mark (some (.ref L)),calm:=false,pn:=X.pn,xe:=40#0} l k O j->θ X l k O j:=λ{k O j} y=>by
   have z:=y.vF (MV:=X.xe) D.symm I.ok.hd λp t=>t
   show z
  revert C;show mF λe p t w=>?_
  cases nm with
  | some n =>
    show d8 (λi o F c R=>?_) (W n rl)
    show codeAny_handlers_suite_as (Aw e p t w.at Q λa b h s=>?_)
    show lE (X:={ X with A:=X.A.mark (some (.ref L)),calm:=false,pn:=X.pn,xe:=40#0}) (v:=.ref L) (H a b h s) o F (.inl c) rl (λS d=>?_) (.inr c)
    show Yn (hh _ _ l S _ _ _ d (R _ _ _ _ (M L g))) (λf j q=>?_) λ_ _ z=>z.elim
    cases f with
    | next =>
      revert q;show aR λk O y q=>?_
      show w4 (m y) o F c λi d=>bf _ O d q
    | brk=>revert q;show aR λ_ _ _ q=>?_;show q.elim
    | cont=>revert q;show aR λ_ _ _ q=>?_;show q.elim
    | ret u =>
      revert q;show cy λv k O y r q=>?_
      show w4 (m y) o F c λi d=>⟨v,(ao _ O d r q)⟩
  | none =>
    show codeAny_handlers_suite (Aw e p t w.at Q λa b h s=>?_)
    show Yn (hh L _ l _ _ _ _ (H a b h s) (hs0 rl _ _ _ _ (M L g))) (λf j q=>?_) λ_ _ z=>z.elim
    cases f with
    | next =>
      revert q;show aR λk O y q=>?_
      show bf k O (m y) q
    | brk=>revert q;show aR λ_ _ _ q=>?_;show q.elim
    | cont=>revert q;show aR λ_ _ _ q=>?_;show q.elim
    | ret u =>
      revert q;show cy λv k O y r q=>?_
      show⟨v,(ao k O (m y) r q)⟩
def M3(r:Addr->Value->114#0->HO)(g:∀{H:Hp} {h:Heap} {L:Addr} {cls:Value} {m:114#0},(∃T Y,h.get? L=some T/\T.cls=cls/\T.data = .fields Y/\Y[2]?=some .none/\T.dict=m)->dO X.prog X.w H h L (r L cls m))
 {x n:Str} {i:Nat} {C:Addr} {p J:List Stmt} {c:Stmt} {G D l:Pos} {tb:XK->TS} {a:Addr->TS} (K:b7) (w:X.stack=X.env::X.outer) (j:X.env.frame=some X.env.locals) (f:X.ex=[]) (o:X.N.Nodup) (F:X.N[i]?=some n)
 (B:31#n) (y:Gl X x) (d:X.mg x=some (.ref C))
 (Z:∀E pn xe,Passes (CQ X.prog X.w) { X with pn:=pn,xe:=xe} E->oj { X with pn:=pn,xe:=xe} p (tb E))
 (N:∀L pn,oj { X with A:=X.A.mark (some (.ref L)),calm:=false,pn:=pn,xe:=40#0} (c::J) (a L)) (Q:X.K=K:=by rfl) (b:(x==("__debug__":Str))=false:=by decide) :
 PS X (.Try p [.ExceptHandler (some (.Name x G)) (some n) (c::J) D] [] [] l) (OR r K C i X.N.length tb a) :=
 Hi r g K w j f y d Z (λ_ e=>cS i o (by cases e;show F) (by cases e;show B) λ_ _ _ _ h=>h) (λe=>nomatch e) N Q b
def M4{x n:Str}{i:Nat}{C:Addr}{p J:List Stmt}{c:Stmt}{G D l:Pos}{tb:XK->TS}{a:Addr->TS}(K:b7)(w:X.stack=X.env::X.outer)(Y:X.env.frame=some X.env.locals)(f:X.ex=[])(o:X.N.Nodup)(F:X.N[i]?=some n)
 (B:31#n) (y:Gl X x) (d:X.mg x=some (.ref C))
 (Z:∀E pn xe,Passes (CQ X.prog X.w) { X with pn:=pn,xe:=xe} E->oj { X with pn:=pn,xe:=xe} p (tb E))
 (N:∀L pn,oj { X with A:=X.A.mark (some (.ref L)),calm:=false,pn:=pn,xe:=40#0} (c::J) (a L)) (Q:X.K=K:=by rfl) (b:(x==("__debug__":Str))=false:=by decide) :
 PS X (.Try p [.ExceptHandler (some (.Name x G)) (some n) (c::J) D] [] [] l) (R6 K C i X.N.length tb a):=M3 C9 (λq=>MZ q) K w Y f o F B y d Z N Q b
end
open PySem PySem.Spec PySem.Calls PyProof.Rows PySem.W PySem.Builtin PySem.Builtin.ObjectAttr PySem.Builtin.Getset_descriptor
structure Dd(K:Frag)(D:Addr):Prop where
 ga:findIn K (.ref D) "__getattribute__"=91#(.builtin "BaseException.__getattribute__")
 gh:findIn K (.ref D) "__getattr__"=some none
 cl:findIn K (.ref D) "__class__"=91#(.builtin "object.__class__")
 gt:specialIn K (.builtin "object.__class__") "__get__"=91#(.builtin "getset_descriptor.__get__")
 tk:takesIn K (.builtin "object.__class__")=some true
 mr:mroIn K D (.type "object")=some true
 mb:mroIn K D (.type "BaseException")=some true
 Xv:(clsIn K D).isSome=true
def De(S:Looks M N (isInstance (.ref x) (.type "BaseException")) true)(T:Q () ⟨N,b,i,h,r⟩):
 wpAny M A (checkBuiltinCall "BaseException.__getattribute__" ⟨[.ref x,a],[]⟩) Q E ⟨N,b,i,h,r⟩:=by
 have R:builtinKind "BaseException.__getattribute__"=some .slot:=11#0
 have c:splitId "BaseException.__getattribute__"=some ("BaseException","__getattribute__"):=11#0
 have C:=F.args_bexc_ga (.ref x) a;show aW (S.at ?_)
 repeat (first | wp_step)
 show T
section
variable {X:Cx}
def yO:jz X (binaryOp .Mult) (rI IntMulOk λi j=>.int (i*j)):=OO λ_ _ _ _ _ _ _ L q=>mul_int q L
def mulOk_of{i j:Int}(F:i.natAbs<2^1000)(o:j.natAbs<2^1000):IntMulOk i j:=by
 have a:∀k:Int,k.natAbs<2^1000->66#k<=2^20:=λk R=>by
  unfold Builtin.Int.intBits
  by_cases J:k.natAbs=0
  .simp only[J]
   split<;>decide
  .have G:=(Θ J).mpr R
   split<;>lia
 show IntMulOk.of_bits (a i F) (a j o)
def R7(K:b7):V->90#V:=λo i H Q=>∃p f j v,o = .ref p/\i = .int ((j:Nat):Int)/\aH K H p f/\f[j]?=some v/\Q v H
def getL(K:b7)(a:X.K=K:=by rfl):RH X (R7 K):=by
 subst a;intro A s U H o i d R Q I F w h
 revert h;show eu λp=>bV λf j v b c T e q=>?_;subst b c
 cases F;obtain⟨t,rfl⟩:=w;show 108#(λN r D m=>?_)
 show ah (λu B k=>?_) (r.get e)
 have l:=(jc.mp e).1;have g:=lI;show wpAny_getItem_list D.isList (by lia) (by lia) (by simpa using B) (ao v H I k q)
def OS(K:b7):R2:=λx y H Q=>∃l b f F,x = .ref l/\y = .ref b/\aH K H l f/\aH K H b F/\33#(f.length+F.length)/\∀p,H p=none->Q (.ref p) (η H p (.lst (f++F)))
def oM(K:b7)(B:X.K=K:=by rfl):jz X (binaryOp .Add) (OS K):=by
 subst B;intro A s U H x y v u Q I c Y h
 revert h;show qh λl b f F=>eO λP W E g m q=>?_;subst P W
 cases c;cases Y;show az (λN r M _=>?_) (I.list E)
 show az (λk p S _=>?_) (I.list g)
 revert M;show bD λo n e L _ j=>?_;obtain⟨Z,i,R,O⟩:=o
 revert S;show bD λt T D J _ C=>?_;obtain⟨a,G,data2,z⟩:=t
 subst L j J C;have d:=r.length;have a:=p.length;have w:N.toArray++k.toArray=(N++k).toArray:=by simp
 show concat_meets (ae _ e rl) (ae _ D rl) noFill_list_add seq_list_add PySem.F.slot_list_add PySem.F.entry_list_add (PySem.F.args_list_add_2 _ _)
  (list_addW l b N.toArray k.toArray n T i G O z (by rw[X9,X9];lia)) (bh e D ?_)
 rw[w];show ao (.ref _) _ (I.RV (r.append p) (by rw[XR];lia)) rl (q _ I.fresh)
def J8:T7 X "list.count" (λx Y H Q=>∃l xs y,x = .ref l/\Y=[y]/\H l=1#xs/\ji y=true/\xs.all ji=true/\Q (.int (xs.countP λz=>FJ z y)) H):=by
 intro A s U H x Y v g Q I c d h
 revert h;show eR λl xs y=>eO λa b E F i q=>?_;subst a b
 cases c;show ah (λu p k=>?_) d.one;subst p
 show rX (λz=>aA λN n r S e=>?_) (I.MT E)
 have cnt:∀{xs:List V} {g:62#0},ξ xs g->xs.all ji=true->g.countP (yF y)=xs.countP λz=>FJ z y:=by
  intro xs g r
  induction r with
  | nil=>intro _;rfl
  | cons B _ O =>
    intro f;rw[List.all_cons,YE]at f;rw[G!,G!,O f.2,yG B f.1]
 show call_meets PySem.F.slot_list_count (ae _ e rl) PySem.F.entry_list_count (PySem.F.args_list_count_2 _ _) (SeqAt.list_countAt l N.toArray n none #[] u (yF y)) (bh e (λw j=>iZ k F r i w (by simpa using j)) ?_)
 show ao (.int _) H (I.tok _) ⟨s.toks,?_⟩ q;rw[show N.toArray.toList=N from rfl,cnt r i]
def J9:T7 X "list.index" (λx Y H Q=>∃l xs y j,x = .ref l/\Y=[y]/\H l=1#xs/\ji y=true/\xs.all ji=true/\j<xs.length/\(∀m z,xs[m]?=some z->m<=j->FJ z y=decide (m=j))/\Q (.int (j:Nat)) H):=by
 intro A s U H x Y v M Q I c O h
 revert h;show eu λl=>cy λxs y j t b=>eO λE F i o L q=>?_;subst t b
 cases c;show ah (λu f k=>?_) O.one;subst f
 show rX (λz=>aA λN n r S e=>?_) (I.MT E)
 have g:=lI;have p:∀m (d:m<N.toArray.size),m<=j->yF y N.toArray[m]=decide (m=j):=λm d G=>by
  have a:m<xs.length:=by rw[S];simpa using d
  have w:xs[m]?=some xs[m]:=by simp[a]
  show ah (λC B J=>?_) (r.get w)
  have D:N.toArray[m]=C:=by
   have:=(jc.mp B).2
   simpa using this
  have fz:=Zl.mp i _ (Z2 a);rw[D,yG J fz];show L m _ w G
 have a:j<N.toArray.size:=by rw[X9];lia
 show call_meets PySem.F.slot_list_index (ae _ e rl) PySem.F.entry_list_index (PySem.F.args_list_index_2 _ _) (SeqAt.list_indexAt l N.toArray n none #[] u (yF y) j a (by lia) ?_ ?_) (bh e (λw B=>iZ k F r i w (by simpa using B)) ?_)
 .rw[p j a (XJ _)];simp
 .intro m d G;rw[p m d (by lia)]
  show fW (by lia)
 .show ao (.int _) H (I.tok _) ⟨s.toks,rfl⟩ q
end
def Df{X:Cx}{x:Str}{C:Addr}{l:Pos}(y:Gl X x)(d:X.mg x=some (.ref C))(j:(x==("__debug__":Str))=false:=by decide):68#(tC (.ref C)):=yx y d rfl j
def P1{K:b7}(X:K.In h)(G:h.Ns mainGlobals mg)(e:109#0=91#(.ref C))(q:PySem.W.excIn K C s t=true):
 OwnCls x C s t mg h:=by
 show⟨PySem.W.mg_of X G e,?_⟩;unfold PySem.W.excIn at q
 split at q
 .rename_i m cd O look
  split at q
  .rename_i Cx g r d c n P i u a
   simp only[YE,Z',Bool.not_eq_true']at q;obtain⟨⟨⟨⟨⟨rfl,rfl⟩,k⟩,R⟩,A⟩,b⟩:=q;obtain⟨Y,f,w,o,p,j,L,sub,H,I,del⟩:=cd
   (dsimp only at u k A b;subst u k)
   have v:O = #[r,d,c,n,some (.builtin P),i]:=by
    obtain⟨l⟩:=O;simp only at a;rw[a]
   subst v;show dU g o Y (jw p f j L (jw sub H I m (jw r d c n (aM i _ (X _ _ look) (.of_isNs (PySem.W.isNs_of_in X A)) (PySem.W.nsMap_none_of_in X A b) (PySem.W.tail_of_in X R)))))
  .cases q
 .cases q
def P4{K}(h:PySem.W.hasDictIn K C=true):(PySem.W.clsIn K C).isSome=true:=by
 show ah (λcd e _=>?_) (PySem.W.any_some h)
 rw[e];rfl
def Dg{m:Type}:∀g:List m,g.length=1->∃a,g=[a]
 | [_],_=>110#0
def Ui{m:Type}:∀g:List m,g.length=2->∃a b,g=[a,b]
 | [_,_],_=>fj _ _ rfl
def P5{m:Type}:∀g:List m,g.length=3->∃a b c,g=[a,b,c]
 | [_,_,_],_=>dU _ _ _ rfl
def Uj{m:Type}:∀g:List m,g.length=4->∃a b c d,g=[a,b,c,d]
 | [_,_,_,_],_=>jw _ _ _ _ rfl
structure qY(ea:Addr)(k:Nat)(A:Around):Prop where
 hd:A.handled=38#ea
 dp:A.depth+3*k+5<recursionLimit
 un:A.units+16*k+200<cLine
def eB.mark(r:eB k A)(ea):qY ea k (A.mark (38#ea)):=⟨rfl,r.dp,r.un⟩
def qY.deeper(r:qY L (k+1) A)(env):qY L k (A.deeper env) :=
 ⟨r.hd,by have:=r.dp;change A.depth+1+3*k+5<_;lia,by have:=r.un;change A.units+3+16*k+200<_;lia⟩
structure S8(ea:Addr)(P:Program)(w:World)(K:b7)(mg:vy)(base:Heap)(k:Nat)(f:Addr)(fd:FuncData)(ps:List Str)(sp:Sp):Prop where
 len:∀vs H Q E,sp vs H Q E->vs.length=ps.length
 run:∀(A:Around) (outer:List Env) (s:Shared) (H:Hp) (args:Args) (us:62#0) (vs:List V) (Q:VK) (E:XK),qY ea k A->yC P w K mg base A outer s H->BindsTo s fd args (ps.zip us)->ξ vs us->sp vs H Q E->
  codeAny (model P w) A (.call (.ref f) args) (CR qg outer P w H s Q E) s
def S9(P:Program)(w:World)(K:b7)(mg:vy)(base:Heap)(N:List Str)(B:Str)(scope:Scope)(f:Addr)(cd:Value)(A:Around)(outer:List Env)(s:Shared)(H:Hp)(E:XK):Cx :=
 { m4 qg P w K mg base N B scope f cd { A with handled:=none} outer s H E with A:=A.deeper (59#cd),calm:=false,xe:=40#0}
def P6{K:b7}{F kV c X d ct oc:Value}
 (u:K.lookup f=some ⟨oc,m,.func (PySem.W.fnOf name B l a scope F kV c X C d ct),b⟩) (D:PySem.W.codeIn K d B=true) (S:ez N i scope)
   (len:∀Y H Q E,sp Y H Q E->Y.length=i.length)
   (h:∀A outer s H Y Q E,qY L k (A.deeper (59#d))->sp Y H Q E->
    ∃t,oj (S9 P w K mg base N B scope f d A outer s H E) a t/\t { nx:=λ_ M=>Q .fg M,rt:=Q} (start N Y) H) :
   S8 L P w K mg base (k+1) f (PySem.W.fnOf name B l a scope F kV c X C d ct) i sp:=by
  show⟨len,λA outer s H a g Y Q E c U Z r j=>?_⟩
  have m:=len _ _ _ _ j;have a:=U.mod.Pe.keeps λb o e=>(U.bs b o e).1
  have p:=U.mod.nolimit.keeps λb o e=>(U.bs b o e).1
  have l:∀y∈i.zip g,83#y.1=some .local\/(83#y.1=some .cell/\((cellsFrom (96#0) scope.names []).lookup y.1).isSome=true):=λ⟨n,v⟩ b=>by
   rcases S.par n (J! b).1 with q|q
   .show .inl q
   .show .inr ⟨q,b? _ _ _ (.inl q)⟩
  show codeAny_call_function (by have:=c.dp;lia) (a _ _ u) rl S.co S.gen rl (PySem.W.codeRec_of a D) (Z _ _ _ _ ?_)
  show wpAny_newFunctionEnv_cells S.kind l λg a b x=>?_
  subst a;show⟨p.keeps x.toInCall.keep,codeAny_func ?_⟩;show ah (λt R T=>?_) (h A outer s H Y Q E (c.deeper _) j)
  have a:yC P w K mg base { A with handled:=none} outer s H:=⟨U.frames,U.mod,U.bs,U.Jo,U.funs,U.Jv,U.hok,U.bare⟩
  have h:θ (m4 qg P w K mg base N B scope f d { A with handled:=none} outer s H E) [] (start N Y) H b:=wY S rl a m r x
  have I:θ (S9 P w K mg base N B scope f d A outer s H E) [] (start N Y) H b:=by
   have z:=h.vF (A':=A.deeper (59#d)) (cm:=false) (MV:=40#0) rl (λz=>nomatch z) λp a=>a
   show z
  show Yn (R [] b (start N Y) H _ I T) (λz G W=>?_) λe G W=>W.elim
  have a:∀{p:St} {M:Hp} {v:V} {u:Value},θ (S9 P w K mg base N B scope f d A outer s H E) [] p M G->ο v u->Q v M->CE outer P w H s Q u G :=
   λ{p M v u} J O q=>aQ v M J.os J.bare J.base J.hok O q
  cases z with
  | ret u =>
    revert W;show cy λv p M J O q=>?_
    show a J O q
  | next =>
    revert W;show aR λp M J q=>?_
    show a (v:=V.fg) J rl q
  | brk =>
    revert W;show aR λ_ _ _ q=>?_
    show False.elim q
  | cont =>
    revert W;show aR λ_ _ _ q=>?_
    show False.elim q
def Hh.Wo{K}{st}(F:Hh K x B st f fd)(S:ez N i (aP st))
 (len:∀Y H Q E,sp Y H Q E->Y.length=i.length)
 (z:∀d A outer s H Y Q E,qY L k (112#B)->sp Y H Q E->
  ∃t,oj (S9 P w K mg base N B (aP st) f d A outer s H E) (cg st) t/\t { nx:=λ_ M=>Q .fg M,rt:=Q} (start N Y) H):S8 L P w K mg base (k+1) f fd i sp:=by
 show eu (λl=>jd λm kV c X C=>cy λd W n g u D=>?_) F.ex;subst g
 show P6 u D S len λA outer s H Y Q E a j=>z d A outer s H Y Q E a j
section
variable {X:Cx}{ea:Addr}{k:Nat}{f:Addr}{fd:FuncData}{ps:List Str}{sp:Sp}{MO:List V}{ds:62#0}{x:Str}{p pos:Pos}{e:Expr}{es:List Expr}{t:TA}
def Ka(F:S8 ea X.prog X.w X.K X.mg X.base k f fd ps sp)(P:qY ea k X.A)(y:Gl X x)(d:X.mg x=some (.ref f))(R:55#X.K)(Z:Binds X.K fd ps ds)(j:ξ MO ds)
 (C:PA X (e::es) t) (b:(x==("__debug__":Str))=false:=by decide) (n:12#(e::es)=29#e::12#es:=by rfl) (c:(backTo pos (12#es)).any (·.1)=false:=by rfl) :
 PE X (.Call (.Name x p) (e::es) [] pos) (Ao sp MO (λ_ _ _=>False) t):=by
 show 63;show wpAny_Call_Name_kw (mG I y d ?_ b);show C! I.ok.mod.Pe R (dW (C pos A s U H _ I h) λg w=>aA λY N J r q=>⟨J.sI,?_⟩) n c
 have i:=r.append j;have S:27#(g++ds)=ps.length:=by rw[<-i.length];show F.len _ _ _ _ q
 show wpAny_call (codeAny_mono (F.run X.A X.stack w N ⟨g,[]⟩ (g++ds) (Y++MO) Q _ P J.Px (Z w g J.sI S) i q) λr G T=>?_)
 cases r with
 | error e=>show False.elim T
 | ok a =>
   cases a with
   | ret u=>show J.after T
   | next=>show False.elim T
   | brk=>show False.elim T
   | cont=>show False.elim T
end
section
variable   {A:Around}  {s:Shared}
def vG:entryFor table "proto.unchain"=some Builtin.«proto.unchain»:=entryFor_of_fast (by kernel_rfl)
def Dh(N:A.handled=some (.ref L))(ne:L≠e)(U:s.heap.get? e=some T)(i:T.data = .fields Y)(hz:2<Y.size)(C:Uc L s.heap)
 (q:E (.ref e) { s with heap:=s.heap.update e (Obj.mapFields (·.setIfInBounds 2 (.ref L)))}):67#(raiseNew (.ref e):Sem m):=by
 revert C;show aA λr W p h n=>?_
 rw[raiseNew];show aW (wpAny_handled ?_);rw[N];dsimp only;rw[XI (by simp[ne])]
 show aW (Ys (wpAny_runValue (codeAny_builtin vG ?_)));show aW (wpAny_field p h n ?_);show aW (XN ?_);show XN ?_;show aW (wpAny_setField U i hz (wpAny_throw q))
end
section
variable  {pq:cM}{σ:St}   {h' : Heap}
def θ.yields{a:List Addr}{T:Addr}(I:5#H)(k:∀b u,b∉a->18#u->111#u)(Y:∀b∈a,nQ X pq H b)(t:s.heap.objs.size<=T)
 (Q:dO X.prog X.w (η H T o) h' T o):θ X pq σ (η H T o) { s with heap:=h',toks:=t'}:=by
 have g:=I.hok.fresh t;have p:∀b u,H b=some u->b≠T:=λb u e=>bW e g
 have P:∀b u,H b=some u->b∉a:=λb u e Z=>by rw[(Y b Z).1]at e;cases e
 show I.step (λb Z=>?_) (λb o _ _ L e _=>k b o L e) (λb o _ _ L e _=>⟨o.slots,k b o L e⟩) (λb u L e n=>?_)
  (λb o L e=>⟨o,k b o L e⟩) (λb f e=>?_) (λb C f e=>?_) (λb i e=>⟨#[],?_⟩) (λm d=>?_) (λb u e=>?_) I.bare
 .show eO (λ_ R _ F v C=>?_) (Y b Z)
  show f7 F R v C
 .rw[aq (Yj (X4 (XX e) t))];show n
 .rw[aq (p b _ e)];show e
 .rw[aq (p b _ e)];show e
 .rw[aq (p b _ e),e];simp
 .revert d;show cu λo W N F r=>?_
  show eV o W N (k _ o (λZ=>(Y _ Z).2.1 rl) F) r
 .by_cases Z:b=T
  .subst Z;rw[aa]at e;cases e;show Q
  .rw[aq Z]at e;show(I.hok b u e).stay (λc v L q=>k c v ?_ q) (λc q=>by rw[aq (p c _ q)];show q) λc f q=>by rw[aq (p c _ q)];show q
   rcases L with z|z
   .rw[z];show P b u e
   .show P c _ z
def θ.M5{a:List Addr}(I:5#H)(k:∀b u,b∉a->18#u->111#u)(Y:∀b∈a,nQ X pq H b):θ X pq σ H { s with heap:=h',toks:=t'}:=by
 have P:∀b u,H b=some u->b∉a:=λb u e Z=>by rw[(Y b Z).1]at e;cases e
 show I.step (λb Z=>?_) (λb o _ _ L e _=>k b o L e) (λb o _ _ L e _=>⟨o.slots,k b o L e⟩) (λ_ _ _ _ n=>n)
  (λb o L e=>⟨o,k b o L e⟩) (λ_ _ e=>e) (λ_ _ _ e=>e) (λb i e=>⟨#[],by rw[e];simp⟩) (λm d=>?_) (λb u e=>?_) I.bare
 .show eO (λ_ R _ F v C=>?_) (Y b Z)
  show f7 F R v C
 .revert d;show cu λo W N F r=>?_
  show eV o W N (k _ o (λZ=>(Y _ Z).2.1 rl) F) r
 .show(I.hok b u e).stay (λc v L q=>k c v ?_ q) (λ_ q=>q) λ_ _ q=>q
  rcases L with z|z
  .rw[z];show P b u e
  .show P c _ z
end
section
variable {prog:Program}{w:World}{A:Around}{E:sG}{s:Shared}
set_option maxHeartbeats 1000000 in
def Hj{Q:sG}
 (h:IsEnum s.heap e f c H) (t:s.heap.IsListIter f p i) (B:s.heap.IsList p N) (L:N[i]?=some k) (I:e≠f)
 (m:∀h',IsEnumOut h' e f (c+1) k s.heap.objs.size->h'.IsListIter f p (i+1)->23#h'.get?=some { cls:=.type "tuple",data:=.seq #[.int c s.toks,k]}->h'.objs.size=96#0->
  (∀b o,b≠e->b≠f->18#o->47#h'.get?)->Q (23#.ref) { s with heap:=h',toks:=s.toks+1}) :
 wpAny 22#w A (Builtin.«enumerate.__next__» ⟨[.ref e],[]⟩) (λa G=>∃v,a = .done (.ret v)/\Q v G) E s:=by
 obtain⟨l,g,d,D,os⟩:=s;have r:=XX h;have S:f<l.objs.size:=by revert t;show ah λ_ q _=>?_;show XX q
 change wpAny _ _ (field (.ref e) 2 >>= _) _ _ _;show aW (wpAny_field h rl rl (aW (wpAny_nextOf_list_item t B L λz l y=>?_)))
 have Y:=y.1;have O:=(y.2 e I).trans h;show aW (wpAny_field O rl rl ?_);show aW (wpAny_field O rl rl ?_);show aW (wpAny_mkInt (aW (wpAny_setField_rec O 21#0 λC a g=>aW (wpAny_setField_rec a 21#0 λh d X=>aW (wpAny_newTuple ?_)))))
 have P:=Heap.SameBut.trans g X;have j:=P.1.trans Y;have M:=XM ({ cls:=.type "tuple",data:=.seq #[.int c D,k]}) d;show aW (aW (wpAny_field M rfl rfl (XN ?_)));show aW (wpAny_rule (aW (wpAny_field M rfl rfl (aW (wpAny_setField_rec M 21#0 λp a h=>aW (aW (wpAny_setField_rec a 21#0 λt d k=>wpAny_setField_rec d 21#0 λW g n=>aW (wpAny_letGo (XN (ae _ rfl ?_))))))))))
 have F:=(Heap.SameBut.trans h k).trans n;have J:∀b o,b≠e->47#z.get?->47#W.get?:=λb o n q=>(F.2 b n).trans (XM _ ((P.2 b n).trans q))
 have U:=g;rw[j]at U;rw[j];show m W U ?_ ?_ ?_ λb o R T q=>J b o R ((y.2 b T).trans q)
 .show az (λu x Z a=>?_) (id l)
  show au u (J f u (Yy I) x) Z a
 .show(F.2 _ (Zb r)).trans ?_;rw[<-j];show X6 _ rfl
 .rw[F.1];rw[ZZ,j]
def Hl
 (h:IsEnum s.heap e f c H) (t:s.heap.IsListIter f p i) (B:s.heap.IsList p N) (L:N[i]?=some k) (I:e≠f)
 (m:∀h',IsEnumOut h' e f (c+1) k s.heap.objs.size->h'.IsListIter f p (i+1)->23#h'.get?=some { cls:=.type "tuple",data:=.seq #[.int c s.toks,k]}->h'.objs.size=96#0->
  (∀b o,b≠e->b≠f->18#o->47#h'.get?)->Q (some (23#.ref)) { s with heap:=h',toks:=s.toks+1}):67#(pyNext (.ref e)):=by
 have l:s.TypeIs (.ref e) "enumerate":=ae _ h rfl;rw[pyNext];show aW (wpAny_attempt (wpAny_callSpecial?_slot l F.slot_enumerate_next (wpAny_call_entry F.slot_enumerate_next l F.entry_enumerate_next (Hj h t B L I λh' y S j r q=>XN (m h' y S j r q)) (F.args_enumerate_next_1 _))))
def Kc(a:A.handled=none)(h:IsEnum s.heap e f c H)(t:s.heap.IsListIter f p i)(B:s.heap.IsList p N)(off:N[i]?=none)
 (m:∀h',Heap.ExtBut f s.heap h'->Q none { s with heap:=h'}):67#(pyNext (.ref e)):=by
 have l:s.TypeIs (.ref e) "enumerate":=ae _ h rfl;rw[pyNext];show aW (wpAny_attempt (wpAny_callSpecial?_slot l F.slot_enumerate_next (wpAny_call_entry F.slot_enumerate_next l F.entry_enumerate_next ?_ (F.args_enumerate_next_1 _))));change wpAny _ _ (field (.ref e) 2 >>= _) _ _ _;show aW (wpAny_field h rfl rfl (aW (wpAny_nextOf_list_end a t B off λh' q P d=>?_)))
 revert d;show ah λo b L=>?_
 show aW (wpAny_isInstance (ae o b L) isSubtype_stop (XN (m _ P)))
end
def Ho(K:b7)(z:Int)(a:Addr):It :=
 ⟨λi H=>∃f x,aH K H a f/\f[i]?=some x,λi H v M=>∃T x,v = .ref T/\H T=none/\M=η H T (.tup [.int ((i:Int)+z),x])/\∀f,aH K H a f->f[i]?=some x,λi H=>∃f,aH K H a f/\f.length<=i⟩
def sZ{K}(z:Int)(a e it)(hne:e≠it):
 Turn P w K (.Tuple b k l) (Ho K z a) [e,it] e (λi h=>(∃J,IsEnum h e it ((i:Int)+z) J)/\h.IsListIter it a i) where
 mem:=by simp
 obj:=λi h st b Z=>by
  revert st;show rX λU=>az λo F c d=>?_;obtain⟨J,n⟩:=U
  have S:b=e\/b=it:=85#0
  rcases S with rfl|rfl
  .show ae _ n λv y=>by cases y
  .show ae o F λv y=>by rw[d]at y;cases y
 keep:=λi h M st k=>by
  obtain⟨⟨J,n⟩,c⟩:=st;show⟨⟨J,k e 21#0 _ n⟩,c.at λo x=>k it 21#0 o x⟩
 item:=by
  intro X g j Q L i A s U H E I Y st k;subst g j Q
  revert k;show aR λf x T B=>?_
  show 108#(λN O p m=>?_)
  show ah (λu r ru=>?_) (O.get B)
  obtain⟨⟨J,n⟩,c⟩:=st;show Hl n c p.isList (by simpa using r) hne λG F P7 d l R=>?_
  show ae _ rl (wpAny_letOwnedTupleGo_enum F λC D v=>?_)
  have l:=Zb (XX n);have r:=(v.2 _ l).trans d;show cL (23#.ref) (η H s.heap.objs.size (.tup [.int (i+z),x])) (I.yields (λb o Z q=>?_) Y (XJ _) ?_) rl (aM _ x rl I.fresh rl (λt W=>by rw[I.lG W T];show B)) ⟨⟨u,by rwa [73#(19#(i+1)+z=(i:Int)+z+1)]⟩,?_⟩ λb Z=>?_
  .have d:b≠e:=λy=>Z (by simp[y])
   have S:b≠it:=λy=>Z (by simp[y])
   show(v.2 b d).trans (R b o d S q)
  .show bX (dl rl) [.int ((i:Int)+z) s.toks,u] (.cons 110#0 (.cons ru .nil)) (ae _ r (b9 rl _ rl))
  .show P7.at λo q=>(v.2 it (Yy hne)).trans q
  .rw[aq]
   .show(Y b Z).1
   .have S:b=e\/b=it:=85#0
    rcases S with rfl|rfl
    .show Yy l
    .revert c;show ah λo q _=>?_
     show Yj (XX q)
 done:=by
  intro X g j Q L i A s U H E I Y st k;subst g j Q
  revert k;show ah λf T B=>?_
  show 108#(λN O p m=>?_)
  obtain⟨⟨J,n⟩,c⟩:=st;show eO (λG R d F v C=>?_) (Y it 21#0)
  have S:=O.length;show Kc (I.ok.hd L) n c p.isList (by simp;lia) λM q=>25#(I.turned (λb o Z e=>q b o Z e) G R F v C)
 self:=λ_ _ _ _ _ st h=>by
  obtain⟨⟨J,n⟩,_⟩:=st;show wpAny_pyIter_enum n h
abbrev Tc(K:b7)(a:Addr):It:=Ho K 0 a
def Uk(K:b7)(a b:Addr):It :=
 ⟨λi H=>∃f t x y,aH K H a f/\aH K H b t/\f[i]?=some x/\t[i]?=some y,
  λi H v M=>∃T x y,v = .ref T/\H T=none/\M=η H T (.tup [x,y])/\(∀f,aH K H a f->f[i]?=some x)/\∀t,aH K H b t->t[i]?=some y,
  λi H=>∃f t,aH K H a f/\aH K H b t/\(f.length<=i\/t.length<=i)⟩
def Kd{K}(a b z TI TO i1 i2)(D:ZipApart z TI TO i1 i2 a b):
 Turn P w K (.Tuple elts k pos) (Uk K a b) [z,TI,TO,i1,i2] z (λi h=>IsZip h z TI TO .none/\IsPair h TI (.ref i1) (.ref i2)/\(∃u v,IsPair h TO u v)/\h.IsListIter i1 a i/\h.IsListIter i2 b i) where
 mem:=by simp
 obj:=λi h st c L=>by
  revert st;show m9 λm d P8 P9=>az λo2 ho2 _ d2=>?_;obtain⟨u,v,hO⟩:=P8;obtain⟨o1,Ro,_,d1⟩:=P9
  have hc' : c=z\/c=TI\/c=TO\/c=i1\/c=i2:=by simpa using L
  rcases hc' with rfl|rfl|rfl|rfl|rfl
  .show ae _ m λv z=>by cases z
  .show ae _ d λv z=>by cases z
  .show ae _ hO λv z=>by cases z
  .show ae o1 Ro λv z=>by rw[d1]at z;cases z
  .show ae o2 ho2 λv z=>by rw[d2]at z;cases z
 keep:=λi h M st k=>by
  revert st;show m9 λm d R8 G C=>?_;obtain⟨u,v,hO⟩:=R8
  show fE (k z 21#0 _ m) (k TI 21#0 _ d) (fj u v (k TO 21#0 _ hO)) (G.at λo e=>k i1 21#0 o e) (C.at λo e=>k i2 21#0 o e)
 item:=by
  intro X g j Q L i A s U H E I Y st hg;subst g j Q
  revert hg;show eR λf t x=>d8 λy T hq2 B W=>?_
  show 108#(λN O p Wq=>?_)
  show az (λits2 Ul p2 Um=>?_) (I.list hq2)
  show ah (λu r ru=>?_) (O.get B)
  show ah (λu2 Wr Ws=>?_) (Ul.get W)
  revert st;show m9 λm d Uo G C=>?_;obtain⟨n,v2,hO⟩:=Uo
  show wpAny_pyNext_zip_item D m d hO G C p.isList p2.isList (by simpa using r) (by simpa using Wr) λl Wu Wv Ww Wx hT hsz R=>?_
  show ae _ rl (wpAny_letOwnedTupleGo_zip Wu λh4 WA OT=>?_)
  have J:∀{c o},s.heap.get? c=some o->s.heap.objs.size≠c:=λe=>Zb (XX e)
  have WB:=(OT.2 _ (J m)).trans hT;have kk:∀c o,c∉[z,TO,i1,i2]->s.heap.get? c=some o->h4.get? c=some o:=λc o L q=>by
   have c1:c≠z:=λe=>L (by simp[e])
   show(OT.2 c c1).trans (R c o c1 (λe=>L (by simp[e])) (λe=>L (by simp[e])) (λe=>L (by simp[e])) q)
  have hsub:∀c∈[z,TO,i1,i2],c∈[z,TI,TO,i1,i2]:=λc L=>by
   have hc' : c=z\/c=TO\/c=i1\/c=i2:=by simpa using L
   rcases hc' with rfl|rfl|rfl|rfl<;>simp
  show cL (23#.ref) (η H s.heap.objs.size (.tup [x,y])) (I.yields kk (λc L=>Y c (hsub c L)) (XJ _) ?_) rl (bS _ x y rl I.fresh rl (λF W=>by rw[I.lG W T];show B) (λF m=>by rw[I.lG m hq2];show W)) (fE WA ((OT.2 _ D.TIz).trans (R _ _ D.TIz D.TITO D.TIi1 D.TIi2 d)) (fj u u2 ((OT.2 _ D.TOz).trans Wv)) ?_ ?_) λc L=>?_
  .show bX (dl rl) [u,u2] (.cons ru (.cons Ws .nil)) (ae _ WB (b9 rl _ rl))
  .show Ww.at λo q=>(OT.2 _ D.i1z).trans q
  .show Wx.at λo q=>(OT.2 _ D.i2z).trans q
  .rw[aq]
   .show(Y c L).1
   .have hc' : c=z\/c=TI\/c=TO\/c=i1\/c=i2:=by simpa using L
    rcases hc' with rfl|rfl|rfl|rfl|rfl
    .show Yy (J m)
    .show Yy (J d)
    .show Yy (J hO)
    .revert G;show ah λo q _=>?_
     show Yy (J q)
    .revert C;show ah λo q _=>?_
     show Yy (J q)
 done:=by
  intro X g j Q L i A s U H E I Y st hg;subst g j Q
  revert hg;show aA λf t T hq2 B=>?_
  show 108#(λN O p Wq=>?_)
  show az (λits2 Ul p2 Um=>?_) (I.list hq2)
  revert st;show m9 λm d Z G C=>?_;obtain⟨n,v2,hO⟩:=Z
  have S:=O.length;have hl2:=Ul.length;have hsub:∀c∈[z,TO,i1,i2],c∈[z,TI,TO,i1,i2]:=λc L=>by
   have hc' : c=z\/c=TO\/c=i1\/c=i2:=by simpa using L
   rcases hc' with rfl|rfl|rfl|rfl<;>simp
  show wpAny_pyNext_zip_end (I.ok.hd L) D m d hO G C p.isList p2.isList (B.imp (λq=>by simp;lia) λq=>by simp;lia) λM kk=>25#(I.M5 (λc o L q=>?_) λc L=>Y c (hsub c L))
  show kk c o (λe=>L (by simp[e])) (λe=>L (by simp[e])) (λe=>L (by simp[e])) (λe=>L (by simp[e])) q
 self:=λ_ _ _ _ _ st h=>wpAny_pyIter_zip st.1 h
def Hq{n a b:Nat}(i:a<n)(Z:b<n):ZipApart (n+4) (n+2) (n+3) n (n+1) a b:=by
 have k:∀{x y:Nat},x<y\/y<x->x≠y:=λh=>by lia
 constructor<;>show k (by lia)
section
variable {X:Cx}{elts:List Expr}{n:Nat}{tp:Pos}
def R9(K:b7)(z:TA):TI:=λU H R=>z U H λY N=>∃a,Y=[.ref a]/\(∃f,aH K N a f)/\R (Tc K a) N
def Uq(K:b7)(z:TA):TI:=λU H R=>z U H λY N=>∃a b,Y=[.ref a,.ref b]/\(∃f,aH K N a f)/\(∃t,aH K N b t)/\R (Uk K a b) N
def FQ(K:b7){a:Expr}{z:TA}{p l:Pos}(y:Gl X "enumerate")(d:X.mg "enumerate"=none)(C:PA X [a] z)(W:12#([a])=[29#a]:=by rfl)(Q:X.K=K:=by rfl):
 PI X (.Tuple elts n tp) (.Call (.Name "enumerate" p) [a] [] l) (R9 K z):=by
 subst Q;intro A s U H R I h;show Call_ (jy I y d boot_enumerate (Zk (dW (C l A s U H _ I h) λg w=>aA λY N J B P=>?_) W rl))
 revert P;show az λa e t q=>?_;obtain⟨f,T⟩:=t
 subst e;cases B with
 | cons r F =>
   cases F;cases r;show az (λu O D m=>?_) (J.list T)
   show call_enumerate_list D.isList λM j c x o=>?_
   have k:=J.kept (t':=w.toks) o;show wpAny_pyIter_enum j (dU _ [w.heap.objs.size+1,w.heap.objs.size] _ (aQ _ N rl k (sZ 0 a _ _ (e! _)) ⟨⟨_,j⟩,c⟩ (λb Z=>?_) q))
   have v:b=w.heap.objs.size+1\/b=w.heap.objs.size:=85#0
   have i:w.heap.objs.size<=b:=by
    rcases v with rfl|rfl
    .show Y6 _
    .show XJ _
   show J.vA i (J.hok.fresh i)
def s6(K:b7){a b:Expr}{z:TA}{p l:Pos}(y:Gl X "zip")(d:X.mg "zip"=none)(c:PA X [a,b] z)(W:12#([a,b])=[29#a,29#b]:=by rfl)(v:12#([b])=[29#b]:=by rfl)(Q:X.K=K:=by rfl):
 PI X (.Tuple elts n tp) (.Call (.Name "zip" p) [a,b] [] l) (Uq K z):=by
 subst Q;intro A s U H R I h;show Call_ (jy I y d boot_zip (Zk (dW (c l A s U H _ I h) λg w=>aA λY N J B P=>?_) (by rw[W,v]) (by rw[v];rfl)))
 revert P;show bD λa b e c d q=>?_;obtain⟨f,T⟩:=c;obtain⟨t,o⟩:=d
 subst e;cases B with
 | cons r F =>
   cases F with
   | cons c F =>
     cases F;cases r;cases c;show az (λc O D m=>?_) (J.list T)
     show az (λk E S c=>?_) (J.list o)
     show call_zip_2 D.isList S.isList λM d f j G C x c=>?_
     have e:=J.kept (t':=w.toks) c;have i:a<w.heap.objs.size:=by show ah (λ_ q _=>?_) D.isList;show XX q
     have Z:b<w.heap.objs.size:=by show ah (λ_ q _=>?_) S.isList;show XX q
     show wpAny_pyIter_zip d (dU _ [w.heap.objs.size+4,w.heap.objs.size+2,w.heap.objs.size+3,w.heap.objs.size,w.heap.objs.size+1] _ (aQ _ N rl e (Kd a b _ _ _ _ _ (Hq i Z)) (fE d f (fj _ _ j) G C) (λc L=>?_) q))
     have a:c=w.heap.objs.size+4\/c=w.heap.objs.size+2\/c=w.heap.objs.size+3\/c=w.heap.objs.size\/c=w.heap.objs.size+1:=by simpa using L
     have u:w.heap.objs.size<=c:=by
      rcases a with rfl|rfl|rfl|rfl|rfl
      .show Z3 _ _
      .show Z3 _ _
      .show Z3 _ _
      .show XJ _
      .show Z3 _ _
     show J.vA u (J.hok.fresh u)
end
section
variable {K:b7}  {xs ys:List V}{g:TG}{tt:TT}{te:TE}{n:Nat}{fr:St}{D:Addr}{Q:Hp->Prop}{H1:Hp}
def w5{z:Int}{tb:TS}{D:Ends}(d:94#St)(J:d 0 U H)(S:∀i U H,i<=xs.length->d i U H->aH K H a xs)
 (b:∀i x T U H,xs[i]?=some x->d i U H->H T=none->g (.ref T) U (η H T (.tup [.int ((i:Int)+z),x])) λk O=>tb { D with nx:=d (i+1),ct:=d (i+1),bk:=D.nx} k O) (j:∀U H,d xs.length U H->D.nx U H) :
 ∃W:Nat->94#St,(∃m,W 0 m U H)/\∀i m U H,W i m U H->
   ((Ho K z a).stop i H/\D.nx U H)\/((Ho K z a).go i H/\∃N:St->Hp->Prop,(∀P M,N P M->∃B,B<m/\W (i+1) B P M)/\∀x M,(Ho K z a).G3 i H x M->g x U M λk O=>tb { D with nx:=N,ct:=N,bk:=D.nx} k O):=by
 show ae (λi m U H=>m=xs.length-i/\i<=xs.length/\d i U H) (au xs.length 21#0 (Yo _) J) ?_
 intro i m U H;show c5 λc F p=>?_;subst c
 have q:=S i U H F p
 by_cases Z:i<xs.length
 .show .inr (bX (bf xs (xs[i]) q (by simp[Z])) (d (i+1)) (λP M R=>cS (xs.length-(i+1)) (by lia) rl Z R) (λv M y=>?_))
  revert y;show bD λT x e t f y=>?_;subst e f
  show b i x T U _ (y xs q) p t
 .have e:i=xs.length:=by lia
  subst e;show .inl ⟨ae xs q (XJ _),j U H p⟩
def Ay{tb:TS}{D:Ends}(d:94#St)(J:d 0 U H)(S:∀i U H,i<=xs.length->d i U H->aH K H a xs)
 (b:∀i x T U H,xs[i]?=some x->d i U H->H T=none->g (.ref T) U (η H T (.tup [.int i,x])) λk O=>tb { D with nx:=d (i+1),ct:=d (i+1),bk:=D.nx} k O) (j:∀U H,d xs.length U H->D.nx U H) :
 ∃W:Nat->94#St,(∃m,W 0 m U H)/\∀i m U H,W i m U H->
   ((Tc K a).stop i H/\D.nx U H)\/((Tc K a).go i H/\∃N:St->Hp->Prop,(∀P M,N P M->∃B,B<m/\W (i+1) B P M)/\∀x M,(Tc K a).G3 i H x M->g x U M λk O=>tb { D with nx:=N,ct:=N,bk:=D.nx} k O):=w5 d J S b j
def lO(h:xs.length=ys.length)(d:94#(List V))(J:d 0 [] H1)(S:∀i I H,i<=xs.length->d i I H->aH K H a xs/\aH K H b ys/\10#H/\I.length<=i)(hz:33#xs.length)
 (W:∀i x y T I H,xs[i]?=some x->ys[i]?=some y->d i I H->H T=none->g (.ref T) (65#n++fr) (η H T (.tup [x,y])) λk O=>k.drop n=fr/\tt k O λb X =>
  if b=true then te k X λv c=>10#c/\d (i+1) (I++[v]) (η c D 28#(I++[v])) else d (i+1) I X)
 (j:∀I H,d xs.length I H->Q H):gJ (Uk K a b) g tt te n fr D Q H1:=by
 show ae (λi m I H=>m=xs.length-i/\i<=xs.length/\d i I H) (au xs.length 21#0 (Yo _) J) ?_
 intro i m I H;show c5 λr F p=>?_;subst r
 show mF (λq E u C=>?_) (S i I H F p)
 show⟨u,?_⟩
 by_cases Z:i<xs.length
 .have f:i<ys.length:=by lia
  show .inr (bj (fj xs ys (aM (xs[i]) (ys[i]) q E (by simp[Z]) (by simp[f]))) (by lia) (d (i+1)) (λo M R=>cS (xs.length-(i+1)) (by lia) rl Z R) (λv M y=>?_))
  revert y;show bV λT x z l t e s w=>?_;subst l e
  show W i x z T I _ (s xs q) (w ys E) p t
 .have e:i=xs.length:=by lia
  subst e;show .inl ⟨ao xs ys q E (.inl (XJ _)),j I H p⟩
end
section
variable {X:Cx}
def s7:fX X (.type "range") (λxs H Q=>∃j:Int,xs=[.int j]/\∀p,H p=none->Q (.ref p) (η H p (.CT 0 j))):=by
 intro A s U H xs g Q I r h
 revert h;show ah λj a q=>?_;subst a
 show ah (λu f=>eu λt C=>?_) (vals1 r);subst f C
 show call_range_1 (ao (23#.ref) _ (I.laid (λb o e=>XM _ e) (XJ _) ?_) rl (q _ I.fresh))
 show dU _ _ _ (X6 _ rl)
def qq(n:Nat):List V:=(16#n).map λi=>V.int ((i:Nat):Int)
def Ke(L:X.calm=true):fX X (.type "list") (λxs H Q=>∃p,∃n:Nat,xs=[.ref p]/\H p=some (.CT 0 (n:Int))/\n<=900/\∀l,H l=none->Q (.ref l) (η H l (.lst (qq n)))):=by
 intro A s U H xs J Q I r h
 revert h;show bD λp n C B g q=>?_;subst C
 show ah (λu E G=>?_) (vals1 r);subst E
 cases G;show eR (λt u v e=>?_) (I.hok p _ B)
 have x:Builtin.Range.rangeSize 0 n 1=n:=by rw[rangeSize_one];split<;>lia
 show call_list_range (I.ok.hd L) e (small_one (by lia) (by lia) (by lia) (by lia)) x (XY g 4#0) λM D w c kp T b=>?_
 show ao (23#.ref) _ (I.laid kp (XJ _) ?_) rl (q _ I.fresh);have S:w.toList.length=n:=by rw[ZJ];show b.1
 have m:33#(qq n).length:=by
  unfold qq;rw[XG,Yh];show Za (g5 (by lia))
 show bg m w.toList c ?_ (by simpa using T)
 have F:∀(o:62#0) (k:Nat),(∀j v,o[j]?=some v->∃t,v=Value.int (((k+j:Nat))) t)->ξ ((List.range' k o.length).map λi=>V.int ((i:Nat))) o:=by
  intro o
  induction o with
  | nil=>intro k _;show .nil
  | cons y r O =>
    intro k W;obtain⟨t,R⟩:=W 0 y rfl;show .cons ⟨t,by simpa using R⟩ (O (k+1) λj v a=>?_)
    obtain⟨d,f⟩:=W (j+1) v (by simpa using a)
    show⟨d,by rw[f];congr 2;lia⟩
 have z:=F w.toList 0 λj v a=>by
  obtain⟨t,R⟩:=b.2 j v (by simpa using a)
  show⟨t,by rw[R];congr 1;lia⟩
 rw[S]at z;unfold qq
 rwa [List.range_eq_range']
def sumK(K:b7)(L:X.calm=true)(b:X.K=K:=by rfl):fX X (.builtin "sum") (λxs H Q=>∃(p:Addr) (ns:List Int),xs=[.ref p]/\aH K H p (ns.map V.int)/\Q (.int ns.sum) H):=by
 subst b;intro A s U H xs g Q I r h
 revert h;show aA λp ns Z T q=>?_;subst Z
 show ah (λu y c=>?_) (vals1 r);subst y
 cases c;show 108#(λN i e m=>?_)
 have F:∀{ns:List Int} {N:62#0},ξ (ns.map V.int) N->∃xs:Array (Int×Tok),N.toArray=intItems xs/\xs.toList.map (·.1)=ns:=by
  intro ns
  induction ns with
  | nil=>intro N r;cases r;show ae (#[]) (by simp[intItems]) rfl
  | cons a l O =>
    intro N r;cases r with
    | cons B f =>
      obtain⟨t,rfl⟩:=B;show ah (λxs G C=>?_) (O f)
      show ae (#[(a,t)]++xs) ?_ (by simp[C])
      have d:=Yq Array.toList G;simp only[intItems,Array.toList_map,List.toList_toArray]at d;simp[intItems,d,Array.map_append]
 show ah (λa J D=>?_) (F i)
 have S:=J▸e.isList;show sum_intListG (I.ok.hd L) S λM f d R=>?_
 have E:preSum (numAt a) a.size=ns.sum:=by rw[preSum_eq,Ze 21#0,D]
 rw[E];show ao (.int ns.sum) H (I.kept R) ⟨d,rfl⟩ q
end
def Kf{g:62#0}{ns:List Int}(h:IntsAre g ns):ξ (ns.map V.int) g:=by
 induction h with
 | nil=>show .nil
 | cons n t _ O=>show .cons ⟨t,rfl⟩ O
section
variable {X:Cx}
def sortedK(K:b7)(d:X.K=K:=by rfl):fX X (.builtin "sorted") (λxs H Q=>∃(p:Addr) (ns:List Int),xs=[.ref p]/\aH K H p (ns.map V.int)/\ns.length<64/\
 ∀(l:Addr) (k:List Int),H l=none->k.Perm ns->k.Pairwise (·<=·)->Q (.ref l) (η H l 28#(k.map V.int))):=by
 subst d;intro A s U H xs j Q I r h
 revert h;show bD λp ns i T g q=>?_;subst i
 show ah (λu f c=>?_) (vals1 r);subst f
 cases c;show 108#(λN O D m=>?_)
 have S:=O.length;rw[XG]at S;show PyProof.Rows.sorted_ints D.isList (intsAre_of O) (by lia) λa k b E v=>?_
 obtain⟨e,n⟩:=sortedAll_at s.heap N a;have w:=I.hok.fresh (Y6 _);show ao (.ref (96#0)) _ (I.laid (λ_ _=>sortedAll_old) (Y6 _) ?_) rl (q _ k w E v)
 show bg ?_ a.toList e (Kf b) ?_
 .rw[XG,E.length_eq];show Za (g5 (by lia))
 .have:a.toList.toArray=a:=by simp
  rwa [this]
end
end L2
namespace HT
open PySem PyProof.Rows
section
variable     {s:Shared}
def m5{lo hi}(R:IsTup s.heap t k)(W:s.heap.IsSliceOf O p G .none)(D:IsPart p lo)(g:IsPart G hi)
 (j:gb k.size 0 lo=0/\gb k.size k.size hi=k.size) (h:Q (.ref t) s):67#(getItem (.ref t) (.ref O)):=by
 show az (λos a u b=>?_) (id W)
 have d:s.TypeIs (.ref O) "slice":=ae os a u;unfold getItem
 try with_reducible show Ys ?_
 first | show wpAny_bind (XN ?_) | skip
 show wpAny_bind (wpAny_sequenceKey R.typeIs 4#0 ?_)
 show wpAny_bind (wpAny_callSpecial?_slot R.typeIs Y7
  (wpAny_call_entry Y7 R.typeIs entry_tuple_getitem ?_ (args_tuple_getitem _ _)))
 change wpAny _ _ (Builtin.Tuple.tupleItemsOf (.ref t) >>= _) _ _ s;show wpAny_bind (tupleItemsOf_ R ?_);show wpAny_bind (wpAny_typeOf d ?_);rw[XI 4#0]
 show wpAny_bind (jJ W D g ?_);have c:(19#(gb k.size 0 lo)==0&&(1:Int)==1&&(gb k.size k.size hi-gb k.size 0 lo)==k.size)=true:=by
  rw[j.1,j.2];simp
 change wpAny _ _ (if(19#(gb k.size 0 lo)==0&&1==1&&(gb k.size k.size hi-gb k.size 0 lo)==k.size)=true then _ else _) _ _ s
 rw[XI c];show wpAny_bind ?_;show wpAny_bind (wpAny_typeOf R.typeIs (XN ?_));rw[XI 4#0]
 show wpAny_bind (wpAny_rule (XN (ae _ rl (XN h))))
end
end HT
namespace L2
open PySem PySem.Spec PyProof.Rows
def Sa:V->Option Int->90#(Option Int):=λx lo F H Q=>∃a f,x = .ref a/\H a=some (.tup f)/\∀p M,aj H M->M p=17#(gw f lo F)->Q (.ref p) M
def Sb:PB X Sa:=by
 intro A s U H x v p G lo F O Q I c W D g h
 revert h;show aA λa f Z B q=>?_;subst Z
 cases c;show az (λN r R m=>?_) (I.tuple (aY.of B))
 have M:N.toArray.size=f.length:=by rw[X9];show r.length.symm
 show ao "tuple" _ Y7.lookup R.typeIs ?_
 by_cases j:HT.gb f.length 0 lo=0/\HT.gb f.length f.length F=f.length
 .show HT.m5 R W D g (by rw[M];show j) (ao (.ref a) H I rl (q a H (aj.refl _) ?_))
  unfold gw
  rwa [j.1,j.2,L!,Nat.sub_zero,Yb]
 .show HT.jh R W D g (by rw[M];show j) ?_ (by rw[M];show m)
  rw[M];show ao (23#.ref) _ (I.laid (λb C q=>XM _ q) (XJ _) ?_) rl (q _ _ (aj.new (I.hok.fresh (XJ _))) aa)
  show bX (XY (lK f lo F) m) _ ((r.drop (HT.gb f.length 0 lo)).take (HT.gb f.length f.length F-HT.gb f.length 0 lo)) (IsTup.new _ _)
end L2
namespace Ring
open PySem
abbrev cU:=Int×Int×Int
def bit(S:Int)(k:Nat):Bool:=9#(S/2^k%2=1)
def aV(S:Int):List Nat:=(16#(66#S)).filter (bit S)
def bump(e:List Int)(i:Int):List Int:=e.set i.toNat (e.getD i.toNat 0+1)
def step(J:List cU)(e:List Int)(k:Nat):List Int:=match J[k]? with
 | some t=>bump (bump e t.1) t.2.1
 | none=>e
def jD(p:Nat)(J:List cU)(S:Int):List Int:=(aV S).foldl (step J) (List.replicate p 0)
def ng(p:Nat)(J:List cU)(S:Int):List Nat:=(16#p).filter λi=>9#((jD p J S).getD i 0%2=1)
def MF(J:List cU)(k i:Nat):Int:=match J[k]? with
 | some t=>(if t.1=(i:Int) then 1 else 0)+(if t.2.1=(i:Int) then 1 else 0)
 | none=>0
def jL(e:List Int)(i:Int):27#(bump e i)=e.length:=by unfold bump;rw[ZP]
def Kg(J:List cU)(e:List Int)(k:Nat):27#(step J e k)=e.length:=by
 unfold step
 split
 .rw[jL,jL]
 .rfl
def Az(e:List Int)(j:Int)(i:Nat)(J:0<=j)(G:j<e.length):(bump e j).getD i 0=e.getD i 0+if j=(i:Int) then 1 else 0:=by
 unfold bump;rw[XO,XO,XO]
 by_cases h:j=i
 .have F:j.toNat=i:=by lia
  rw[XI h,F,ZM (by lia)]
  rfl
 .have F:j.toNat≠i:=by lia
  rw[XH h,ZW F]
  lia
structure FT(p:Nat)(ts:List cU):Prop where
 ends:∀t∈ts,0<=t.1/\t.1<(p:Int)/\0<=t.2.1/\t.2.1<(p:Int)
def step_get(W:FT p J)(e:List Int)(k i:Nat)(n:e.length=p):(step J e k).getD i 0=e.getD i 0+MF J k i:=by
 unfold step MF;cases h:J[k]? with
 | none=>simp
 | some t =>
   show mF (λv m c y=>?_) (W.ends t (fC h))
   dsimp only;rw[Az _ _ _ c (by rw[jL,n];show y),Az _ _ _ v (by rw[n];show m)]
   lia
def qt(J:List cU)(Z:List Nat)(i:Nat):Int:=(Z.map λk=>MF J k i).sum
theorem AA(W:FT p J)(i):∀Z e,e.length=p->(Z.foldl (step J) e).getD i 0=e.getD i 0+qt J Z i
 | [],e,_=>by simp[qt]
 | k::r,e,he=>by
   rw[Ω,AA W i r _ (by rw[Kg,he]),step_get W e k i he]
   unfold qt;rw[Yd,Y3]
   lia
def Kh(W:FT p J)(S)(i):(jD p J S).getD i 0=qt J (aV S) i:=by
 unfold jD;rw[AA W i _ _ 21#0]
 have e:(List.replicate p (0:Int)).getD i 0=0:=by
  rw[XO,ZI]
  split<;>rfl
 rw[e]
 lia
def mH(m k:Nat):bit (m:Int) k=7#0:=by
 unfold bit;rw[B?];have e:((m:Int)/2^k%2=1)↔(m/2^k%2=1):=by
  have C:(2^k)=19#(2^k):=by simp
  rw[C,<-Int.natCast_ediv]
  lia
 simp only[e]
def s8(m:Nat):66#(m:Int)=if m=0 then 0 else m.log2+1:=by
 unfold Builtin.Int.intBits
 by_cases h:m=0
 .simp[h]
 .simp[h]
def bits_le{m n:Nat}(h:m<2^n):66#(m:Int)<=n:=by
 rw[s8]
 split
 .show Yo _
 .rename_i J
  show(Θ J).mpr h
def AB{m k:Nat}(h:66#(m:Int)<=k):bit (m:Int) k=false:=by
 rw[mH];rw[s8]at h
 by_cases J:m=0
 .simp[J]
 .rw[XH J]at h;show YO (X4 Nat.lt_log2_self (YQ 4#0 h))
theorem oN(f)(a):∀d,(∀k,a<=k->f k=false)->(16#(a+d)).filter f=(16#a).filter f
 | 0,_=>rfl
 | d+1,h=>by
   rw[<-Nat.add_assoc,Zh,YM,oN f a d h];have e:[a+d].filter f=[]:=by rw[Yr,XH (by rw[h _ (by lia)];simp)];rfl
   rw[e,YU]
def eM{m n:Nat}(h:m<2^n):aV (m:Int)=(16#n).filter λk=>7#0:=by
 have Z:=bits_le h;obtain⟨d,j⟩:=V! Z;have e:=funext λk=>(mH m k).symm
 rw[e]
 conv=>rhs;rw[j]
 show(oN _ _ d λk R=>AB R).symm
def iq{m n:Nat}(h:m<2^n)(R:k∈aV (m:Int)):k<n:=by
 rw[eM h]at R;show Yk.mp (Yz.mp R).1
theorem sum_filter(ts)(i)(f):∀Z:List Nat,qt ts (Z.filter f) i=(Z.map λk=>if f k=true then MF ts k i else 0).sum
 | []=>rfl
 | k::r=>by
   have O:=sum_filter ts i f r;rw[Yd,Y3,<-O];cases h:f k with
   | true =>
     rw[Yr,XI h];unfold qt;rw[Yd,Y3];simp
   | false =>
     rw[Yr,XH (by rw[h];simp)]
     simp
def Kl(q:x/2+2*(y/2)=a/2+b/2)(h:x%2+2*(y%2)=a%2+b%2):x+2*y=a+b:=by lia
def mod_one(r:u=0\/u=1)(a:v=0\/v=1):(u^^^v)+2*(u&&&v)=u+v:=by
 rcases r with rfl|rfl<;>rcases a with rfl|rfl<;>rfl
def M6:∀a b:Nat,(a^^^b)+2*(a&&&b)=a+b:=by
 intro a
 induction a using Nat.strongRecOn with
 | ind a O =>
   intro b
   by_cases h:a=0
   .subst h;simp
   .have q:=O (a/2) (by lia) (b/2)
    rw[<-Nat.xor_div_two,<-Nat.and_div_two]at q;show Kl q ?_;have J:(a^^^b)%2=a%2^^^b%2:=Nat.xor_mod_two_pow (n:=1);have D:(a&&&b)%2=a%2&&&b%2:=Nat.and_mod_two_pow (n:=1);rw[J,D];show mod_one (ZT a) (ZT b)
def xor_int(a b:Nat):Builtin.bitXor (a:Int) (b:Int)=19#(a^^^b):=by
 have h:a+b-2*((a&&&b:Nat))=19#(a^^^b):=by
  have q:=M6 a b
  lia
 have e:=PyProof.Rows.bitXor_and (a:Int) (b:Int);rw[e,d? (by lia) (by lia)]
 simpa using h
open PySem L2
def rM(t:cU):List V:=[.int t.1,.int t.2.1,.int t.2.2]
def TupAt(H:Hp)(x:V)(t:cU):Prop:=∃b,x = .ref b/\H b=17#(rM t)
structure bx(H:Hp)(w:Addr)(p:Nat)(ts:List cU):Prop where
 ex:∃b xs,H w=17#([.int (p:Int),.ref b])/\H b=17#xs/\Paired (TupAt H) xs ts
structure MG(p:Nat)(ts:List cU):Prop where
 Vq:FT p ts
 len:ts.length<=24
 Vr:p<=10
def TupAt.tups(s:fh H M)(h:TupAt H x t):TupAt M x t:=by
 revert h;show ah λb e h=>?_
 show ae b e (s _ _ h)
def bx.tups(s:fh H M)(h:76#0):bx M w p J:=by
 show aA (λb f G C l=>?_) h.ex
 show⟨b,f,s _ _ G,s _ _ C,Paired.imp' (λ_ _ z=>z.tups s) l⟩
def bx.same(s:aj H M)(h:76#0):bx M w p J:=h.tups s.tups
def aI(l:List Nat):List V:=l.map λk=>V.int ((k:Nat):Int)
def dB(l)(k):aI (l++[k])=aI l++[.int k]:=by unfold aI;rw[X5];rfl
def aF(l:List Nat):(aI l).length=l.length:=by unfold aI;rw[XG]
def cD{i:Nat}(h:(aI l)[i]?=some x):∃k,l[i]?=some k/\x = .int k:=by
 unfold aI at h;rw[XQ]at h;show ah (λk e q=>?_) (m3.mp h)
 show ae k e q.symm
def dR(f)(i):(16#(i+1)).filter f=(16#i).filter f++(if f i=true then[i] else[]):=by
 rw[Zh,YM]
 congr 1
 cases h:f i with
 | true=>rw[Yr,XI h,XI rfl];rfl
 | false=>rw[Yr,XH (by rw[h];simp),XH 21#0];rfl
def m6(f:Nat->Bool)(H:Hp)(D:Addr)(i:Nat)(I:List V)(O:Hp):Prop:=aj H O/\10#O/\I=aI ((16#i).filter f)
def m6.start(u:H D=none):m6 f H D 0 [] (86#H):=bh (aj.new u) aa rfl
def m6.len(p:m6 f H D i I O):10#O/\I.length<=i:=by
 show⟨p.2.1,?_⟩;rw[p.2.2,aF];show XY (Yg _ _) (by rw[Yh];show XJ _)
def m6.yes(p:m6 f H D i I O)(u:H D=none)(s:aj O X)(Y:f i=true):10#X/\m6 f H D (i+1) (I++[.int i]) (η X D 28#(I++[.int i])):=by
 show f7 (s _ _ p.2.1) ((p.1.trans s).put u) aa ?_;rw[dR,XI Y,dB,<-p.2.2]
def m6.no(p:m6 f H D i I O)(s:aj O X)(Y:f i=false):m6 f H D (i+1) I X:=by
 show bh (p.1.trans s) (s _ _ p.2.1) ?_;rw[dR,XH (by rw[Y];simp),YU]
 show p.2.2
def dG(J:List cU)(k:Nat):cU:=J.getD k (0,0,0)
def stepT(e:List Int)(t:cU):List Int:=bump (bump e t.1) t.2.1
theorem w6{J:List cU}:∀(Z:List Nat) e,(∀k∈Z,k<J.length)->(Z.map (dG J)).foldl stepT e=Z.foldl (step J) e
 | [],_,_=>rfl
 | k::r,e,h=>by
   rw[Yd,Ω,Ω,w6 r _ λj o=>h j (nc _ o)]
   have R:=h k X0;have a:J[k]?=some (dG J k):=by
    unfold dG;rw[XO];simp[R]
   have D:step J e k=stepT e (dG J k):=by
    unfold step stepT;rw[a]
   rw[D]
def w7{J:List cU}{m:Nat}(h:m<48#0):jD p J (m:Int)=((aV (m:Int)).map (dG J)).foldl stepT (List.replicate p 0):=by
 unfold jD;rw[w6 _ _ λk R=>iq h R]
def Hr(e:List Int)(t:cU):27#(stepT e t)=e.length:=by unfold stepT;rw[jL,jL]
theorem qu:∀(l:List cU) e,27#(l.foldl stepT e)=e.length
 | [],_=>rfl
 | t::r,e=>by rw[Ω,qu r,Hr]
def aK(l:List Int):List V:=l.map V.int
def g6{l:List Int}(h:i<l.length):(aK l)[i]?=44#(l.getD i 0):=by
 unfold aK;rw[XQ,XO];simp[h]
def s9(l:List Int)(i:Nat):(aK l).set i (.int (l.getD i 0+1))=aK (bump l (i:Int)):=by
 unfold aK bump;rw[X3,List.map_set]
def Km(p):(List.replicate p [V.int 0]).flatten=aK (List.replicate p 0):=by
 induction p with
 | zero=>rfl
 | succ p O=>rw[Zf,ZU,O,Zf];rfl
def mJ(h:j<n):Jr n (j:Int)=some j:=by
 unfold Jr;rw[XI (by lia),XI (by lia),X3]
def jE(k:Nat):PyData:=.int k
theorem gg{K}:∀l:List Nat,DatVs K H (aI l) (l.map jE)
 | []=>.nil
 | _::r=>.cons (.int _) (gg r)
theorem AD:∀l:List Nat,PyData.canLayAll0 (l.map jE)=true
 | []=>rfl
 | _::r=>by
   have O:=AD r;simp only[Yd,PyData.canLayAll0,O,l!];rfl
theorem w9:∀l:List Nat,PyData.depthAll (l.map jE)=0
 | []=>rfl
 | _::r=>by
   have O:=w9 r;change max (PyData.depth (PyData.int _)) (PyData.depthAll (r.map _))=0;rw[O];rfl
def fG(l:List Nat):99#(.list (l.map jE)):=by
 unfold SeqAt.shaped;have e:(PyData.list (l.map jE)).canLay0=PyData.canLayAll0 (l.map jE):=by simp[PyData.canLay0]
 rw[e,AD,ZD];show e5 ?_;have D:PyData.depth (PyData.list (l.map jE))=PyData.depthAll (l.map jE)+1:=by simp[PyData.depth]
 rw[D,w9]
 decide
def yP(l:List Nat):PyData.eqv (.list (l.map jE)) (.list [])=decide (l=[]):=by
 cases l with
 | nil=>rfl
 | cons a r=>rfl
def Qa(S)(k):9#(V.int (Builtin.bitAnd (S/2^k) 1)=V.int 1)=bit S k:=by
 unfold bit;rw[PyProof.Rows.bitAnd_m1];rw[YG];simp
def M7(x):9#(V.int x=V.int 1)=decide (x=1):=by
 rw[YG];simp
structure ir(p:Int)(t:cU):Prop where
 a0:0<=t.1
 a1:t.1<p
 b0:0<=t.2.1
 b1:t.2.1<p
 ne:t.1≠t.2.1
 l0:1<=t.2.2
 l1:t.2.2<=1000000000000000000000000000000
structure ay(p:Nat)(ts:List cU):Prop where
 p1:1<=p
 p2:p<=10
 len:ts.length<=24
 gU:∀t∈ts,ir (p:Int) t
def ay.vH(g:ay p J):MG p J:=⟨⟨λt R=>let z:=g.gU t R;(f7 z.a0 z.a1 z.b0 z.b1)⟩,g.len,g.p2⟩
def rN(p:Int)(H:Hp)(D:Addr)(n:Nat)(O:Hp):Prop:=aj H O/\∃I J,10#O/\Paired (TupAt O) I J/\I.length=n/\∀t∈J,ir p t
section
variable {p:Int}{H H2 H3:Hp}{D b:Addr}{n:Nat}{t:cU}
def rN.start(u:H D=none):rN p H D 0 (86#H):=⟨aj.new u,(aM [] [] aa .nil rl λt R=>nomatch R)⟩
def rN.push(h:rN p H D n H2)(e:H D=none)(s:aj H2 H3)(g:ir p t)(Z:H3 b=17#(rM t)):
 ∃I,10#H3/\I.length=n/\rN p H D (n+1) (η H3 D 28#(I++[.ref b])):=by
 revert h;show rX λM=>bD λI J j pr d a=>?_
 have c:10#H3:=s _ _ j;show cS I c d ((M.trans s).put e) (aM (I++[.ref b]) (J++[t]) aa ?_ (by rw[XR,YA,d]) λu r=>?_)
 .show Paired.snoc (Paired.imp' (λ_ _ z=>z.tups (s.tups.trans (fh.put c))) pr) (ae b rl (fh.put c _ _ Z))
 .rcases Ye.mp r with r|r
  .show a u r
  .cases XU.mp r;show g
def rN.fin{q:Nat}(h:rN (q:Int) H D n H2):∃I J,10#H2/\J.length=n/\(∀t∈J,ir (q:Int) t)/\∀l,H2 l=none->∀w,η H2 l (.tup I) w=none->
 aj H (η (η H2 l (.tup I)) w (.tup [.int (q:Int),.ref l]))/\bx (η (η H2 l (.tup I)) w (.tup [.int (q:Int),.ref l])) w q J:=by
 revert h;show rX λM=>bD λI J j pr g a=>?_
 show aM I J j (by rw[<-pr.length,g]) a λl S w b=>?_
 have R:aj H2 (η H2 l (.tup I)):=aj.new S;have T:=R.trans (aj.new (o:=.tup [.int (q:Int),.ref l]) b);show⟨M.trans T,l,I,aa,?_,Paired.imp' (λ_ _ z=>z.tups T.tups) pr⟩
 rw[aq (bW aa b),aa]
end
def Kn{p o r:Int}(h:0<=o)(G:o<p)(W:0<=r)(B:r<p-1):0<=(o+1+r)%p/\(o+1+r)%p<p/\o≠(o+1+r)%p:=by
 have t:0<p:=by lia
 show bh (Int.emod_nonneg _ (by lia)) (Int.emod_lt_of_pos _ t) ?_
 by_cases Z:o+1+r<p
 .rw[Int.emod_eq_of_lt (by lia) Z]
  lia
 .have e:(o+1+r)%p=o+1+r-p:=by
   rw[<-Int.sub_emod_right,Int.emod_eq_of_lt (by lia) (by lia)]
  rw[e]
  lia
def bY(h:n<=24):n<=sizeLine:=Za (g5 (by lia))
def gy(h:n<=900):n<sizeLine:=g5 (by lia)
def FU{ns:List Int}(h:k<ns.length):(ns.map V.int)[k]?=44#(ns.getD k 0):=by
 rw[XQ,XO];simp[h]
def jM(x m:Int)(h:0<m):0<=x%m/\x%m<m:=⟨Int.emod_nonneg _ (by lia),Int.emod_lt_of_pos _ h⟩
end Ring
namespace RM
def dX(f:Nat->Bool):Nat->Bool
 | 0=>false
 | n+1=>dX f n^^f n
theorem dD:∀{n},(∀k,k<n->f k=g k)->dX f n=dX g n
 | 0,_=>rfl
 | n+1,h=>by
   unfold dX;rw[dD λk R=>h k (by lia),h n (by lia)]
theorem i5(f g):∀n,dX (λk=>f k^^g k) n=(dX f n^^dX g n)
 | 0=>rfl
 | n+1=>by
   unfold dX;rw[i5 f g n];cases dX f n<;>cases dX g n<;>cases f n<;>cases g n<;>rfl
theorem nS:∀n,dX (λ_=>false) n=false
 | 0=>rfl
 | n+1=>by unfold dX;rw[nS n];rfl
theorem i6(c)(f):∀n,dX (λk=>c&&f k) n=(c&&dX f n)
 | 0=>by cases c<;>rfl
 | n+1=>by
   unfold dX;rw[i6 c f n];cases c<;>simp
theorem qv(f:Nat->Nat->Bool)(n):∀m,dX (λx=>dX (λk=>f x k) n) m=dX (λk=>dX (λx=>f x k) m) n
 | 0=>by
   change false=_;rw[<-nS n];rfl
 | m+1=>by
   change(dX (λx=>dX (λk=>f x k) n) m^^dX (λk=>f m k) n)=_
   rw[qv f n m,<-i5];rfl
def g7(h:∀k,k<n->f k=false):dX f n=false:=by
 rw[dD h,nS]
theorem oO:∀{n},a<n->(∀k,k<n->k≠a->f k=false)->dX f n=f a
 | 0,h,_=>absurd h (Y5 _)
 | n+1,h,z=>by
   unfold dX
   by_cases e:a=n
   .subst e;rw[g7 λk R=>z k (by lia) (by lia)]
    simp
   .rw[oO (by lia) λk R g=>z k (by lia) g,z n (by lia) (λq=>e q.symm)]
    simp
def g8(C:Nat->Bool)(h:a<m):dX (λx=>C x&&decide (a=x)) m=C a:=by
 rw[oO h λk _ R=>by simp[Yy R]]
 simp
structure Net where
 p:Nat
 n:Nat
 a:Nat->Nat
 b:Nat->Nat
 al:∀k,k<n->a k<p
 bl:∀k,k<n->b k<p
 ne:∀k,k<n->a k≠b k
variable (N:Net)
def Net.inc(k x:Nat):Bool:=9#(N.a k=x)^^9#(N.b k=x)
def Net.bd(m x:Nat):Bool:=dX (λk=>7#0&&N.inc k x) N.n
def Net.gi(m:Nat):Prop:=∀x,x<N.p->N.bd m x=false
variable {N}
def gM(m q x):N.bd (m^^^q) x=(N.bd m x^^N.bd q x):=by
 unfold Net.bd;rw[<-i5];show dD λk _=>?_
 rw[X8];cases 7#0<;>cases q.testBit k<;>cases N.inc k x<;>rfl
def oQ(x):N.bd 0 x=false:=by
 show g7 λk _=>by simp
def lP(h:k<N.n)(x):N.bd (2^k) x=N.inc k x:=by
 unfold Net.bd;rw[oO h λj _ o=>by simp[Yi,Yy o]]
 simp[Yi]
def gi.xor(h:N.gi m)(h' : N.gi q):N.gi (m^^^q):=λx B=>by rw[gM,h x B,h' x B];rfl
def Ko{m:Nat}(C:Nat->Bool)(h:∀k,k<N.n->7#0=true->C (N.a k)=C (N.b k)):dX (λx=>C x&&N.bd m x) N.p=false:=by
 have e:dX (λx=>C x&&N.bd m x) N.p=dX (λx=>dX (λk=>C x&&(7#0&&N.inc k x)) N.n) N.p :=
  dD λx _=>(i6 (C x) _ N.n).symm
 rw[e,qv];show g7 λk R=>?_
 have D:dX (λx=>C x&&(7#0&&N.inc k x)) N.p=(7#0&&(C (N.a k)^^C (N.b k))):=by
  rw[<-g8 C (N.al k R),<-g8 C (N.bl k R),<-i5,<-i6];show dD λx _=>?_
  unfold Net.inc;cases C x<;>cases 7#0<;>cases 9#(N.a k=x)<;>cases 9#(N.b k=x)<;>rfl
 rw[D];cases Z:7#0 with
 | false=>rfl
 | true=>rw[h k R Z];simp
def join(L:Nat->Nat)(u v:Nat):Nat->Nat:=λx=>if L x=max (L u) (L v) then min (L u) (L v) else L x
def join_eq(h:L x=L y):join L u v x=join L u v y:=by unfold join;rw[h]
def Hs(L)(u v):join L u v u=join L u v v:=by
 unfold join
 split<;>split<;>lia
def xg(h:L u=L v):join L u v=L:=by
 funext x
 unfold join;rw[h]
 split<;>lia
def Di(h:join L u v x=join L u v y):L x=L y\/(L x=L u/\L y=L v)\/(L x=L v/\L y=L u):=by
 unfold join at h;have a:(max (L u) (L v)=L u/\min (L u) (L v)=L v)\/(max (L u) (L v)=L v/\min (L u) (L v)=L u):=by
  rcases W' (L u) (L v) with q|q
  .show .inr ⟨g! q,Zc q⟩
  .show .inl ⟨i! q,ZK q⟩
 rcases a with⟨J,D⟩|⟨J,D⟩
 .rw[J,D]at h
  split at h
  .rename_i B
   split at h
   .rename_i W
    show .inl (B.trans W.symm)
   .show .inr (.inl ⟨B,h.symm⟩)
  .split at h
   .rename_i W
    show .inr (.inr ⟨h,W⟩)
   .show .inl h
 .rw[J,D]at h
  split at h
  .rename_i B
   split at h
   .rename_i W
    show .inl (B.trans W.symm)
   .show .inr (.inr ⟨B,h.symm⟩)
  .split at h
   .rename_i W
    show .inr (.inl ⟨h,W⟩)
   .show .inl h
def join_le(h:L x<=x):join L u v x<=x:=by
 unfold join
 split<;>lia
def Ht(h:∀x,L (L x)=L x)(x):join L u v (join L u v x)=join L u v x:=by
 have r:=h u;have a:=h v;have B:=h x;have k:L (min (L u) (L v))=min (L u) (L v):=by
  rcases W' (L u) (L v) with q|q
  .rw[Zc q];show r
  .rw[ZK q];show a
 unfold join
 split
 .rw[k]
  split<;>lia
 .rw[B]
  split<;>lia
def Net.bK(N:Net)(S:Nat->Bool):Nat->Nat->Nat
 | 0=>λx=>x
 | k+1=>if S k=true then join (Net.bK N S k) (N.a k) (N.b k) else Net.bK N S k
variable {S:Nat->Bool}
theorem r7:∀k x,N.bK S k x<=x
 | 0,_=>XJ _
 | k+1,x=>by
   unfold Net.bK
   split
   .show join_le (r7 k x)
   .show r7 k x
theorem fO:∀k x,N.bK S k (N.bK S k x)=N.bK S k x
 | 0,_=>rfl
 | k+1,x=>by
   by_cases W:S k=true
   .have e:N.bK S (k+1)=join (N.bK S k) (N.a k) (N.b k):=by
     conv=>lhs;unfold Net.bK
     rw[XI W]
    rw[e];show Ht (fO k) x
   .have e:N.bK S (k+1)=N.bK S k:=by
     conv=>lhs;unfold Net.bK
     rw[XH W]
    rw[e];show fO k x
theorem xh(h:N.bK S k x=N.bK S k y):∀d,N.bK S (k+d) x=N.bK S (k+d) y
 | 0=>h
 | d+1=>by
   have O:=xh h d;unfold Net.bK
   split
   .show join_eq O
   .show O
def jN(h:j<k)(W:S j=true):N.bK S k (N.a j)=N.bK S k (N.b j):=by
 obtain⟨d,rfl⟩:=V! (Nat.succ_le_of_lt h);show xh ?_ d;unfold Net.bK;rw[XI W];show Hs _ _ _
inductive Net.kq(N:Net)(S:Nat->Bool)(k u:Nat):Nat->Prop
 | refl:Net.kq N S k u u
 | fwd {j:Nat} (h:Net.kq N S k u (N.a j)) (hj:j<k) (hs:S j=true):Net.kq N S k u (N.b j)
 | bwd {j:Nat} (h:Net.kq N S k u (N.b j)) (hj:j<k) (hs:S j=true):Net.kq N S k u (N.a j)
def Net.kq.trans(h:N.kq S k u v)(h' : N.kq S k v w):N.kq S k u w:=by
 induction h' with
 | refl=>show h
 | fwd _ o W O=>show .fwd O o W
 | bwd _ o W O=>show .bwd O o W
def Net.kq.mono(h:N.kq S k u v)(t:k<=l):N.kq S l u v:=by
 induction h with
 | refl=>show .refl
 | fwd _ o W O=>show .fwd O (by lia) W
 | bwd _ o W O=>show .bwd O (by lia) W
theorem eI:∀k u v,N.bK S k u=N.bK S k v->N.kq S k u v
 | 0,u,v,h=>by
   have e:=h;subst e;show .refl
 | k+1,u,v,h=>by
   unfold Net.bK at h
   split at h
   .rename_i W
    rcases Di h with q|⟨P,E⟩|⟨P,E⟩
    .show(eI k u v q).mono (by lia)
    .have Z:=(eI k u _ P).mono (Y6 k);have X:=(eI k _ v E.symm).mono (Y6 k);show Net.kq.trans (.fwd Z (by lia) W) X
    .have Z:=(eI k u _ P).mono (Y6 k);have X:=(eI k _ v E.symm).mono (Y6 k);show Net.kq.trans (.bwd Z (by lia) W) X
   .show(eI k u v h).mono (by lia)
def Net.cJ(N:Net)(k:Nat):Nat->Nat:=N.bK (λ_=>true) k
def Net.gY(N:Net)(k:Nat):Bool:=! 9#(N.cJ k (N.a k)=N.cJ k (N.b k))
def lQ(k):N.cJ (k+1)=if N.gY k=true then join (N.cJ k) (N.a k) (N.b k) else N.cJ k:=by
 change N.bK (λ_=>true) (k+1)=_
 unfold Net.bK;rw[XI rfl];unfold Net.gY
 by_cases h:N.cJ k (N.a k)=N.cJ k (N.b k)
 .rw[XH (by simp[h])]
  show xg h
 .rw[XI (by simp[h])]
  rfl
def iK{m:Nat}(Y:∀k,7#0=true->k<N.n/\N.gY k=true)(n:N.gi m):m=0:=by
 by_cases J:m=0
 .show J
 exfalso
 have Q:=Nat.testBit_log2 J;obtain⟨b,a⟩:=Y _ Q;generalize c:m.log2=K at Q b a;have f:m<2^(K+1):=by rw[<-c];show Nat.lt_log2_self
 have h:=Ko (m:=m^^^2^K) (λx=>9#(N.cJ K x=N.cJ K (N.a K))) λk R Z=>by
  have d:k<K:=by
   rw[X8,Yi]at Z
   by_cases e:K=k
   .subst e;simp[Q]at Z
   .have v:7#0=true:=by simpa[e]using Z
    have:k<K+1:=by
     by_cases q:k<K+1
     .show q
     .have z:=YO (X4 f (YQ 4#0 (73#(K+1<=k))))
      rw[v]at z;cases z
    lia
  have e:N.cJ K (N.a k)=N.cJ K (N.b k):=jN d rfl;rw[e]
 have e:dX (λx=>9#(N.cJ K x=N.cJ K (N.a K))&&N.bd (m^^^2^K) x) N.p=dX (λx=>9#(N.cJ K x=N.cJ K (N.a K))&&N.inc K x) N.p :=
  dD λx B=>by rw[gM,n x B,lP b];simp
 rw[e]at h;have D:dX (λx=>9#(N.cJ K x=N.cJ K (N.a K))&&N.inc K x) N.p=(9#(N.cJ K (N.a K)=N.cJ K (N.a K))^^9#(N.cJ K (N.b K)=N.cJ K (N.a K))):=by
  rw[<-g8 (λx=>9#(N.cJ K x=N.cJ K (N.a K))) (N.al K b),<-g8 (λx=>9#(N.cJ K x=N.cJ K (N.a K))) (N.bl K b),<-i5]
  show dD λx _=>?_
  unfold Net.inc;cases 9#(N.cJ K x=N.cJ K (N.a K))<;>cases 9#(N.a K=x)<;>cases 9#(N.b K=x)<;>rfl
 rw[D]at h;unfold Net.gY at a;have U : ¬ N.cJ K (N.b K)=N.cJ K (N.a K):=λq=>by rw[q]at a;simp at a
 simp[U]at h
def Net.trail(N:Net):Nat->Nat->Nat
 | 0=>λ_=>0
 | k+1=>if N.gY k=true then λv=>if N.cJ k v=max (N.cJ k (N.a k)) (N.cJ k (N.b k)) then Net.trail N k v^^^(Net.trail N k (N.a k)^^^Net.trail N k (N.b k)^^^2^k) else Net.trail N k v
   else Net.trail N k
theorem jO:∀k v j,102#(N.trail k v)=true->j<k/\N.gY j=true
 | 0,v,j,h=>by simp[Net.trail]at h
 | k+1,v,j,h=>by
   have O:=jO k;unfold Net.trail at h
   split at h
   .rename_i Y
    dsimp only at h
    split at h
    .rw[X8,X8,X8,Yi]at h
     by_cases e:k=j
     .subst e;show⟨by lia,Y⟩
     .have z : ¬(102#(N.trail k v)=false/\102#(N.trail k (N.a k))=false/\102#(N.trail k (N.b k))=false):=by
       show c5 λu I t=>?_
       simp[u,I,t,e]at h
      cases G:102#(N.trail k v) with
      | true=>obtain⟨q,r⟩:=O v j G;show⟨by lia,r⟩
      | false=>cases C:102#(N.trail k (N.a k)) with
        | true=>obtain⟨q,r⟩:=O _ j C;show⟨by lia,r⟩
        | false=>cases l:102#(N.trail k (N.b k)) with
          | true=>obtain⟨q,r⟩:=O _ j l;show⟨by lia,r⟩
          | false=>show absurd (bh G C l) z
    .obtain⟨q,r⟩:=O v j h;show⟨by lia,r⟩
   .obtain⟨q,r⟩:=O v j h;show⟨by lia,r⟩
def Kp(a b c d e f g h:Bool)(i:(d^^f)=(g^^h)):((a^^g)^^(((c^^d)^^(e^^f))^^(c^^e)))=(a^^h):=by
 have J:(((c^^d)^^(e^^f))^^(c^^e))=(d^^f):=by cases c<;>cases d<;>cases e<;>cases f<;>rfl
 rw[J,i];cases a<;>cases g<;>cases h<;>rfl
theorem tq:∀k,k<=N.n->∀v x,N.bd (N.trail k v) x=(decide (v=x)^^9#(N.cJ k v=x))
 | 0,_,v,x=>by
   change N.bd 0 x=(decide (v=x)^^decide (v=x));rw[oQ];simp
 | k+1,R,v,x=>by
   have O:=tq k (by lia)
   rw[lQ];unfold Net.trail
   by_cases Y:N.gY k=true
   .rw[XI Y,XI Y]
    by_cases d:N.cJ k v=max (N.cJ k (N.a k)) (N.cJ k (N.b k))
    .have e:join (N.cJ k) (N.a k) (N.b k) v=min (N.cJ k (N.a k)) (N.cJ k (N.b k)):=by unfold join;rw[XI d]
     change N.bd (if N.cJ k v=_ then _ else _) x=_
     rw[XI d,e,gM,gM,gM,lP (by lia),O,O,O]
     unfold Net.inc;show Kp _ false _ _ _ _ _ _ ?_;rw[d];rcases W' (N.cJ k (N.a k)) (N.cJ k (N.b k)) with q|q
     .rw[g! q,Zc q,Bool.xor_comm]
     .rw[i! q,ZK q]
    .have e:join (N.cJ k) (N.a k) (N.b k) v=N.cJ k v:=by unfold join;rw[XH d]
     change N.bd (if N.cJ k v=_ then _ else _) x=_
     rw[XH d,e,O]
   .rw[XH Y,XH Y];show O v x
def Net.ring(N:Net)(c:Nat):Nat:=N.trail N.n (N.a c)^^^N.trail N.n (N.b c)^^^2^c
def AE(h:c<N.n):N.cJ N.n (N.a c)=N.cJ N.n (N.b c):=jN h rfl
def mK(h:c<N.n):N.gi (N.ring c):=λx _=>by
 unfold Net.ring;rw[gM,gM,lP h,tq _ (XJ _),tq _ (XJ _),AE h];unfold Net.inc;cases 9#(N.a c=x)<;>cases 9#(N.b c=x)<;>cases 9#(N.cJ N.n (N.b c)=x)<;>rfl
def lR(h:102#(N.ring c)=true):j=c\/(j<N.n/\N.gY j=true):=by
 unfold Net.ring at h;rw[X8,X8,Yi]at h
 by_cases e:c=j
 .show .inl e.symm
 .right
  cases G:102#(N.trail N.n (N.a c)) with
  | true=>show jO _ _ _ G
  | false=>cases C:102#(N.trail N.n (N.b c)) with
    | true=>show jO _ _ _ C
    | false=>simp[G,C,e]at h
def tu(Y:N.gY c=false):(N.ring c).testBit c=true:=by
 unfold Net.ring;rw[X8,X8,Yi];cases G:(N.trail N.n (N.a c)).testBit c with
 | true=>obtain⟨_,q⟩:=jO _ _ _ G;rw[Y]at q;cases q
 | false=>cases C:(N.trail N.n (N.b c)).testBit c with
   | true=>obtain⟨_,q⟩:=jO _ _ _ C;rw[Y]at q;cases q
   | false=>simp
def Hu(h:j<N.n)(Y:N.gY j=true):102#(N.trail N.n (N.a j))=true\/102#(N.trail N.n (N.b j))=true:=by
 have z:=iK (λk R=>by
  rcases lR R with rfl|q
  .show⟨h,Y⟩
  .show q) (mK h)
 have b:102#(N.ring j)=false:=by rw[z];simp
 unfold Net.ring at b;rw[X8,X8,Yi]at b;cases G:102#(N.trail N.n (N.a j)) with
 | true=>show .inl rfl
 | false=>cases C:102#(N.trail N.n (N.b j)) with
   | true=>show .inr rfl
   | false=>simp[G,C]at b
def cnt(f:Nat->Bool):Nat->Nat
 | 0=>0
 | n+1=>cnt f n+(46#(f n))
theorem g9:∀{n},(∀k,k<n->f k=g k)->cnt f n=cnt g n
 | 0,_=>rfl
 | n+1,h=>by
   unfold cnt;rw[g9 λk R=>h k (by lia),h n (by lia)]
theorem AF(y:g h=true):∀{p},h<p->(∀x,x<p->f x=(g x && ! decide (x=h)))->cnt g p=cnt f p+1
 | 0,N,_=>absurd N (Y5 _)
 | p+1,N,e=>by
   unfold cnt
   by_cases q:h=p
   .subst q;have z:cnt g h=cnt f h:=g9 λk R=>by rw[e k (by lia)];simp[73#(k≠h)]
    rw[z,XI y,e h (by lia)]
    simp
   .rw[AF y (by lia) λx B=>e x (by lia),e p (by lia)]
    simp[Yy q]
    lia
theorem hU(f):∀n,((16#n).filter f).length=cnt f n
 | 0=>rfl
 | n+1=>by
   rw[Zh,YM,XR,hU f n];change _=cnt f n+(46#(f n))
   cases h:f n with
   | true=>rw[Yr,XI h];rfl
   | false=>rw[Yr,XH (by rw[h];simp)];rfl
theorem r8(f):∀n,cnt f n+cnt (λk=>! f k) n=n
 | 0=>rfl
 | n+1=>by
   have O:=r8 f n;unfold cnt;cases h:f n<;>simp<;>lia
theorem yQ:∀{n},(∀k,k<n->f k=true)->cnt f n=n
 | 0,_=>rfl
 | n+1,h=>by
   unfold cnt;rw[yQ λk R=>h k (by lia),XI (h n (by lia))]
variable {N:Net}
def Net.root(N:Net)(S:Nat->Bool)(k x:Nat):Bool:=9#(N.bK S k x=x)
def iQ(k):N.bK S (k+1)=if S k=true then join (N.bK S k) (N.a k) (N.b k) else N.bK S k:=by
 conv=>lhs;unfold Net.bK
def r9(h:x<N.p):N.bK S k x<N.p:=YL (r7 k x) h
def Hv(P:∀x,L (L x)=L x)(U:L u≠L v)(x):9#(join L u v x=x)=(9#(L x=x) && ! 9#(x=max (L u) (L v))):=by
 have a:L (max (L u) (L v))=max (L u) (L v):=by
  rcases W' (L u) (L v) with q|q
  .rw[g! q];show P v
  .rw[i! q];show P u
 have k:L (min (L u) (L v))=min (L u) (L v):=by
  rcases W' (L u) (L v) with q|q
  .rw[Zc q];show P u
  .rw[ZK q];show P v
 unfold join
 by_cases h:L x=max (L u) (L v)
 .rw[XI h];have G : ¬ min (L u) (L v)=x:=λz=>by
   rw[<-z,k]at h
   lia
  by_cases C:x=max (L u) (L v)
  .simp[G,C]
   lia
  .have l : ¬ L x=x:=λz=>C (z.symm.trans h)
   simp[G,l]
 .rw[XH h];have C : ¬ x=max (L u) (L v):=λz=>h (by rw[z];show a)
  simp[C]
def tw(R:k<N.n):cnt (N.root S k) N.p=cnt (N.root S (k+1)) N.p+(if(S k && ! 9#(N.bK S k (N.a k)=N.bK S k (N.b k)))=true then 1 else 0):=by
 cases W:S k with
 | false =>
   have e:N.root S (k+1)=N.root S k:=by unfold Net.root;rw[iQ,XH (by rw[W];simp)]
   rw[e];simp
 | true =>
   by_cases h:N.bK S k (N.a k)=N.bK S k (N.b k)
   .have e:N.root S (k+1)=N.root S k:=by unfold Net.root;rw[iQ,XI W,xg h]
    rw[e];simp[h]
   .have a:N.bK S k (max (N.bK S k (N.a k)) (N.bK S k (N.b k)))=max (N.bK S k (N.a k)) (N.bK S k (N.b k)):=by
     rcases W' (N.bK S k (N.a k)) (N.bK S k (N.b k)) with q|q
     .rw[g! q];show fO _ _
     .rw[i! q];show fO _ _
    have G:=r9 (S:=S) (k:=k) (N.al k R);have C:=r9 (S:=S) (k:=k) (N.bl k R);rw[AF (f:=N.root S (k+1)) (e5 a) (by lia) λx _=>by
     unfold Net.root;rw[iQ,XI W];show Hv (fO k) h x]
    simp[h]
theorem kr:∀k,k<=N.n->cnt (N.root (λ_=>true) k) N.p+cnt N.gY k=N.p
 | 0,_=>by
   change cnt (N.root (λ_=>true) 0) N.p+0=N.p
   rw[yQ (f:=N.root (λ_=>true) 0) λx _=>e5 rfl]
   rfl
 | k+1,R=>by
   have O:=kr k (by lia)
   have st:=tw (N:=N) (S:=λ_=>true) (k:=k) (by lia)
   have e:((λ_=>true:Nat->Bool) k && ! 9#(N.bK (λ_=>true) k (N.a k)=N.bK (λ_=>true) k (N.b k)))=N.gY k:=by rw[ZD];rfl
   rw[e]at st;change cnt (N.root (λ_=>true) (k+1)) N.p+(cnt N.gY k+46#(N.gY k))=N.p
   lia
def AG:(N.n:Int)-N.p+cnt (N.root (λ_=>true) N.n) N.p=(cnt (λk=>! N.gY k) N.n:Nat):=by
 have h:=kr N.n (XJ _);have C:=r8 N.gY N.n
 lia
def Net.bZ(N:Net):List Nat:=(16#N.n).filter λk=>! N.gY k
def cY:c∈N.bZ↔c<N.n/\N.gY c=false:=by
 unfold Net.bZ;rw[Yz,Yk];simp
def Dl:N.bZ.length=cnt (λk=>! N.gY k) N.n:=hU _ _
def fH{m n:Nat}(h:∀k,7#0=true->k<n):m<2^n:=Nat.lt_pow_two_of_testBit m λk R=>by
 cases q:7#0 with
 | false=>rfl
 | true=>show absurd (h k q) (by lia)
def fP(h:m<2^n)(Z:7#0=true):k<n:=by
 by_cases q:k<n
 .show q
 .have z:=YO (X4 h (YQ 4#0 (73#(n<=k))))
  rw[Z]at z;cases z
def Kq(d:m<2^N.n)(T:q<2^N.n)(b:N.gi m)(a:N.gi q)(h:∀c,c<N.n->N.gY c=false->m.testBit c=q.testBit c):m=q:=by
 have z:=iK (λk R=>by
  have B:=fP (Y4 d T) R;show⟨B,?_⟩;cases Y:N.gY k with
  | true=>rfl
  | false =>
    rw[X8,h k B Y]at R;simp at R) (gi.xor b a)
 have e:m=m^^^q^^^q:=by rw[Y9,Z4,Zo]
 rw[e,z,Zp]
def ku(h:c<N.n):N.ring c<2^N.n:=fH λk R=>by
 rcases lR R with rfl|⟨q,_⟩
 .show h
 .show q
def nU(L:N.gY c=false)(j:N.gY d=false):(N.ring c).testBit d=decide (c=d):=by
 by_cases e:c=d
 .subst e;rw[tu L];simp
 .cases q:(N.ring c).testBit d with
  | false=>simp[e]
  | true=>rcases lR q with rfl | ⟨_,r⟩
          .show absurd rl e
          .rw[j]at r;cases r
end RM
namespace Ring
open PySem L2
def maskOf(f:Nat->Bool):Nat->Nat
 | 0=>0
 | n+1=>(if f n=true then 2^n else 0)+maskOf f n
theorem mask_lt(f):∀n,maskOf f n<2^n
 | 0=>by change 0<1;decide
 | n+1=>by
   have O:=mask_lt f n;have e:2^(n+1)=2^n+2^n:=by rw[Z5];lia
   unfold maskOf
   split<;>lia
theorem mask_bit(f)(j):∀n,102#(maskOf f n)=(decide (j<n)&&f j)
 | 0=>by simp[maskOf]
 | n+1=>by
   have O:=mask_bit f j n;have S:=mask_lt f n;unfold maskOf
   by_cases h:f n=true
   .rw[XI h];rcases Nat.lt_trichotomy j n with q|q|q
    .rw[Nat.testBit_two_pow_add_gt q,O];simp[q,73#(j<n+1)]
    .subst q;rw[Nat.testBit_two_pow_add_eq,O];simp[h]
    .have z:=X4 (show 2^n+maskOf f n<2^(n+1) by rw[Z5];lia) (YQ 4#0 q)
     rw[YO z];simp[73#(¬ j<n+1)]
   .rw[XH h,N!,O]
    by_cases q:j=n
    .subst q;have M:f j=false:=by simpa using h
     simp[M]
    .by_cases r:j<n
     .simp[r,73#(j<n+1)]
     .simp[r,73#(¬ j<n+1)]
theorem AH(f):∀n,(((16#n).filter f).map λk=>2^k).sum=maskOf f n
 | 0=>rfl
 | n+1=>by
   rw[Zh,YM,X5,K!,AH f n];change _=(if f n=true then 2^n else 0)+maskOf f n
   cases h:f n with
   | true=>rw[Yr,XI h];simp;lia
   | false=>rw[Yr,XH (by rw[h];simp)];simp
def Ks(n):maskOf (λ_=>true) n=2^n-1:=by
 induction n with
 | zero=>rfl
 | succ n O =>
   unfold maskOf;rw[O,XI rfl,Z5];have:=Zi n
   lia
def yR(n j):102#(2^n-1)=decide (j<n):=by
 rw[<-Ks,mask_bit];simp
def Qc(q:x/2+y/2=a/2+b/2)(h:x%2+y%2=a%2+b%2):x+y=a+b:=by lia
def Qd(r:u=0\/u=1)(a:v=0\/v=1):(u ||| v)+(u&&&v)=u+v:=by
 rcases r with rfl|rfl<;>rcases a with rfl|rfl<;>rfl
def Qe:∀a b:Nat,(a ||| b)+(a&&&b)=a+b:=by
 intro a
 induction a using Nat.strongRecOn with
 | ind a O =>
   intro b
   by_cases h:a=0
   .subst h;simp
   .have q:=O (a/2) (by lia) (b/2)
    rw[<-Nat.or_div_two,<-Nat.and_div_two]at q;show Qc q ?_;have J:(a ||| b)%2=a%2 ||| b%2:=Nat.or_mod_two_pow (n:=1)
    have D:(a&&&b)%2=a%2&&&b%2:=Nat.and_mod_two_pow (n:=1);rw[J,D];show Qd (ZT a) (ZT b)
def or_int(a b:Nat):Builtin.bitOr (a:Int) (b:Int)=19#(a ||| b):=by
 have q:=Qe a b;rw[PyProof.Rows.bitOr_and,d? (by lia) (by lia)]
 have h:a+b-19#(a&&&b)=19#(a ||| b):=by lia
 simpa using h
def kA(k:Nat):(1:Int)*2^(k:Int).toNat=19#(2^k):=by
 rw[X3,ZY];simp
def eZ{J:List cU}(h:k<J.length):dG J k∈J:=by
 unfold dG;rw[XO];simp[h]
def qw{J:List cU}(h:k<J.length):J[k]?=some (dG J k):=by
 unfold dG;rw[XO];simp[h]
def ay.N{p:Nat}{J:List cU}(g:ay p J):RM.Net where
 p:=p
 n:=J.length
 a:=λk=>(dG J k).1.toNat
 b:=λk=>(dG J k).2.1.toNat
 al:=λk R=>by
  have z:=g.gU _ (eZ R);have r:=z.a0;have u:=z.a1
  lia
 bl:=λk R=>by
  have z:=g.gU _ (eZ R);have r:=z.b0;have u:=z.b1
  lia
 ne:=λk R e=>by
  have z:=g.gU _ (eZ R);have r:=z.a0;have u:=z.b0;show z.ne (by lia)
def FW{p:Nat}{J:List cU}{g:ay p J}(h:k<J.length):(dG J k).1=19#(g.N.a k):=by
 have z:=(g.gU _ (eZ h)).a0;change _=19#(dG J k).1.toNat
 lia
def FY{p:Nat}{J:List cU}{g:ay p J}(h:k<J.length):(dG J k).2.1=19#(g.N.b k):=by
 have z:=(g.gU _ (eZ h)).b0;change _=19#(dG J k).2.1.toNat
 lia
def M8{p:Nat}{J:List cU}{g:ay p J}(h:k<J.length)(x:Nat):MF J k x%2=46#(g.N.inc k x):=by
 unfold MF RM.Net.inc;rw[qw h];dsimp only;rw[FW (g:=g) h,FY (g:=g) h];generalize g.N.a k=u;generalize g.N.b k=v
 by_cases G:u=x
 .by_cases C:v=x
  .simp[G,C]
  .have S : ¬(v=(x:Int)):=by lia
   simp[G,C,S]
 .have d : ¬((u:Int)=(x:Int)):=by lia
  by_cases C:v=x
  .simp[G,C,d]
  .have S : ¬((v:Int)=(x:Int)):=by lia
   simp[G,C,d,S]
theorem Ku{p:Nat}{J:List cU}{g:ay p J}(m x:Nat):∀n,n<=J.length->((16#n).map λk=>if 7#0=true then MF J k x else 0).sum%2=46#(RM.dX (λk=>7#0&&g.N.inc k x) n)
 | 0,_=>rfl
 | n+1,h=>by
   have O:=Ku (g:=g) m x n (by lia)
   have j:=M8 (g:=g) (k:=n) (by lia) x
   rw[Zh,X5,K!];change(_+((if m.testBit n=true then MF J n x else 0)+0))%2=if(RM.dX _ n^^(m.testBit n&&g.N.inc n x))=true then 1 else 0
   generalize ((16#n).map λk=>if 7#0=true then MF J k x else 0).sum=u at O ⊢
   generalize RM.dX (λk=>7#0&&g.N.inc k x) n=v at O ⊢
   generalize g.N.inc n x=i at j ⊢;generalize MF J n x=d at j ⊢;cases m.testBit n<;>cases v<;>cases i<;>simp at O j ⊢ <;> lia
def FZ(g:ay p J){m:Nat}(d:m<48#0):9#((jD p J (m:Int)).getD x 0%2=1)=g.N.bd m x:=by
 rw[Kh g.vH.Vq,eM d,sum_filter];have h:=Ku (g:=g) m x J.length (XJ _);rw[h];change _=RM.dX _ J.length;generalize RM.dX (λk=>7#0&&g.N.inc k x) J.length=v
 cases v<;>simp
def AI(g:ay p J){m:Nat}(d:m<48#0):ng p J (m:Int)=[]↔g.N.gi m:=by
 unfold ng;rw[q!]
 constructor
 .intro h x B;have q:=h x (Yk.mpr B);rw[FZ g d]at q
  simpa using q
 .intro h x B;rw[FZ g d,h x (Yk.mp B)];simp
def iL(f:Nat->Nat)(n:Nat):List V:=(16#n).map λx=>V.int 19#(f x)
def gj(f)(n):27#(iL f n)=n:=by unfold iL;rw[XG,Yh]
def cG(h:x<n):(iL f n)[x]?=44#19#(f x):=by
 unfold iL;rw[XQ,Zw h];rfl
def oR(h:(iL f n)[x]?=some v):x<n/\v = .int 19#(f x):=by
 have B:x<n:=by
  have:=(jc.mp h).1
  rwa [gj]at this
 rw[cG B]at h;show⟨B,(13#h).symm⟩
def xj(f)(n):iL f (n+1)=iL f n++[.int 19#(f n)]:=by
 unfold iL;rw[Zh,X5];rfl
def Kv(p):(List.replicate p [V.int 0]).flatten=iL (λ_=>0) p:=by
 induction p with
 | zero=>rfl
 | succ p O =>
   rw[xj,<-O,ZX,List.flatten_append];rfl
def yS(f:Nat->Nat)(H:Hp)(D:Addr)(i:Nat)(I:List V)(O:Hp):Prop:=aj H O/\10#O/\I=iL f i
def yS.start(u:H D=none):yS f H D 0 [] (86#H):=bh (aj.new u) aa rfl
def yS.len(p:yS f H D i I O):10#O/\I.length<=i:=⟨p.2.1,by rw[p.2.2,gj];show XJ _⟩
def yS.next(p:yS f H D i I O)(u:H D=none)(s:aj O X)(a:v = .int 19#(f i)):10#X/\yS f H D (i+1) (I++[v]) (η X D 28#(I++[v])):=by
 show f7 (s _ _ p.2.1) ((p.1.trans s).put u) aa ?_;rw[xj,<-p.2.2,a]
theorem xm{N:RM.Net}{m:Nat}:∀n,((16#n).filter λk=>7#0).foldl (λL k=>RM.join L (N.a k) (N.b k)) (λx=>x)=N.bK (λk=>7#0) n
 | 0=>rfl
 | n+1=>by
   rw[dR,b!,xm n,RM.iQ]
   split<;>rfl
end Ring
namespace RM
theorem nV{N:Net}:∀{n},(∀k,k<n->S k=a k)->N.bK S n=N.bK a n
 | 0,_=>rfl
 | n+1,h=>by rw[iQ,iQ,nV λk R=>h k (by lia),h n (by lia)]
end RM
namespace Ring
open PySem L2
def pieceOf(L:Nat->Nat)(p s:Nat):List Nat:=(16#p).filter λx=>9#(L x=s)
def eA(L:Nat->Nat)(p:Nat):List Nat:=(16#p).filter λx=>9#(L x=x)
def OU(D:Addr)(t H:Hp)(y:V)(l:List Nat):Prop:=∃b,y = .ref b/\b≠D/\t b=none/\H b=1#(aI l)
def tD(L:Nat->Nat)(p:Nat)(H:Hp)(D:Addr)(i:Nat)(O:Hp):Prop:=aj H O/\∃t,O D=some (.lst t)/\Paired (OU D H O) t ((eA L i).map (pieceOf L p))/\t.length<=i
def tD.start(u:H D=none):tD L p H D 0 (86#H):=⟨aj.new u,(au [] aa .nil (XJ _))⟩
def tE:eA L (i+1)=eA L i++(if L i=i then[i] else[]):=by
 unfold eA;rw[dR]
 by_cases h:L i=i<;>simp[h]
def tD.skip(h:tD L p H D i O)(g : ¬ L i=i):tD L p H D (i+1) O:=by
 revert h;show rX λs=>az λt j pr S=>?_
 show⟨s,(au t j ?_ (by lia))⟩
 rwa [tE,XH g,YU]
def tD.push(h:tD L p H D i O)(u:H D=none)(P:L i=i)(s:aj O X)(Z:O b=none)(d:X b=1#(aI (pieceOf L p i))):
 ∃ys,X D=1#ys/\ys.length<=i/\tD L p H D (i+1) (η X D 28#(ys++[.ref b])):=by
 revert h;show rX λM=>az λys j pr S=>?_
 have c:=s _ _ j;have a:b≠D:=λe=>by rw[e,j]at Z;cases Z
 show cS ys c S ((M.trans s).put u) (au (ys++[.ref b]) aa ?_ (by rw[XR,YA];lia))
 rw[tE,XI P,X5];show Paired.snoc (Paired.imp' (by intro _ _;show d8 λe n g J q=>?_;show cS e n g J (by rw[aq g];show s _ _ q)) pr) ?_
 show cS b rl a (M.free Z) (by rw[aq a];show d)
def tF(p)(ts)(g:ay p ts)(Z:List Nat):Nat->Nat:=Z.foldl (λL k=>RM.join L (g.N.a k) (g.N.b k)) λx=>x
def Dm:tF p J g (Z++[k])=RM.join (tF p J g Z) (g.N.a k) (g.N.b k):=by
 unfold tF;rw[b!];rfl
def eN(p)(ts)(g:ay p ts)(m:Nat):Nat->Nat:=g.N.bK (λk=>7#0) ts.length
def Dp{g}{m:Nat}(d:m<48#0):tF p J g (aV (m:Int))=eN p J g m:=by
 rw[eM d];show xm _
def M9:eN p J g (48#0-1)=g.N.cJ J.length:=by
 show RM.nV λk R=>by rw[yR];simp[R]
def Na{g:ay p J}:(J.length:Int)-(p:Int)+27#(eA (eN p J g (48#0-1)) p)=(g.N.bZ.length:Int):=by
 have h:=RM.AG (N:=g.N);rw[RM.Dl];unfold eA
 rwa [RM.hU,M9]
def Nb(a b:Nat):(if(b:Int)<(a:Int) then(b:Int) else(a:Int))=19#(min a b):=by
 split<;>lia
def yT(a b:Nat):(if(b:Int) > (a:Int) then(b:Int) else(a:Int))=19#(max a b):=by
 split<;>lia
def gO(a b:Nat):9#(V.int a=V.int b)=decide (a=b):=by
 rw[YG];simp
 lia
end Ring
namespace RM
def Kw{l:List Nat}:∀{p},l.Nodup->(∀x∈l,x<p)->l.length<=p:=by
 intro p g S;have t:l.Perm ((16#p).filter λx=>9#(x∈l)):=by
  show(List.perm_ext_iff_of_nodup g (v! _ r?)).mpr λa=>?_
  rw[Yz,Yk];simp;show λh=>S a h
 rw[t.length_eq];have:=Yg (λx=>9#(x∈l)) 16#p
 rwa [Yh]at this
end RM
namespace Ring
open PySem L2
def tG:((16#p).filter f).Pairwise (· < ·):=v! _ List.pairwise_lt_range
def Dq(o:∀x,L x<=x)(W:L s=s)(t:s<p):(pieceOf L p s)[0]?=some s:=by
 unfold pieceOf;obtain⟨d,rfl⟩:=Nat.exists_eq_add_of_lt t;rw[73#(s+d+1=s+(d+1)),List.range_add,YM]
 have e:(16#s).filter (λx=>9#(L x=s))=[]:=by
  rw[q!];intro x B;have G:=Yk.mp B;have C:=o x;simp
  lia
 rw[e,List.nil_append,List.range_succ_eq_map,Yd,Yr,XI (by simp[W])]
 rfl
def kB(l:List Nat):aI l=(l.map λx=>((x:Nat):Int)).map V.int:=by unfold aI;rw[YC];rfl
def lS(u:Nat)(l):PM (.int u) (aI l)=9#(u∈l):=by
 unfold PM aI;rw[List.any_map,YG,u?];simp only[Function.comp,decide_eq_true_eq]
 constructor
 .show ah λx B h=>?_
  have e:=eq_of_beq h;have:x=u:=by lia
  show this▸B
 .intro h;show ae u h (by simp[FJ])
def iR(l):(aI l).all ji=true:=by
 unfold aI;rw[List.all_map,Zl];intro x _;rfl
def and_int(a b:Nat):Builtin.bitAnd (a:Int) (b:Int)=19#(a&&&b):=by
 rw[d? (by lia) (by lia)]
 simp
def Rp(T:Nat->Nat):Nat->Nat
 | 0=>0
 | n+1=>Rp T n ||| T n
theorem F0(T)(j):∀n,102#(Rp T n)=true↔∃x,x<n/\102#(T x)=true
 | 0=>by simp[Rp]
 | n+1=>by
   unfold Rp;rw[Nat.testBit_or,Bool.or_eq_true,F0 T j n]
   constructor
   .rintro(⟨x,B,h⟩|h)
    .show ae x (by lia) h
    .show ae n (by lia) h
   .show ah λx B h=>?_
    by_cases e:x=n
    .subst e;show .inr h
    .show .inl (ae x (by lia) h)
section
variable {p:Nat}{ts:List cU}{g:ay p ts}
def jl(p)(ts)(g:ay p ts):Nat:=maskOf g.N.gY ts.length
def Dr:Rp (g.N.trail ts.length) p=jl p ts g:=by
 show YR λj=>?_
 unfold jl;rw[mask_bit,YG,F0];simp only[YE,decide_eq_true_eq]
 constructor
 .show ah λx _ h=>?_
  show RM.jO _ _ _ h
 .rintro⟨G,C⟩;rcases RM.Hu G C with h|h
  .show ae _ (g.N.al j G) h
  .show ae _ (g.N.bl j G) h
def Du(j):102#((2^ts.length-1)^^^jl p ts g)=(9#(j<ts.length) && ! g.N.gY j):=by
 unfold jl;rw[X8,yR,mask_bit];cases 9#(j<ts.length)<;>cases g.N.gY j<;>rfl
def xn:(2^ts.length-1)^^^jl p ts g<2^ts.length:=Y4 (119#(Zi ts.length)) (mask_lt _ _)
def AJ:aV 19#((2^ts.length-1)^^^jl p ts g)=g.N.bZ:=by
 rw[eM xn];show c! λk R=>?_
 have:=Yk.mp R;rw[Du];simp[this]
end
def Nc(n):((2:Int)^n-1)=19#(2^n-1):=by
 have h:(2^n)=19#(2^n):=by simp
 have:=Zi n
 lia
theorem nh:∀{n},c<n->(16#n).filter (λk=>decide (k=c))=[c]
 | 0,h=>absurd h (Y5 _)
 | n+1,h=>by
   rw[dR]
   by_cases e:c=n
   .subst e;have z:(16#c).filter (λk=>decide (k=c))=[]:=by
     rw[q!];intro x B;have:=Yk.mp B;simp
     lia
    rw[z];simp
   .rw[nh (by lia)]
    simp[Yy e]
def kC{l:List Nat}{i:Nat}(h:l[i]?=some k):(aI l)[i]?=some (.int k):=by
 unfold aI;rw[XQ,h];rfl
def qx(f:Nat->Bool)(l:List Nat)(H:Hp)(D:Addr)(i:Nat)(I:List V)(O:Hp):Prop:=aj H O/\10#O/\I=aI ((l.take i).filter f)
def qx.start(u:H D=none):qx f l H D 0 [] (86#H):=bh (aj.new u) aa rfl
def qx.len(p:qx f l H D i I O):10#O/\I.length<=i:=by
 show⟨p.2.1,?_⟩;rw[p.2.2,aF];show XY (Yg _ _) (by rw[Ym];lia)
def qx.yes(p:qx f l H D i I O)(u:H D=none)(s:aj O X)(R:l[i]?=some k)(Y:f k=true):10#X/\qx f l H D (i+1) (I++[.int k]) (η X D 28#(I++[.int k])):=by
 show f7 (s _ _ p.2.1) ((p.1.trans s).put u) aa ?_;rw[Yc,R,YM];change _=aI (_++[k].filter f);rw[Yr,XI Y,List.filter_nil,dB,<-p.2.2]
def qx.no(p:qx f l H D i I O)(s:aj O X)(R:l[i]?=some k)(Y:f k=false):qx f l H D (i+1) I X:=by
 show bh (p.1.trans s) (s _ _ p.2.1) ?_;rw[Yc,R,YM];change _=aI (_++[k].filter f);rw[Yr,XH (by rw[Y];simp),List.filter_nil,YU]
 show p.2.2
def qx.fin(p:qx f l H D l.length I O):O D=1#(aI (l.filter f)):=by rw[p.2.1,p.2.2,Yb]
def oU(f:Nat->Int)(l:List Nat)(H:Hp)(D:Addr)(i:Nat)(I:List V)(O:Hp):Prop:=aj H O/\10#O/\I=((l.take i).map f).map V.int
def oU.start(u:H D=none):oU f l H D 0 [] (86#H):=bh (aj.new u) aa rfl
def oU.len(p:oU f l H D i I O):10#O/\I.length<=i:=by
 show⟨p.2.1,?_⟩;rw[p.2.2,XG,XG,Ym]
 lia
def oU.next(p:oU f l H D i I O)(u:H D=none)(s:aj O X)(R:l[i]?=some k)(a:v = .int (f k)):10#X/\oU f l H D (i+1) (I++[v]) (η X D 28#(I++[v])):=by
 show f7 (s _ _ p.2.1) ((p.1.trans s).put u) aa ?_;rw[Yc,R,X5,X5,<-p.2.2,a];rfl
def oU.fin(p:oU f l H D l.length I O):O D=1#((l.map f).map V.int):=by rw[p.2.1,p.2.2,Yb]
end Ring
namespace RM
theorem tH(f):∀n,dX f n=9#(cnt f n%2=1)
 | 0=>rfl
 | n+1=>by
   unfold dX cnt;rw[tH f n]
   by_cases h:f n=true
   .rw[h,XI rfl]
    by_cases q:cnt f n%2=1
    .have U : ¬(cnt f n+1)%2=1:=by lia
     simp[q,U]
    .have U:(cnt f n+1)%2=1:=by lia
     simp[q,U]
   .have M:f n=false:=by simpa using h
    rw[M,XH 4#0]
    simp
end RM
namespace Ring
open PySem L2
def υ(J:List cU)(m:Nat):Int:=((aV (m:Int)).map λk=>(dG J k).2.2).sum
def Hw(J:List cU)(f:Nat->Bool):Nat->Int
 | 0=>0
 | n+1=>Hw J f n+(if f n=true then(dG J n).2.2 else 0)
theorem qZ(ts)(f):∀n,(((16#n).filter f).map λk=>(dG ts k).2.2).sum=Hw ts f n
 | 0=>rfl
 | n+1=>by
   rw[dR,X5,K!,qZ ts f n];change _=Hw ts f n+(if f n=true then(dG ts n).2.2 else 0)
   split<;>simp
def Hx{J:List cU}(d:m<48#0):υ J m=Hw J (λk=>7#0) J.length:=by
 unfold υ;rw[eM d];show qZ J _ _
section
variable {p:Nat}{ts:List cU}(g:ay p ts)
include g
end
end Ring
namespace RM
def sm(f:Nat->Nat):Nat->Nat
 | 0=>0
 | n+1=>sm f n+f n
theorem jP:∀{n},(∀k,k<n->f k=g k)->sm f n=sm g n
 | 0,_=>rfl
 | n+1,h=>by
   change sm f n+f n=sm g n+g n;rw[jP λk R=>h k (by lia),h n (by lia)]
theorem yU(f g):∀n,sm (λk=>f k+g k) n=sm f n+sm g n
 | 0=>rfl
 | n+1=>by
   change sm (λk=>f k+g k) n+(f n+g n)=sm f n+f n+(sm g n+g n)
   rw[yU f g n]
   lia
theorem yV:∀n,sm (λ_=>0) n=0
 | 0=>rfl
 | n+1=>by
   change sm (λ_=>0) n+0=0
   rw[yV n]
theorem F1(f:Nat->Nat->Nat)(n):∀p,sm (λx=>sm (λk=>f x k) n) p=sm (λk=>sm (λx=>f x k) p) n
 | 0=>(yV n).symm
 | p+1=>by
   change sm (λx=>sm (λk=>f x k) n) p+sm (λk=>f p k) n=sm (λk=>sm (λx=>f x k) p+f p k) n
   rw[F1 f n p,yU]
theorem kD(f):∀n,cnt f n=sm (λk=>46#(f k)) n
 | 0=>rfl
 | n+1=>by
   change cnt f n+(46#(f n))=sm (λk=>46#(f k)) n+(46#(f n))
   rw[kD f n]
theorem F2:∀{n},(∀k,k<n->f k<=g k)->sm f n<=sm g n
 | 0,_=>XJ _
 | n+1,h=>by
   have G:=F2 (n:=n) λk R=>h k (by lia)
   have C:=h n (by lia)
   change sm f n+f n<=sm g n+g n
   lia
def Sd(h:∀k,k<n->f k<=g k)(e:sm f n=sm g n):∀k,k<n->f k=g k:=by
 induction n with
 | zero=>show λk R=>absurd R (Y5 _)
 | succ n O =>
   intro k R;have G:=F2 (n:=n) λk R=>h k (by lia)
   have C:=h n (by lia)
   have e:sm f n+f n=sm g n+g n:=e
   by_cases t:k=n
   .subst t
    lia
   .show O (λj o=>h j (by lia)) (by lia) k (by lia)
def Qf(h:∀k,k<n->f k=true->g k=true):cnt f n<=cnt g n:=by
 rw[kD,kD];show F2 λk R=>?_
 by_cases Y:f k=true
 .rw[XI Y,XI (h k R Y)];show XJ _
 .rw[XH Y];show Yo _
def Kx(h:∀k,k<n->f k=true->g k=true)(e:cnt f n=cnt g n):∀k,k<n->g k=true->f k=true:=λk R y=>by
 rw[kD,kD]at e;have q:=Sd (λk R=>by
  by_cases Y:f k=true
  .rw[XI Y,XI (h k R Y)];show XJ _
  .rw[XH Y];show Yo _) e k R
 rw[XI y]at q
 by_cases Y:f k=true
 .show Y
 .rw[XH Y]at q
  lia
theorem tI:∀{n},0<cnt f n->∃k,k<n/\f k=true
 | 0,h=>absurd h (YZ _)
 | n+1,h=>by
   by_cases Y:f n=true
   .show ae n (by omega) Y
   .have h:0<cnt f n+(46#(f n)):=h
    rw[XH Y]at h;show ah (λk R q=>?_) (tI (by omega))
    show ae k (by omega) q
theorem oW(Y:f k=true):∀{n},k<n->0<cnt f n
 | 0,h=>absurd h (Y5 _)
 | n+1,h=>by
   change 0<cnt f n+(46#(f n))
   by_cases R:k=n
   .subst R;rw[XI Y]
    lia
   .have:=oW Y (n:=n) (by lia)
    lia
theorem sd:∀{n},2<=cnt f n->∃c d,c<d/\d<n/\f c=true/\f d=true
 | 0,h=>absurd h (by change ¬ 2<=0;omega)
 | n+1,h=>by
   have h:2<=cnt f n+(46#(f n)):=h
   by_cases Y:f n=true
   .rw[XI Y]at h;show ah (λk R q=>?_) (tI (f:=f) (n:=n) (by omega))
    show aM k n R (by omega) q Y
   .rw[XH Y]at h;show bD (λc d G C l E=>?_) (sd (by omega))
    show aM c d G (by omega) l E
theorem F3(r:f u=true)(a:f v=true)(ne:u≠v):∀{n},u<n->v<n->2<=cnt f n
 | 0,h,_=>absurd h (Y5 _)
 | n+1,G,C=>by
   change 2<=cnt f n+(46#(f n))
   by_cases J:u=n
   .subst J;have:=oW a (n:=u) (by lia)
    rw[XI r]
    lia
   .by_cases D:v=n
    .subst D;have:=oW r (n:=v) (by lia)
     rw[XI a]
     lia
    .have:=F3 r a ne (n:=n) (by lia) (by lia)
     lia
theorem yW(a):∀n,cnt (λx=>decide (a=x)) n=if a<n then 1 else 0
 | 0=>rfl
 | n+1=>by
   change cnt (λx=>decide (a=x)) n+(46#(decide (a=n)))=_
   rw[yW a n]
   by_cases e:a=n
   .subst e;simp
   .have d:(46#(decide (a=n)))=0:=XH (by simpa using e)
    rw[d]
    by_cases h:a<n
    .rw[XI h,XI (by lia)]
    .rw[XH h,XH (by lia)]
theorem tJ:∀{n},(∀x,x<n->¬(f x=true/\g x=true))->cnt (λx=>f x^^g x) n=cnt f n+cnt g n
 | 0,_=>rfl
 | n+1,h=>by
   change cnt (λx=>f x^^g x) n+(if(f n^^g n)=true then 1 else 0)=cnt f n+(46#(f n))+(cnt g n+(46#(g n)))
   rw[tJ λx B=>h x (by lia)]
   have q:=h n (by lia)
   cases Y:f n<;>cases y:g n
   .simp
   .simp
    lia
   .simp
    lia
   .show absurd ⟨Y,y⟩ q
variable {N:Net}
def Net.dg(N:Net)(m x:Nat):Nat:=cnt (λk=>7#0&&N.inc k x) N.n
def OV(m x):N.bd m x=9#(N.dg m x%2=1):=tH _ _
def Nd(e:N.gi m)(B:x<N.p):N.dg m x%2=0:=by
 have h:=e x B;rw[OV]at h;have:=of_decide_eq_false h
 lia
def yX(R:k<N.n):N.inc k x=true↔(N.a k=x\/N.b k=x):=by
 have T:=N.ne k R;unfold Net.inc
 by_cases G:N.a k=x
 .have C : ¬ N.b k=x:=λz=>T (G.trans z.symm)
  simp[G,C]
 .by_cases C:N.b k=x
  .simp[G,C]
  .simp[G,C]
def Nf(R:k<N.n):cnt (N.inc k) N.p=2:=by
 have T:=N.ne k R;have e:cnt (N.inc k) N.p=cnt (λx=>9#(N.a k=x)^^9#(N.b k=x)) N.p:=rfl
 rw[e,tJ λx _ ⟨G,C⟩=>T ((om G).trans (om C).symm),yW,yW,XI (N.al k R),XI (N.bl k R)]
def Qg(m:Nat):sm (λx=>N.dg m x) N.p=2*cnt (λk=>7#0) N.n:=by
 have e:sm (λx=>N.dg m x) N.p=sm (λx=>sm (λk=>if(7#0&&N.inc k x)=true then 1 else 0) N.n) N.p:=jP λx _=>kD _ _
 rw[e,F1,kD];have d:∀n,2*sm (λk=>46#7#0) n=sm (λk=>(46#7#0)+(46#7#0)) n:=λn=>by
  rw[yU]
  lia
 rw[d];show jP λk R=>?_
 by_cases h:7#0=true
 .rw[XI h];have q:=Nf R;rw[kD]at q;show(jP λx _=>by rw[h,ZD]).trans q
 .rw[XH h];have M:7#0=false:=by simpa using h
  have:sm (λx=>if(7#0&&N.inc k x)=true then 1 else 0) N.p=sm (λ_=>0) N.p:=jP λx _=>by rw[M];rfl
  rw[this,yV]
def OX{m k x:Nat}(R:k<N.n)(Z:7#0=true)(B:N.a k=x\/N.b k=x):0<N.dg m x:=oW (by rw[Z,ZD];show(yX R).mpr B) R
def F4(h:0<N.dg m x):∃k,k<N.n/\7#0=true/\(N.a k=x\/N.b k=x):=by
 show ah (λk R q=>?_) (tI h)
 rw[YE]at q;show au k R q.1 ((yX R).mp q.2)
def alone(h:N.dg m x=0)(c:N.kq (λk=>7#0) N.n x y):y=x:=by
 induction c with
 | refl=>rfl
 | fwd _ o W O=>show absurd (OX o W (.inl O)) (by lia)
 | bwd _ o W O=>show absurd (OX o W (.inr O)) (by lia)
def Hy(R:k<=N.n)(c:N.kq S k u v):∃t,(∀j,t.testBit j=true->j<k/\S j=true)/\∀x,N.bd t x=(decide (u=x)^^decide (v=x)):=by
 induction c with
 | refl=>show ae 0 (λj o=>by simp at o) λx=>by rw[oQ];simp
 | fwd _ o W O =>
   rename_i j _
   revert O;show ah λt G C=>?_
   show ae (t^^^2^j) (λi F=>?_) λx=>?_
   .rw[X8,Yi]at F
    by_cases e:j=i
    .subst e;show⟨o,W⟩
    .rw[fW e,ZL]at F;show G i F
   .rw[gM,C,lP (by lia)]
    unfold Net.inc;cases decide (u=x)<;>cases 9#(N.a j=x)<;>cases 9#(N.b j=x)<;>rfl
 | bwd _ o W O =>
   rename_i j _
   revert O;show ah λt G C=>?_
   show ae (t^^^2^j) (λi F=>?_) λx=>?_
   .rw[X8,Yi]at F
    by_cases e:j=i
    .subst e;show⟨o,W⟩
    .rw[fW e,ZL]at F;show G i F
   .rw[gM,C,lP (by lia)]
    unfold Net.inc;cases decide (u=x)<;>cases 9#(N.a j=x)<;>cases 9#(N.b j=x)<;>rfl
def Net.Ring(N:Net)(m:Nat):Prop:=m≠0/\N.gi m/\∀q,(∀k,q.testBit k=true->7#0=true)->N.gi q->q=0\/q=m
def Dv(d:m<2^N.n)(r:N.Ring m):∃v,v<N.n/\m.testBit v=true/\∀k,k<N.n->7#0=true->103#(N.a k)=103#(N.a v):=by
 revert r;show c5 λJ b mn=>?_
 obtain⟨v,a⟩:=Zn J;have w:=fP d a;show au v w a ?_;generalize W:103#(N.a v)=s
 have bit:∀k,(Ring.maskOf (λk=>7#0&&decide (103#(N.a k)=s)) N.n).testBit k=(9#(k<N.n)&&(7#0&&decide (103#(N.a k)=s))):=λk=>Ring.mask_bit _ k _
 have sub:∀k,(Ring.maskOf (λk=>7#0&&decide (103#(N.a k)=s)) N.n).testBit k=true->7#0=true:=λk R=>by
  rw[bit,YE,YE]at R;show R.2.1
 have u:N.gi (Ring.maskOf (λk=>7#0&&decide (103#(N.a k)=s)) N.n):=λx B=>by
  have e:N.bd (Ring.maskOf (λk=>7#0&&decide (103#(N.a k)=s)) N.n) x=(decide (103#x=s)&&N.bd m x):=by
   unfold Net.bd;rw[<-i6];show dD λk R=>?_
   rw[bit,e5 R,ZD];cases Z:7#0 with
   | false=>simp
   | true =>
     cases F:N.inc k x with
     | false=>simp
     | true =>
       have n:103#(N.a k)=103#x:=by
        rcases(yX R).mp F with z|z
        .rw[z]
        .rw[<-z];show jN R Z
       rw[n];simp
  rw[e,b x B,Z0]
 rcases mn _ sub u with q|q
 .have:=bit v;rw[q,a,W,e5 w]at this;simp at this
 .intro k R Z;have h:=bit k;rw[q,Z,e5 R]at h;show om (by simpa using h.symm)
theorem xo(S):∀k,k<=N.n->cnt (N.root S k) N.p+cnt (λj=>S j && ! 9#(N.bK S j (N.a j)=N.bK S j (N.b j))) k=N.p
 | 0,_=>by
   change cnt (N.root S 0) N.p+0=N.p;rw[yQ (f:=N.root S 0) λx _=>e5 rfl]
   rfl
 | k+1,R=>by
   have O:=xo S k (by lia)
   have st:=tw (N:=N) (S:=S) (k:=k) (by lia)
   change cnt (N.root S (k+1)) N.p+(cnt (λj=>S j && ! 9#(N.bK S j (N.a j)=N.bK S j (N.b j))) k+if(S k && ! 9#(N.bK S k (N.a k)=N.bK S k (N.b k)))=true then 1 else 0)=N.p
   lia
def Ky(Y:m<2^N.n)(r:N.Ring m)(C)(O:∀x,x<N.p->C x=decide (103#x=s))
 (A:∀k,k<N.n->7#0=true->C (N.a k)=true):2<=cnt C N.p/\cnt C N.p=cnt (λk=>7#0) N.n/\∀x,x<N.p->C x=false->103#x=x/\∀y,103#y=x->y=x:=by
 revert r;show c5 λJ b mn=>?_
 obtain⟨v,a⟩:=Zn J;have w:=fP Y a;have p:∀k,k<N.n->7#0=true->C (N.a k)=true/\C (N.b k)=true:=λk R Z=>by
  have h:=A k R Z;show⟨h,?_⟩;rw[O _ (N.al k R)]at h
  rwa [O _ (N.bl k R),<-jN R Z]
 have X:=F3 (p v w a).1 (p v w a).2 (N.ne v w) (N.al v w) (N.bl v w);have none:∀x,x<N.p->C x=false->N.dg m x=0:=λx B L=>by
  cases q:N.dg m x with
  | zero=>rfl
  | succ d =>
    exfalso
    show az (λk R Z T=>?_) (F4 (N:=N) (m:=m) (x:=x) (by lia))
    rcases T with e|e
    .have:=(p k R Z).1;rw[e,L]at this;cases this
    .have:=(p k R Z).2;rw[e,L]at this;cases this
 have H:∀x,x<N.p->C x=false->103#x=x/\∀y,103#y=x->y=x:=λx B L=>by
  have q:=none x B L;have c:=alone q (eI _ _ _ (fO _ _).symm);show⟨c,λy W=>alone q (eI _ _ _ (c.trans W.symm))⟩
 show bh X ?_ H;have i:∀x,x<N.p->C x=true->0<N.dg m x:=λx B L=>by
  cases q:N.dg m x with
  | succ d=>lia
  | zero =>
    exfalso
    obtain⟨y,W,g,U⟩:∃y,y<N.p/\C y=true/\y≠x:=by
     show bD (λc d G l E F=>?_) (sd X)
     by_cases e:c=x
     .show au d l F (by lia)
     .show au c (by lia) E e
    rw[O x B]at L;rw[O y W]at g;show U (alone q (eI _ _ _ ((om L).trans (om g).symm)))
 have U:cnt C N.p<=cnt (λk=>7#0) N.n:=by
  have h:sm (λx=>if C x=true then 2 else 0) N.p<=sm (λx=>N.dg m x) N.p:=F2 λx B=>by
   by_cases L:C x=true
   .rw[XI L];have G:=i x B L;have l:=Nd b B
    lia
   .rw[XH L];show Yo _
  rw[Qg]at h;have d:sm (λx=>if C x=true then 2 else 0) N.p=2*cnt C N.p:=by
   rw[kD];have d:∀n,2*sm (λk=>46#(C k)) n=sm (λk=>(46#(C k))+(46#(C k))) n:=λn=>by
    rw[yU]
    lia
   rw[d];show jP λx _=>by split<;>rfl
  lia
 show Nat.le_antisymm U (Nat.le_of_not_lt λQ=>?_)
 have E:=xo (λk=>7#0) N.n (XJ _)
 have P:cnt (N.root (λk=>7#0) N.n) N.p+cnt C N.p=N.p+1:=by
  have t:=(p v w a).1;rw[O _ (N.al v w)]at t;have W:=om t;have j:s<N.p:=by rw[<-W];show r9 (N.al v w)
  have i:103#s=s:=by rw[<-W];show fO _ _
  have e:cnt (N.root (λk=>7#0) N.n) N.p=cnt (λx=>! C x^^decide (s=x)) N.p:=g9 λx B=>by
   unfold Net.root;cases L:C x with
   | false =>
     have T : ¬ s=x:=λz=>by
      have:=O x B;rw[L,<-z,i]at this;simp at this
     rw[e5 (H x B L).1,fW T];rfl
   | true =>
     have h:=O x B;rw[L]at h;have h:=om h.symm;rw[h];simp
  rw[e,tJ λx B ⟨u,I⟩=>by
   have I:=om I;have:=O x B;rw[<-I,i]at this;rw[<-I,this]at u;simp at u,yW,XI j]
  have:=r8 C N.p
  lia
 have split:cnt (λk=>7#0) N.n=cnt (λj=>m.testBit j && ! decide (N.bK (λk=>7#0) j (N.a j)=N.bK (λk=>7#0) j (N.b j))) N.n+cnt (λj=>m.testBit j&&decide (N.bK (λk=>7#0) j (N.a j)=N.bK (λk=>7#0) j (N.b j))) N.n:=by
  rw[<-tJ λx _ ⟨u,I⟩=>by
   rw[YE]at u I;have:=u.2;rw[I.2]at this;cases this]
  show g9 λk _=>?_
  cases 7#0<;>cases decide (N.bK (λk=>7#0) k (N.a k)=N.bK (λk=>7#0) k (N.b k))<;>rfl
 show bD (λc d D I g S=>?_) (sd (f:=λj=>m.testBit j&&decide (N.bK (λk=>7#0) j (N.a j)=N.bK (λk=>7#0) j (N.b j))) (n:=N.n) (by lia))
 have l:∀j,j<N.n->(m.testBit j&&decide (N.bK (λk=>7#0) j (N.a j)=N.bK (λk=>7#0) j (N.b j)))=true->∀i,m.testBit i=true->i<=j:=λj o h i F=>by
  rw[YE]at h;show ah (λt M z=>?_) (Hy (Za o) (eI _ _ _ (om h.2)))
  have n:102#(t^^^2^j)=true:=by
   rw[X8,Yi,e5 rfl];cases q:t.testBit j with
   | false=>rfl
   | true=>show absurd (M j q).1 (YZ _)
  have sub:∀k,(t^^^2^j).testBit k=true->7#0=true:=λk R=>by
   rw[X8,Yi]at R
   by_cases e:j=k
   .subst e;show h.1
   .rw[fW e,ZL]at R;show(M k R).2
  have u:N.gi (t^^^2^j):=λx B=>by
   rw[gM,z,lP o];unfold Net.inc;cases 9#(N.a j=x)<;>cases 9#(N.b j=x)<;>rfl
  rcases mn _ sub u with q|q
  .rw[q]at n;simp at n
  .rw[<-q,X8,Yi]at F
   by_cases e:j=i
   .lia
   .rw[fW e,ZL]at F;show Za (M i F).1
 have G:m.testBit d=true:=by
  rw[YE]at S;show S.1
 have:=l c (by lia) g d G
 lia
end RM
namespace Ring
open PySem L2
def qy(L:Nat->Nat)(p:Nat):List Nat:=(eA L p).filter λs=>9#(1<27#(pieceOf L p s))
def qz(L)(p s):27#(pieceOf L p s)=RM.cnt (λx=>9#(L x=s)) p:=RM.hU _ _
def tK{m n:Nat}(d:m<2^n):27#(aV (m:Int))=RM.cnt (λk=>7#0) n:=by
 rw[eM d];show RM.hU _ _
def Hz(L:c<n)(h:∀k,k<n->f k=decide (k=c)):(16#n).filter f=[c]:=by
 rw[<-nh L];show c! λk R=>h k (Yk.mp R)
theorem F5:∀l c:List Nat,PyData.eqvAll (l.map jE) (c.map jE)=decide (l=c)
 | [],[]=>rfl
 | [],_::_=>rfl
 | _::_,[]=>rfl
 | x::l,y::c=>by
   change((x==(y:Int))&&PyData.eqvAll (l.map jE) (c.map jE))=9#(x::l=y::c);rw[F5 l c,YG];simp
   lia
def HA(l c:List Nat):PyData.eqv (.list (l.map jE)) (.list (c.map jE))=decide (l=c):=F5 l c
def Qh(H:Hp)(y:V)(l:List Nat):Prop:=∃b,y = .ref b/\H b=1#(aI l)
def tL(f:List Nat->Bool)(B:List (List Nat))(H:Hp)(D:Addr)(i:Nat)(I:List V)(O:Hp):Prop:=aj H O/\10#O/\Paired (Qh H) I ((B.take i).filter f)
def tL.start(u:H D=none):tL f B H D 0 [] (86#H):=bh (aj.new u) aa .nil
def tL.len(h:tL f B H D i I O):10#O/\I.length<=i:=⟨h.2.1,by
 rw[h.2.2.length];show XY (Yg _ _) (by rw[Ym];lia)⟩
def tL.yes(h:tL f B H D i I O)(u:H D=none)(S:B[i]?=some l)(Y:f l=true)(W:Qh H y l):10#O/\tL f B H D (i+1) (I++[y]) (η O D 28#(I++[y])):=by
 show f7 h.2.1 (h.1.put u) aa ?_;rw[Yc,S,YM];change Paired _ _ (_++List.filter f [l]);rw[Yr,XI Y];show Paired.snoc h.2.2 W
def tL.no(h:tL f B H D i I O)(S:B[i]?=some l)(Y:f l=false):tL f B H D (i+1) I O:=by
 show bh h.1 h.2.1 ?_;rw[Yc,S,YM];change Paired _ _ (_++List.filter f [l]);rw[Yr,XH (by rw[Y];show XZ)]
 simpa using h.2.2
end Ring
namespace L2
open PySem PySem.Spec PyProof.Rows
section
variable   {A:Around}  {s:Shared}
def Dw(c:s.heap.IsTupleIter D t i)(R:s.heap.IsTuple t k)(B:k[i]?=some x)
 (q:∀h',h'.IsTupleIter D t (i+1)->Heap.SameBut D s.heap h'->Q x { s with heap:=h'}):67#(Builtin.SmallTypes.nextOf (.ref D)):=by
 show az (λo d L j=>?_) (id c)
 revert R;show dI λb a _ r g=>?_
 rw[Builtin.SmallTypes.nextOf];show aW (wpAny_callSpecial?_slot c.typeIs F.slot_tuple_iterator_next (wpAny_call_entry F.slot_tuple_iterator_next c.typeIs F.entry_tuple_iterator_next ?_ (F.args_tuple_iterator_next_1 _)));change wpAny _ _ (field (.ref D) 0 >>= λ_=>_) _ _ s
 show aW (wpAny_field d j rl ?_);rw[XH 21#0]
 show aW (wpAny_field d j rl ?_);show aW (wpAny_seqItems a g ?_);simp only[X3,B];show aW (wpAny_setField d j 21#0 (XN (ae x rl (XN (q _ ?_ (YF ..))))))
 show au _ (YV _ d (ZR (ZN j _))) ((E! ..).trans L) ?_;rw[ZN j];simp[rawInt]
def HB(N:A.handled=none)(c:s.heap.IsTupleIter D t i)(R:s.heap.IsTuple t k)(B:k[i]?=none)
 (q:∀h' e,Heap.ExtBut D s.heap h'->(∃o,h'.get? e=some o/\o.cls = .type "StopIteration")->E (.ref e) { s with heap:=h'}):67#(Builtin.SmallTypes.nextOf (.ref D)):=by
 show az (λo d L j=>?_) (id c)
 revert R;show dI λb a _ r g=>?_
 rw[Builtin.SmallTypes.nextOf];show aW (wpAny_callSpecial?_slot c.typeIs F.slot_tuple_iterator_next (wpAny_call_entry F.slot_tuple_iterator_next c.typeIs F.entry_tuple_iterator_next ?_ (F.args_tuple_iterator_next_1 _)));change wpAny _ _ (field (.ref D) 0 >>= λ_=>_) _ _ s
 show aW (wpAny_field d j rl ?_);rw[XH 21#0]
 show aW (wpAny_field d j rl ?_);show aW (wpAny_seqItems a g ?_);simp only[X3,B];show aW (wpAny_rule (aW (wpAny_setField d j 21#0 ?_)))
 show aW ?_;show aW (wpAny_newObj_type ?_ (by size_fits))
 show aW (wpAny_of_eq (by first | rfl | (simp only[firstArgMember];rfl)) (wpAny_newObj_type ?_ (by size_fits)))
 show wpAny_raiseNew_none N (q _ _ (((YF ..).extBut.push _).push _) (ae _ (X6 _ rl) rl))
def q6(N:A.handled=none)(D t:Addr)(U:t≠D)(k:Array Value):
 Draws prog w A D [D,t] k.size (λi v=>k[i]?=some v) (λi h=>h.IsTupleIter D t i/\h.IsTuple t k) where
 live:=λ_ _ st=>let⟨o,ho,_⟩:=st.1;⟨o,ho⟩
 frame:=λ_ _ _ st R=>⟨st.1.at λo e=>R D 21#0 o e,st.2.at λo e=>R t 21#0 o e⟩
 item:=λi s Q E F st y=>Dw st.1 st.2 (x:=k[i]) (by simp[F]) λM a j=>y _ M s.toks (by simp[F]) ⟨a,st.2.extBut j.extBut U⟩ j
 done:=λs Q E st B=>HB N st.1 st.2 21#0 B
end
open AutoSeq1 (wpAny_loadPart') in
def qA(l)(items)(n)(dct)(sl):
 Meets (Builtin.«enumerate.__new__» ⟨[.type "enumerate",.ref l],[]⟩) (λ_ R s=>s.heap.get? l=some { cls:=.type "tuple",dict:=dct,data:=.seq items n,slots:=sl}/\
  R (.ok (.ret (.ref 36#{ cls:=.type "tuple_iterator",data:=.fields #[.ref l,.int 0 0]})))
    { s with heap:=(s.heap.push { cls:=.type "tuple_iterator",data:=.fields #[.ref l,.int 0 0]}).push { cls:=.type "enumerate",data:=.fields #[.none,.bool false,23#.ref,rawInt 0,.none,.none]}}) :=
 .of_wp λE w A R s h=>by
  obtain⟨t,g,d,D,os⟩:=s;obtain⟨S,h⟩:=h;have f:=sub_enumerate;have a:Heap.IsTuple (Shared.heap ⟨t,g,d,D,os⟩) l items:=ae _ S (b9 rl n rl)
  wp_walk using wpAny_loadPart' S
  show wpAny_stack_any λst=>XN ?_
  split
  .rename_i c _ _ _ _ _
   cases(c==Value.type "enumerate")
   .wp_walk using wpAny_loadPart' S,wpAny_pyIter_tuple a
    show ae _ rl h
   .wp_walk using wpAny_loadPart' S,wpAny_pyIter_tuple a
    show ae _ rl h
  .wp_walk using wpAny_loadPart' S,wpAny_pyIter_tuple a
   show ae _ rl h
section
variable     {s:Shared}
def Dy(a:s.heap.IsTuple l k)
 (h:∀h',IsEnum h' (96#0) s.heap.objs.size 0 .none->h'.IsTupleIter s.heap.objs.size l 0->h'.objs.size=s.heap.objs.size+2->(∀b o,18#o->47#h'.get?)->Q (.ref (96#0)) { s with heap:=h'}) :
 67#(call (.type "enumerate") [.ref l]):=by
 revert a;show dI λU S L n j=>?_;obtain⟨c,p,g,O⟩:=U
 replace L:c = .type "tuple":=L
 replace j:g = .seq k n:=j
 subst L j;show callType_new F.called_enumerate 4#0 (F.typeCall_enumerate_1 _) (F.newCall_enumerate_1 _) (λi=>F.args_object_init_2 i _) F.entry_enumerate_new (qA l k n p O) ⟨S,?_⟩
 have m:36#{ cls:=.type "tuple_iterator",data:=.fields #[.ref l,.int 0 0]}=96#0:=ZZ ..;rw[m];have d:IsEnum ((s.heap.push { cls:=.type "tuple_iterator",data:=.fields #[.ref l,.int 0 0]}).push { cls:=.type "enumerate",data:=.fields #[.none,.bool false,23#.ref,rawInt 0,.none,.none]}) (96#0) s.heap.objs.size 0 .none:=by
  have z:=X6 (s.heap.push { cls:=.type "tuple_iterator",data:=.fields #[.ref l,.int 0 0]}) (o:={ cls:=.type "enumerate",data:=.fields #[.none,.bool false,23#.ref,rawInt 0,.none,.none]}) rfl;rw[m]at z;show z
 show⟨ae _ d rfl,h _ d (au _ (XM _ (X6 _ rl)) rl rl) (by rw[ZZ,m]) λb o x=>XM _ (XM _ x)⟩
end
def HC(K:b7)(a:Addr):It :=
 ⟨λi H=>∃f x,aY K H a f/\f[i]?=some x,λi H v M=>∃T x,v = .ref T/\H T=none/\M=η H T (.tup [.int i,x])/\∀f,aY K H a f->f[i]?=some x,λi H=>∃f,aY K H a f/\f.length=i⟩
def Dz{K}(a e it)(hne:e≠it):
 Turn P w K (.Tuple b k l) (HC K a) [e,it] e (λi h=>(∃J,IsEnum h e it (i:Int) J)/\h.IsTupleIter it a i) where
 mem:=by simp
 obj:=λi h st b Z=>by
  revert st;show rX λf=>az λo F c d=>?_;obtain⟨J,n⟩:=f
  have S:b=e\/b=it:=85#0
  rcases S with rfl|rfl
  .show ae _ n λv z=>by cases z
  .show ae o F λv z=>by rw[d]at z;cases z
 keep:=λi h M st k=>by
  obtain⟨⟨J,n⟩,c⟩:=st;show⟨⟨J,k e 21#0 _ n⟩,c.at λo x=>k it 21#0 o x⟩
 item:=by
  intro X g j Q L i pq s U H E I Y st l;subst g j Q
  revert l;show aR λf x T B=>?_
  show az (λN O p m=>?_) (I.tuple T)
  show ah (λu r ru=>?_) (O.get B)
  obtain⟨⟨J,n⟩,c⟩:=st;have pT:=p;have k:a≠it:=λz=>by
   revert pT;show dI λD G _ _ v=>?_
   revert c;show az λF C _ S=>?_
   rw[z,C]at G;cases G;rw[S]at v;cases v
  have q:e∉[it,a]:=λz=>by
   have y:e=it\/e=a:=by simpa using z
   rcases y with y|y
   .show hne y
   .revert pT;show dI λD G _ _ v=>?_
    rw[<-y,n]at G;cases G;cases v
  show wpAny_pyNext_enum_itemD (q6 (A:=X.A.in1) (I.ok.hd L) it a k N.toArray) n ⟨c,pT⟩ (by have:=(jc.mp r).1;simpa using this) hne q λy G D W F P7 d t R=>?_
  have q:y=u:=by
   have z:N.toArray[i]?=some u:=by simpa using r
   rw[W]at z;show 13#z
  subst q;show ae _ rl (wpAny_letOwnedTupleGo_enum F λC WC v=>?_)
  have r:=Zb (XX n);have u:=(v.2 _ r).trans d;show cL (23#.ref) (η H s.heap.objs.size (.tup [.int i,x])) (I.yields (λb o Z q=>?_) Y (XJ _) ?_) rl (aM _ x rl I.fresh rl (λt W=>by rw[I.wL W T];show B)) ⟨⟨y,by simpa using WC⟩,?_⟩ λb Z=>?_
  .have d:b≠e:=λz=>Z (by simp[z])
   have S:b≠it:=λz=>Z (by simp[z])
   show(v.2 b d).trans (R b o d S q)
  .show bX (dl rl) [.int i D,y] (.cons 110#0 (.cons ru .nil)) (ae _ u (b9 rl _ rl))
  .show P7.1.at λo q=>(v.2 it (Yy hne)).trans q
  .rw[aq]
   .show(Y b Z).1
   .have S:b=e\/b=it:=85#0
    rcases S with rfl|rfl
    .show Yy r
    .revert c;show ah λo q _=>?_
     show Yj (XX q)
 done:=by
  intro X g j Q L i pq s U H E I Y st l;subst g j Q
  revert l;show ah λf T B=>?_
  show az (λN O p m=>?_) (I.tuple T)
  obtain⟨⟨J,n⟩,c⟩:=st;have pT:=p;have k:a≠it:=λz=>by
   revert pT;show dI λD G _ _ v=>?_
   revert c;show az λF C _ S=>?_
   rw[z,C]at G;cases G;rw[S]at v;cases v
  show eO (λG R r d v C=>?_) (Y it 21#0)
  have S:=O.length;have F:i=N.toArray.size:=by rw[X9];lia
  subst F;show wpAny_pyNext_enum_endD (q6 (A:=X.A.in1) (I.ok.hd L) it a k N.toArray) n ⟨c,pT⟩ λM q=>25#(I.turned (λb o Z e=>q b o Z e) G R d v C)
 self:=λ_ _ _ _ _ st h=>by
  obtain⟨⟨J,n⟩,_⟩:=st;show wpAny_pyIter_enum n h
section
variable {X:Cx}{elts:List Expr}{n:Nat}{tp:Pos}
def Qi(K:b7)(z:TA):TI:=λU H R=>z U H λY N=>∃a,Y=[.ref a]/\(∃f,aY K N a f)/\R (HC K a) N
def oX(K:b7){a:Expr}{z:TA}{p l:Pos}(y:Gl X "enumerate")(d:X.mg "enumerate"=none)(C:PA X [a] z)(W:12#([a])=[29#a]:=by rfl)(Q:X.K=K:=by rfl):
 PI X (.Tuple elts n tp) (.Call (.Name "enumerate" p) [a] [] l) (Qi K z):=by
 subst Q;intro A s U H R I h;show Call_ (jy I y d boot_enumerate (Zk (dW (C l A s U H _ I h) λg w=>aA λY N J B P=>?_) W rl))
 revert P;show az λa e t q=>?_;obtain⟨f,T⟩:=t
 subst e;cases B with
 | cons r F =>
   cases F;cases r;show az (λu O D m=>?_) (J.tuple T)
   show Dy (D) λM j c x o=>?_
   have k:θ X A U N { w with heap:=M}:=J.kept (t':=w.toks) o
   show wpAny_pyIter_enum j (dU _ [w.heap.objs.size+1,w.heap.objs.size] _ (aQ _ N rl k (Dz a _ _ (e! _)) ⟨⟨_,j⟩,c⟩ (λb Z=>?_) q))
   have v:b=w.heap.objs.size+1\/b=w.heap.objs.size:=85#0
   have i:w.heap.objs.size<=b:=by
    rcases v with rfl|rfl
    .show Y6 _
    .show XJ _
   show J.vA i (J.hok.fresh i)
end
section
variable {K:b7}  {xs:List V}     {fr:St}
def DA(d:94#(List V))(J:d 0 [] N)(S:∀i I H,i<=xs.length->d i I H->aY K H a xs/\10#H/\I.length<=i)(hz:33#xs.length)
 (W:∀i x T I H,xs[i]?=some x->d i I H->H T=none->g (.ref T) (65#n++fr) (η H T (.tup [.int i,x])) λk O=>k.drop n=fr/\h k O λb X =>
  if b=true then f k X λv c=>10#c/\d (i+1) (I++[v]) (η c D 28#(I++[v])) else d (i+1) I X)
 (j:∀I H,d xs.length I H->Q H):gJ (HC K a) g h f n fr D Q N:=by
 show ae (λi m I H=>m=xs.length-i/\i<=xs.length/\d i I H) (au xs.length 21#0 (Yo _) J) ?_
 intro i m I H;show c5 λr F p=>?_;subst r
 show c5 (λq u C=>?_) (S i I H F p)
 show⟨u,?_⟩
 by_cases Z:i<xs.length
 .show .inr (bj (bf xs (xs[i]) q (by simp[Z])) (by lia) (d (i+1)) (λo M R=>cS (xs.length-(i+1)) (by lia) rl Z R) (λv M y=>?_))
  revert y;show bD λT x e t l y=>?_;subst e l
  show W i x T I _ (y xs q) p t
 .have e:i=xs.length:=by lia
  subst e;show .inl ⟨ae xs q rfl,j I H p⟩
end
end L2
namespace RM
variable {N:Net}
def Net.cut(N:Net)(C:Nat->Bool):Nat:=Ring.maskOf (λk=>C (N.a k)^^C (N.b k)) N.n
def Net.par(N:Net)(q m:Nat):Bool:=dX (λk=>q.testBit k&&7#0) N.n
def mL(q r m):N.par (q^^^r) m=(N.par q m^^N.par r m):=by
 unfold Net.par;rw[<-i5];show dD λk _=>?_
 rw[X8];cases q.testBit k<;>cases r.testBit k<;>cases 7#0<;>rfl
def oY(m):N.par 0 m=false:=g7 λk _=>by simp
def F6(h:k<N.n)(m:Nat):N.par (2^k) m=7#0:=by
 unfold Net.par;rw[oO h λj _ o=>by simp[Yi,Yy o]]
 simp[Yi]
def se(C)(k):(N.cut C).testBit k=(9#(k<N.n)&&(C (N.a k)^^C (N.b k))):=Ring.mask_bit _ k _
def Qj(C):N.cut C<2^N.n:=Ring.mask_lt _ _
def HD(h:∀x,x<N.p->C x=D x):N.cut C=N.cut D:=by
 show YR λk=>?_
 rw[se,se]
 by_cases R:k<N.n
 .rw[h _ (N.al k R),h _ (N.bl k R)]
 .rw[fW R];rfl
def Nh(e:N.gi q)(C:Nat->Bool):N.par q (N.cut C)=false:=by
 have h:N.par q (N.cut C)=dX (λx=>C x&&N.bd q x) N.p:=by
  have J:dX (λx=>C x&&N.bd q x) N.p=dX (λx=>dX (λk=>C x&&(q.testBit k&&N.inc k x)) N.n) N.p:=dD λx _=>(i6 _ _ _).symm
  rw[J,qv];unfold Net.par;show dD λk R=>?_
  rw[se,e5 R,ZD];have D:dX (λx=>C x&&(q.testBit k&&N.inc k x)) N.p=(q.testBit k&&(C (N.a k)^^C (N.b k))):=by
   have E:∀x,(C x&&(q.testBit k&&N.inc k x))=((q.testBit k&&(C x&&9#(N.a k=x)))^^(q.testBit k&&(C x&&9#(N.b k=x)))):=λx=>by
    unfold Net.inc;cases C x<;>cases q.testBit k<;>cases 9#(N.a k=x)<;>cases 9#(N.b k=x)<;>rfl
   rw[dD λx _=>E x,i5,i6,i6,g8 C (N.al k R),g8 C (N.bl k R)]
   cases q.testBit k<;>rfl
  show D.symm
 rw[h];show g7 λx B=>by rw[e x B,Z0]
def AK(R:k<N.n)(Y:N.gY k=true):N.ring k=0:=iK (λj o=>by
 rcases lR o with e|e
 .subst e;show⟨R,Y⟩
 .show e) (mK R)
def HE(k):(m^^^N.cut λx=>N.par (N.trail N.n x) m).testBit k=if k<N.n then N.par (N.ring k) m else 7#0:=by
 rw[X8,se]
 by_cases R:k<N.n
 .rw[XI R,e5 R,ZD];unfold Net.ring;rw[mL,mL,F6 R];cases 7#0<;>cases N.par (N.trail N.n (N.a k)) m<;>cases N.par (N.trail N.n (N.b k)) m<;>rfl
 .rw[XH R,fW R];simp
def AL(d:m<2^N.n)(h:(m^^^N.cut λx=>N.par (N.trail N.n x) m).testBit k=true):k<N.n/\N.gY k=false/\N.par (N.ring k) m=true:=by
 rw[HE]at h
 by_cases R:k<N.n
 .rw[XI R]at h;show bh R ?_ h;cases Y:N.gY k with
  | false=>rfl
  | true =>
    rw[AK R Y,oY]at h;cases h
 .rw[XH R]at h;show absurd (fP d h) R
end RM
namespace Ring
def orM(Z:List Nat):Nat:=Z.foldl (λm k=>m ||| 2^k) 0
def Kz(Z:List Nat)(j):∀m,102#(Z.foldl (λm k=>m ||| 2^k) m)=(m.testBit j || 9#(j∈Z)):=by
 induction Z with
 | nil=>intro m;simp
 | cons k r O =>
   intro m;rw[Ω,O,Nat.testBit_or,Yi]
   by_cases h:k=j
   .subst h;simp
   .have M : ¬ j=k:=λz=>h z.symm
    simp[h,M]
def jm(ks)(j):102#(orM ks)=9#(j∈ks):=by
 unfold orM;rw[Kz];simp
def AM(ks)(h:t∉ks):orM (ks++[t])=orM ks^^^2^t:=YR λj=>by
 rw[X8,jm,jm,Yi]
 by_cases e:t=j
 .subst e;simp[h]
 .have T : ¬ j=t:=λz=>e z.symm
  simp[e,T]
def DB(f)(n):orM ((16#n).filter f)=maskOf f n:=YR λj=>by
 rw[jm,mask_bit,YG];simp
def yY(h:∀k∈Z,k<n):orM Z<2^n:=RM.fH λk R=>by
 rw[jm]at R;show h k (om R)
end Ring
namespace RM
variable {N:Net}
inductive Net.Walk(N:Net):List Nat->Nat->List Nat->Prop
 | one {v:Nat}:Net.Walk N [] v []
 | snoc {pre ks:List Nat} {v w t:Nat} (h:Net.Walk N pre v ks) (ht:t<N.n) (hn:t∉ks) (j:(N.a t=v/\N.b t=w)\/(N.b t=v/\N.a t=w)):Net.Walk N (pre++[v]) w (ks++[t])
def Net.Walk.len(h:N.Walk W v Z):W.length=Z.length:=by
 induction h with
 | one=>rfl
 | snoc _ _ _ _ O=>rw[XR,XR,O];rfl
def Net.Walk.lt(h:N.Walk c v Z):∀t∈Z,t<N.n:=by
 induction h with
 | one=>show λt R=>nomatch R
 | snoc _ R _ _ O =>
   intro s W;rcases Ye.mp W with q|q
   .show O s q
   .have e:=XU.mp q
    rwa [e]
def Net.Walk.bd{W Z:List Nat}{v:Nat}(h:N.Walk W v Z):∀i u,(W++[v])[i]?=some u->∀x,N.bd (Ring.orM (Z.drop i)) x=(decide (u=x)^^decide (v=x)):=by
 induction h with
 | one =>
   rename_i v
   intro i u r x
   match i,r with
   | 0,r =>
     have e:=13#r;subst e;change N.bd 0 x=_;rw[oQ];simp
   | i+1,r=>simp at r
 | snoc f R g j O =>
   rename_i W Z v w t
   intro i u r x;have S:=f.len
   by_cases F:i<27#(W++[v])
   .rw[Yx F]at r;have B:i<=Z.length:=by rw[XR]at F;simp at F;lia
    rw[List.drop_append_of_le_length B,Ring.AM _ (λz=>g (w! z)),gM,O i u r x,lP R]
    have e:N.inc t x=(decide (v=x)^^decide (w=x)):=by
     unfold Net.inc;rcases j with⟨d,c⟩|⟨d,c⟩
     .rw[d,c]
     .rw[d,c];show Bool.xor_comm _ _
    rw[e];cases decide (u=x)<;>cases decide (v=x)<;>cases decide (w=x)<;>rfl
   .have k:i=27#(W++[v]):=by
     have:=(jc.mp r).1;rw[XR]at this;simp at this F ⊢
     lia
    rw[k,YB (XJ _),n!]at r;have e:=13#r;subst e;have:(Z++[t]).drop i=[]:=List.drop_eq_nil_of_le (by rw[k,XR,XR];simp;lia)
    rw[this];change N.bd 0 x=_;rw[oQ];simp
structure Way(N:Net)(eW:Nat)(pre:List Nat)(v:Nat)(ks:List Nat)(left:Nat):Prop where
 w:N.Walk pre v ks
 lt:eW<2^N.n
 ev:N.gi eW
 sub:∀t∈ks,eW.testBit t=true
 yZ:left=eW^^^Ring.orM ks
 nd:pre.Nodup
 Ur:∀x∈pre++[v],x<N.p
 st:pre=[]->∃t,t<N.n/\eW.testBit t=true/\N.a t=v
section
variable {eW left v:Nat}{pre ks:List Nat}
def Way.start(J:eW<2^N.n)(b:N.gi eW)(Z:eW.testBit t=true):Way N eW [] (N.a t) [] eW:=by
 have R:=fP J Z;show⟨.one,J,b,(λ_ z=>nomatch z),?_,List.Pairwise.nil,λx B=>?_,λ_=>au t R Z rfl⟩
 .change eW=eW^^^0;simp
 .have e:x=N.a t:=by simpa using B
  rw[e];show N.al t R
def Way.tM(h:Way N eW pre v ks left)(t):left.testBit t=(eW.testBit t && ! 9#(t∈ks)):=by
 rw[h.yZ,X8,Ring.jm]
 by_cases d:t∈ks
 .rw[h.sub t d,e5 d];rfl
 .rw[fW d];simp
def Way.y9(h:Way N eW pre v ks left):left<2^N.n:=fH λk R=>by
 rw[h.tM,YE]at R;show fP h.lt R.1
def Way.on(h:Way N eW pre v ks left)(a:v∉pre):∃t,left.testBit t=true/\(N.a t=v\/N.b t=v):=by
 cases pre with
 | nil =>
   show az (λt b Z e=>?_) (h.st rl)
   have R:=List.length_eq_zero_iff.mp (by rw[<-h.w.len];rfl)
   show ae t ?_ (.inl e);rw[h.tM,Z,R];simp
 | cons u r =>
   have Z:=h.w.bd 0 u rl v;rw[L!]at Z;have d : ¬ u=v:=λz=>a (by rw[z];show X0)
   rw[fW d,e5 rfl]at Z;have c:=h.Ur v (iX _ (XU.mpr rl));have S:N.bd left v=true:=by
    rw[h.yZ,gM,h.ev v c,Z];rfl
   rw[OV]at S;have e:=om S;show az (λk R b B=>?_) (F4 (N:=N) (m:=left) (x:=v) (by lia))
   show ae k b B
def Way.go(h:Way N eW pre v ks left)(a:v∉pre){t w}(Z:left.testBit t=true)(j:(N.a t=v/\N.b t=w)\/(N.b t=v/\N.a t=w)):
 Way N eW (pre++[v]) w (ks++[t]) (left^^^2^t):=by
 rw[h.tM,YE]at Z;have g:t∉ks:=by simpa using Z.2
 have R:=fP h.lt Z.1;show⟨.snoc h.w R g j,h.lt,h.ev,λs W=>?_,?_,?_,λx B=>?_,λz=>?_⟩
 .rcases Ye.mp W with q|q
  .show h.sub s q
  .rw[XU.mp q];show Z.1
 .rw[Ring.AM _ g,h.yZ,Y9]
 .show F!.mpr (bh h.nd 21#0 (λx B y b=>?_))
  have e:y=v:=by simpa using b
  rw[e];show λz=>a (z▸B)
 .rcases Ye.mp B with q|q
  .show h.Ur x q
  .have e:x=w:=by simpa using q
   rw[e];rcases j with⟨_,c⟩|⟨_,c⟩
   .rw[<-c];show N.bl t R
   .rw[<-c];show N.al t R
 .simp at z
def Way.closes(h:Way N eW pre v ks left)(F:pre[i]?=some v):Ring.orM (ks.drop i)≠0/\N.gi (Ring.orM (ks.drop i))/\Ring.orM (ks.drop i)<2^N.n/\∀k,(Ring.orM (ks.drop i)).testBit k=true->eW.testBit k=true:=by
 have t:=(jc.mp F).1;have S:=h.w.len;have a:∀k,(Ring.orM (ks.drop i)).testBit k=true->k∈ks:=λk R=>by
  rw[Ring.jm]at R;show w! (om R)
 show f7 (λz=>?_) (λx _=>?_) (fH λk R=>h.w.lt k (a k R)) λk R=>h.sub k (a k R)
 .have U:ks.drop i≠[]:=λq=>by
   have:=List.drop_eq_nil_iff.mp q
   lia
  obtain⟨k,R⟩:=List.exists_mem_of_ne_nil _ U;have:=Ring.jm (ks.drop i) k;rw[z,e5 R]at this;simp at this
 .rw[h.w.bd i v (by rw[Yx t];show F) x]
  simp
def Way.few(h:Way N eW pre v ks left)(a:v∉pre):pre.length+1<=N.p:=by
 have i:(pre++[v]).Nodup:=F!.mpr (bh h.nd 21#0 (λx B y W z=>by
  have e:y=v:=by simpa using W
  rw[<-e,<-z]at a;show a B))
 have:=Kw i h.Ur;rw[XR]at this
 simpa using this
end
end RM
namespace Ring
open PySem L2
def F7{p:Nat}{J:List cU}{g:ay p J}(d:m<48#0):9#((aV 19#(q&&&m)).length%2=1)=g.N.par q m:=by
 rw[tK (o? q d)];unfold RM.Net.par;rw[RM.tH];have e:RM.cnt (λk=>(q&&&m).testBit k) J.length=RM.cnt (λk=>q.testBit k&&7#0) g.N.n:=RM.g9 λk _=>by rw[Nat.testBit_and]
 rw[e]
def xorL(rs:List Nat):Nat:=rs.foldl (λm r=>m^^^r) 0
def HF(rs:List Nat):∀m,rs.foldl (λm r=>m^^^r) m=m^^^xorL rs:=by
 induction rs with
 | nil=>intro m;change m=m^^^0;simp
 | cons r rs O =>
   intro m;change rs.foldl (λm r=>m^^^r) (m^^^r)=m^^^rs.foldl (λm r=>m^^^r) (0^^^r)
   rw[O,O,Zp,Y9]
def xorL_cons(rs)(r):xorL (r::rs)=r^^^xorL rs:=by
 change rs.foldl (λm r=>m^^^r) (0^^^r)=_
 rw[HF,Zp]
theorem OY:∀{l:List Nat} {i j:Nat} {v},l.Nodup->l[i]?=some v->l[j]?=some v->i=j
 | [],_,_,_,_,h,_=>by simp at h
 | x::r,0,0,_,_,_,_=>rfl
 | x::r,0,j+1,v,nd,h,h'=>by
   have e:x=v:=by simpa using h
   subst e;show absurd (fC (by simpa using h')) (YK.mp nd).1
 | x::r,i+1,0,v,nd,h,h'=>by
   have e:x=v:=by simpa using h'
   subst e;show absurd (fC (by simpa using h)) (YK.mp nd).1
 | x::r,i+1,j+1,v,nd,h,h'=>by
   have:=OY (YK.mp nd).2 (by simpa using h) (by simpa using h')
   lia
def sf(l)(v:Nat):vC (aI (l++[v])) (-1)=some (.int v):=by
 unfold vC Jr;have S:27#(aI (l++[v]))=l.length+1:=by rw[aF,XR];rfl
 rw[XH 4#0,S,XI (by lia)]
 have e:((-1:Int)+19#(l.length+1)).toNat=l.length:=by lia
 rw[e];show kC (by rw[YB (XJ _)];simp)
def DC(l:List Nat)(v:Nat):(aI l).countP (λz=>FJ z (.int v))=l.count v:=by
 unfold aI;rw[List.countP_map,List.count];show List.countP_congr λx _=>?_
 change((((x:Nat):Int)==(v:Int))=true)↔_;rw[Z',Z']
 lia
def HG(l:List Nat)(v):9#(V.int 19#((l++[v]).count v)=V.int 1)=9#(v∉l):=YN.mpr (by
 rw[List.count_append];have:List.count v [v]=1:=by simp
 rw[this]
 constructor
 .intro z;have:=V.int.inj z;show List.count_eq_zero.mp (by lia)
 .intro z;rw[List.count_eq_zero.mpr z];rfl)
def AN(l:List Nat)(h:i<=l.length):gw (aI l) (some (i:Int)) none=aI (l.drop i):=by
 unfold gw;rw[HT.kh,HT.lJ,aF,Zc h];unfold aI;rw[<-List.map_drop,<-List.map_take,Ze (by rw[ZE];lia)]
def KA{l:List Nat}(h:v∈l)(b:l.Nodup):∃i:Nat,l[i]?=some v/\∀m z,(aI (l++[v]))[m]?=some z->m<=i->FJ z (.int v)=decide (m=i):=by
 obtain⟨i,F⟩:=Zd h;show ae i F λm z a d=>?_
 have t:=(jc.mp F).1;show ah (λk R y=>?_) (cD a);subst y
 rw[Yx (by lia)]at R
 change(((k:Nat):Int)==(v:Int))=decide (m=i);rw[YG,Z',decide_eq_true_eq]
 constructor
 .intro e;have e:k=v:=by lia
  subst e;show OY b R F
 .rintro rfl;rw[F]at R;rw[13#R]
end Ring
namespace L2
open PySem PySem.Spec PyProof.Rows
section
variable {κ:Type}[DecidableEq κ]
def fJ(J:List (κ×V))(k:κ):Option V:=(J.find? λR=>9#(R.1=k)).map (·.2)
def putK(J:List (κ×V))(k:κ)(v:V):List (κ×V) :=
 if(J.any λR=>9#(R.1=k))=true then J.map (λR=>if R.1=k then(R.1,v) else R) else J++[(k,v)]
def fD(J:List (κ×V))(k:κ):List (κ×V):=J.filter λR=>9#(R.1≠k)
def tN:fJ ([]:List (κ×V)) k=none:=rfl
def ef{p:κ×V}(e:p.1=k):fJ (p::r) k=some p.2:=by simp[fJ,Zv,e]
def dY{p:κ×V}(e : ¬ p.1=k):fJ (p::r) k=fJ r k:=by simp[fJ,Zv,e]
theorem iB(k):∀J:List (κ×V),(J.any λR=>9#(R.1=k))=(fJ J k).isSome
 | []=>rfl
 | p::r=>by
   rw[k!]
   by_cases e:p.1=k
   .simp only[ef e,e5 e,Bool.true_or,Option.isSome_some]
   .rw[dY e,fW e,Bool.false_or];show iB k r
theorem AO(k j)(y):∀J:List (κ×V),fJ (J.map λR=>if R.1=k then(R.1,y) else R) j=(fJ J j).map λx=>if j=k then y else x
 | []=>rfl
 | p::r=>by
   have O:=AO k j y r;rw[Yd]
   by_cases h:p.1=k
   .rw[XI h]
    by_cases e:p.1=j
    .rw[ef (p:=(p.1,y)) e,ef e,ZQ,XI (e.symm.trans h)]
    .rw[dY (p:=(p.1,y)) e,dY e,O]
   .rw[XH h]
    by_cases e:p.1=j
    .rw[ef e,ef e,ZQ,XH (λz=>h (e.trans z))]
    .rw[dY e,dY e,O]
theorem xq(k j)(y):∀J:List (κ×V),fJ J k=none->fJ (J++[(k,y)]) j=if j=k then some y else fJ J j
 | [],_=>by
   by_cases e:k=j
   .rw[XI e.symm];show ef e
   .rw[XH (λz=>e z.symm)];show dY e
 | p::r,hn=>by
   rw[List.cons_append];have R : ¬ p.1=k:=λz=>by rw[ef z]at hn;cases hn
   rw[dY R]at hn;have O:=xq k j y r hn
   by_cases e:p.1=j
   .rw[ef e,ef e,XH (λz=>R (e.trans z))]
   .rw[dY e,dY e,O]
def KC(J:List (κ×V))(k j)(y):fJ (putK J k y) j=if j=k then some y else fJ J j:=by
 unfold putK
 by_cases a:(J.any λR=>9#(R.1=k))=true
 .rw[XI a,AO];rw[iB]at a
  by_cases e:j=k
  .obtain⟨x,B⟩:=Option.isSome_iff_exists.mp a;rw[XI e,e,B,ZQ,XI rfl]
  .rw[XH e];cases fJ J j with
   | none=>rfl
   | some x=>rw[ZQ,XH e]
 .rw[XH a];show xq k j y J ?_;rw[iB]at a;cases q:fJ J k with
  | none=>rfl
  | some x=>rw[q]at a;show(a rl).elim
def q7(J:List (κ×V))(k)(v):27#(putK J k v)<=J.length+1:=by
 unfold putK
 split
 .rw[XG];lia
 .rw[XR,X7,ZO];lia
def AQ{J:List (κ×V)}(v)(h:fJ J k=none):putK J k v=J++[(k,v)]:=by
 unfold putK;rw[iB,h];show XH 4#0
def oq.HH(r:oq o u):o.isSome=u.isSome:=by
 cases o with
 | none=>cases u with
   | none=>rfl
   | some _=>show(r).elim
 | some _=>cases u with
   | none=>show(r).elim
   | some _=>rfl
def oq.getD(r:oq o u)(c:ο d U):ο (o.getD d) (u.getD U):=by
 cases o with
 | none=>cases u with
   | none=>show c
   | some _=>show(r).elim
 | some _=>cases u with
   | none=>show(r).elim
   | some _=>show r
def KV.val(r:KV J Y)(k:κ):oq (fJ J k) (valueAt Y k):=by
 induction r with
 | nil=>show True.intro
 | @cons p q i m h t O =>
   obtain⟨G,C⟩:=h
   by_cases e:p.1=k
   .have T:=G.symm.trans e;have b:valueAt (q::m) k=some q.2:=by simp[valueAt,Zv,T]
    rw[ef e,b];show C
   .have T : ¬ q.1=k:=λz=>e (G.trans z)
    have b:valueAt (q::m) k=valueAt m k:=by simp[valueAt,Zv,T]
    rw[dY e,b];show O
def KV.any(r:KV J Y)(k:κ):(J.any λR=>9#(R.1=k))=Y.any λR=>9#(R.1=k):=by
 induction r with
 | nil=>rfl
 | cons h t O=>rw[k!,k!,O,h.1]
def KV.repl(r:KV J Y)(k:κ)(L:ο y u):
 KV (J.map λR=>if R.1=k then(R.1,y) else R) (Y.map λR=>if R.1=k then(R.1,u) else R):=by
 induction r with
 | nil=>show .nil
 | @cons p q i m h t O =>
   rw[Yd,Yd];show .cons ?_ O;obtain⟨G,C⟩:=h
   by_cases e:p.1=k
   .rw[XI e,XI (G.symm.trans e)];show⟨G,L⟩
   .rw[XH e,XH (λz=>e (G.trans z))];show⟨G,C⟩
def KV.put(r:KV J Y)(k:κ)(L:ο y u):KV (putK J k y) (stored Y k u):=by
 unfold putK stored;rw[r.any k]
 by_cases e:(Y.any λR=>9#(R.1=k))=true
 .rw[XI e,XI e];show r.repl k L
 .rw[XH e,XH e];show Paired.snoc r ⟨rfl,L⟩
def KV.length{J:List (κ×V)}(r:KV J Y):J.length=Y.length:=Paired.length r
def KD(J:List (κ×V))(k):27#(fD J k)<=J.length:=Yg _ _
end
def F8(r:ο (kV k) u):(e8 P w).is k u=true:=by
 cases k with
 | inl i=>obtain⟨t,e⟩:=(r);subst e;show Ai P w i t
 | inr x=>obtain⟨t,e⟩:=(r);subst e;show Aj P w x t
theorem xr:∀{ks} {us},ξ (ks.map kV) us->ItemsAre (e8 P w) ks us
 | [],_,r=>by rw[List.map_nil]at r;cases r;show .nil
 | k::ks,_,r=>by
   rw[Yd]at r;cases r with
   | cons h t=>show .cons (F8 h) (xr t)
abbrev KT(H:Hp):List (List Key×V)->List (List Key×Addr×Value)->Prop:=Paired λp q=>p.1=q.1/\H q.2.1=17#(p.1.map kV)/\ο p.2 q.2.2
def KT.val(r:KT H J xs)(k):oq (fJ J k) ((atKey xs k).map (·.2)):=by
 induction r with
 | nil=>show True.intro
 | @cons p q i m h t O =>
   revert h;show c5 λG _ C=>?_
   by_cases e:p.1=k
   .have T:=G.symm.trans e;have b:atKey (q::m) k=some q.2:=by simp[atKey,Zv,T]
    rw[ef e,b];show C
   .have T : ¬ q.1=k:=λz=>e (G.trans z)
    have b:atKey (q::m) k=atKey m k:=by simp[atKey,Zv,T]
    rw[dY e,b];show O
def KT.repl(r:KT H J xs)(k)(L:ο y u):
 KT H (J.map λR=>if R.1=k then(R.1,y) else R) (xs.map (putAt k u)):=by
 induction r with
 | nil=>show .nil
 | @cons p q i m h t O =>
   rw[Yd,Yd];show .cons ?_ O
   revert h;show c5 λG C l=>?_
   unfold putAt
   by_cases e:p.1=k
   .rw[XI e,XI (G.symm.trans e)];show bh G C L
   .rw[XH e,XH (λz=>e (G.trans z))];show bh G C l
def KT.put(r:KT H J xs)(k:List Key)(Z:H b=17#(k.map kV))(L:ο y u):
 KT H (putK J k y) (storedH xs k b u):=by
 have e:(J.any λR=>9#(R.1=k))=(atKey xs k).isSome:=by
  rw[iB,(r.val k).HH,Option.isSome_map]
 unfold putK storedH;rw[e]
 by_cases q:(atKey xs k).isSome=true
 .rw[XI q,XI q];show r.repl k L
 .rw[XH q,XH q];show Paired.snoc r (bh rl Z L)
def KT.keeps(r:KT H J xs)(R:∀b ys,H b=17#ys->M b=17#ys):KT M J xs :=
 Paired.Ak r λ_ _ z=>bh z.1 (R _ _ z.2.1) z.2.2
def OZ(B:lC P w H h)(e:Rd H a u):dO P w H h a u:=e.ok B
def AR(B:lC P w H h)(e:Rd H a (.dK J)):33#J.length/\(a==sysModules)=false/\∃Y,KV J Y/\h.DictOf (e8 P w) a Y :=
 show dO P w H h a (.dK J) from OZ B e
def Se(B:lC P w H h)(e:H a=some (.dK J)):33#J.length/\(a==sysModules)=false/\∃Y,KV J Y/\h.DictOf (e8 P w) a Y:=AR B (.inl e)
def qB{Z:List Key}(B:lC P w H h)(e:H a=17#(Z.map kV)):(tupleKind (e8 P w)).is h Z a:=by
 show bE (λ_ N r=>dI λo G C n l=>?_) (B a _ e)
 show⟨o,(aM N.toArray n G C l (by simpa using xr r))⟩
def AS(b:lC P w H h)(e:Rd H a (.dT J)):33#J.length/\(a==sysModules)=false/\
 ∃xs,KT H J xs/\h.DictOfH (tupleKind (e8 P w)) a xs:=by
 show bL (λz y xs r=>bV λo W N G C c E F=>?_) (OZ b e)
 show bj z y xs r ⟨o,(aQ W N G C c E (λx B=>?_) F)⟩
 have all:∀{l:List (List Key×V)} {m:List (List Key×Addr×Value)},KT H l m->∀x∈m,(tupleKind (e8 P w)).is h x.1 x.2.1:=by
  intro l m q
  induction q with
  | nil=>intro x B;show nomatch B
  | @cons p q i d T t O =>
    intro x B;rcases XS.mp B with e|B
    .subst e;show qB b (by rw[<-T.1];show T.2.1)
    .show O x B
 show all r x B
def KG(B:lC P w H h)(e:H a=some (.dT J)):33#J.length/\(a==sysModules)=false/\
 ∃xs,KT H J xs/\h.DictOfH (tupleKind (e8 P w)) a xs:=AS B (.inl e)
def KH(H:Hp)(a:Addr)(y:V)(r:Option V):Prop :=
 (∃J k,Rd H a (.dK J)/\y=kV k/\r=fJ J k)\/∃J k b,Rd H a (.dT J)/\y = .ref b/\H b=17#(k.map kV)/\r=fJ J k
def KI(H:Hp)(a:Addr)(y v:V)(M:Hp):Prop :=
 (∃J k,H a=some (.dK J)/\y=kV k/\J.length<sizeLine/\M=η H a (.dK (putK J k v)))\/
 ∃J k b,H a=some (.dT J)/\y = .ref b/\H b=17#(k.map kV)/\J.length<sizeLine/\M=η H a (.dT (putK J k v))
def KI.t{k:List Key}(e:H a=some (.dT J))(q:H b=17#(k.map kV))(S:J.length<sizeLine):
 KI H a (.ref b) v (η H a (.dT (putK J k v))):=.inr (bS J k b e rl q S rl)
section
variable  {pq:cM}{σ:St}       {A:Around}
def θ.big(I:5#H):sysModules<s.heap.objs.size:=by
 have h:=(I.mod.glob.keeps I.bk).lt;show Zy 4#0 h
def HJ(r:A.units+1<cLine)(I:5#H)(g:KH H a y (some v))(L:ο y u)(h:∀C G,θ X pq σ H G->ο v C->Q C G):
 wpAny 8#0 A (getItem (.ref a) u) Q E s:=by
 rcases g with⟨J,k,e,B,l⟩|⟨J,k,b,e,B,q,l⟩
 .subst B;show bL (λz j Y n i=>?_) (AR I.hok e)
  show ah (λC c Z=>?_) (oq.some_of (by rw[l];show n.val k))
  show wpAny_getItem_of (F8 L) i.mapOf c (h C _ (I.tok _) Z)
 .subst B;cases(L);show bL (λz j f n i=>?_) (AS I.hok e)
  show ah (λC c Z=>?_) (oq.some_of (by rw[l];show n.val k))
  show ah (λp t O=>?_) (m3.mp c)
  show wpAny_getItem_heap (tupleKind_room_in1 r) (qB I.hok q) i t ?_;rw[O];show h C _ (I.tok _) Z
def oZ(I:5#H)(g:Rx (H a))(W:Heap.SameBut a s.heap h')(n:∃q,h'.get? a=some q)(Q:dO X.prog X.w (η H a ob) h' a ob):
 θ X pq σ (η H a ob) { s with heap:=h',toks:=t'} :=
 I.write g (.inl rl) (λb q Z z=>(W.2 b Z).trans z) n Q
def Qk{h' : Heap}{J:List (Key×V)}(z:33#J.length)(j:(a==sysModules)=false)(n:KV J Y)(i:h'.DictOf (e8 P w) a Y):
 dO P w M h' a (.dK J):=bj z j Y n i
def HK(U:A.units+1<cLine)(I:5#H)(g:KI H a y v M)(L:ο y u)(O:ο v r)(h:∀G,θ X pq σ M G->Q () G):
 wpAny 8#0 A (setItem (.ref a) u r) Q E s:=by
 rcases g with⟨J,k,e,B,l,p⟩|⟨J,k,b,e,B,x,l,p⟩
 .subst B p;show bL (λz j Y w i=>?_) (Se I.hok e)
  have m:33#Y.length:=by rw[<-w.length];show z
  have S:33#27#(putK J k v):=119#(q7 J k v)
  show wpAny_setItem_pairs (F8 L) i λD o W=>h _ ?_
  have n:∃q,D.get? a=some q:=let⟨q,_,_,T,_⟩:=o;⟨q,T⟩;show oZ I (by rw[e];show True.intro) W n (Qk S j (w.put k O) o)
 .subst B p;cases(L);show bL (λz j f w i=>?_) (KG I.hok e)
  have m:33#f.length:=by rw[<-Paired.length w];show z
  have S:33#27#(putK J k v):=119#(q7 J k v)
  show wpAny_setItem_heap (tupleKind_room_in1 U) (qB I.hok x) i λD o W=>h _ ?_
  revert o;show eR λq n N=>eO λT C P R _ F=>?_
  show oZ I (by rw[e];show True.intro) W ⟨q,T⟩ (bj S j _ ((w.put k x O).keeps λc t d=>?_) (bS q n N T C P R F))
  rwa [aq (cC d e (λz=>nomatch z))]
end
def Ni(i:Expr):Prop:=∀d R,subscripted i false d R=operate [d,R] (getItem d R)
def za{T id}
 (S:typeLookup (.type T) "__getitem__"=pure (some (.builtin id))) (W:Ni k)
 (h:wpAny 22#w A (eval e env) (λo B=>wpAny 22#w A (eval k env) (λi q=>q.TypeIs o T/\wpAny 22#w A (getItem o i) Q E q) E B) E s) :
 67#(eval (.Subscript e k l) env):=by
 show Subscript_ (Yn h (λo B g=>Yn g (λi q f=>?_) λ_ _ x=>x) λ_ _ x=>x)
 obtain⟨t,f⟩:=f;show aW ?_;rw[getitemInPython_of_ne t.not_modules];show aW (wpAny_specialOf t S ?_);have a:wpAny 22#w A (subscripted k false o i) (λr b=>wpAny 22#w A (letTemporaryGo e o r >>= λ_=>pure r) Q E b) E q:=by
  rw[W o i];show wpAny_operating (Yn f (λr b j=>aW (wpAny_letTemporaryGo (XN j))) λ_ _ x=>x)
 first
  | show XN (aW a)
  | show aW (XN (aW a))
  | show aW a
def AU{A:cM}{U:St}(I:θ X A U H s)(g:KH H a y o):s.TypeIs (.ref a) "dict":=by
 rcases g with⟨J,k,e,_,_⟩|⟨J,k,b,e,_,_,_⟩
 .show bL (λ_ _ Y _ i=>?_) (AR I.hok e)
  show i.typeIs
 .show bL (λ_ _ f _ i=>?_) (AS I.hok e)
  show i.typeIs
def Sf(p l:TE):TE:=λU H Q=>p U H λx N=>l U N λy O=>∃a v,x = .ref a/\KH O a y (some v)/\Q v O
def Sg(p l m:TE):TS:=λD U H=>m U H λv N=>p U N λx O=>l U O λy X=>∃a c,x = .ref a/\KI X a y v c/\D.nx U c
section
variable {X:Cx}  {pos pos' tpos:Pos}
def Nj(r:X.A.units+1<cLine)(b:PE X o p)(F:PE X i l)(W:Ni i):PE X (.Subscript o i pos) (Sf p l):=by
 show 63;show za S!.lookup W (dW 37#b λu w=>aA λx N J c P=>?_)
 show dW (F A w U N _ J P) λR M=>aA λy O Y L=>aA λa v q g E=>?_
 subst q;obtain rfl:u=Value.ref a:=c;show⟨AU Y g,HJ r Y g L λC k j Z=>ao v O j Z E⟩
def Nk(d:X.A.units+1<cLine)(b:PE X o p)(F:PE X i l)(f:PE X e m)(W:swapsWith e (some (.Subscript o i pos')) pos.line X.env=pure false):
 PS X (.Assign [.Subscript o i pos'] e pos) (Sg p l m):=by
 intro A s U H D I h;show wpAny_Assign_Subscript (dW 37#f λr w=>aA λv N J n P=>dW (b A w U N _ J P) λu M=>aA λx O Y t E=>dW (F A M U O _ Y E) λR k=>aA λy B j L=>aA λa c q g T=>?_) W
 subst q;obtain rfl:u=Value.ref a:=t;show HK d j g L n λG z=>bf U c z T
end
def KJ(h:Heap)(Z:sysModules<h.objs.size):dO P w H (h.push { cls:=.type "dict",data:=.dict #[]}) h.objs.size (.dT []) :=
 (bj (Yo _) (beq_eq_false_iff_ne.mpr (Yy (Yj Z))) [] .nil (bS _ (#[]) 0 (X6 _ rl) (bh rl rl rl) rl rl J'))
structure M1(X:Cx)(o:Expr)(m:Str)(apos:Pos)(e:Expr)(cpos:Pos):Prop where
 base:attributeBase o m X.env (eval o X.env)=eval o X.env
 few:((backTo cpos (12#([e]))).all (λx=>! x.1)&&(backToKw cpos (keywordEach [] X.env)).all (λx=>x.1.isSome)
  && 9#(([e]:List Expr).length+([]:List Keyword).length+(if([]:List Keyword).isEmpty then 0 else 1)<30))=true
 line:(apos.endLine==cpos.line)=true
 trees:backTo cpos (12#([e]))=[29#e]
structure M2(X:Cx)(o:Expr)(m:Str)(apos:Pos)(e f:Expr)(cpos:Pos):Prop where
 base:attributeBase o m X.env (eval o X.env)=eval o X.env
 few:((backTo cpos (12#([e,f]))).all (λx=>! x.1)&&(backToKw cpos (keywordEach [] X.env)).all (λx=>x.1.isSome)
  && 9#(([e,f]:List Expr).length+([]:List Keyword).length+(if([]:List Keyword).isEmpty then 0 else 1)<30))=true
 line:(apos.endLine==cpos.line)=true
 trees:backTo cpos (12#([e,f]))=[29#e,29#f]
def Us(H:Hp)(a:Addr):Prop:=(∃J,Rd H a (.dK J))\/∃J,Rd H a (.dT J)
def KL{A:cM}{U:St}(I:θ X A U H s)(d:Us H a):
 s.TypeIs (.ref a) "dict"/\(∀b,Value.ref a = .ref b->∃ob,18#ob/\ob.dict=none)/\(a==sysModules)=false:=by
 rcases d with⟨J,e⟩|⟨J,e⟩
 .show bL (λ_ j Y _ i=>?_) (AR I.hok e)
  show bh i.typeIs (λb q=>?_) j
  cases q
  revert i;show cy λob _ _ G C _=>?_
  show ae ob G C.2.1
 .show bL (λ_ j f _ i=>?_) (AS I.hok e)
  show bh i.typeIs (λb q=>?_) j
  cases q
  revert i;show cy λob _ _ G C _=>?_
  show ae ob G C.2.1
section
variable  {pq:cM}{σ:St}       {A:Around}
def Ql(m:A.units+1<cLine)(I:5#H)(g:KH H a y o)(L:ο y u)(c:ο d r)(h:∀C G,θ X pq σ H G->ο (o.getD d) C->Q C G):
 wpAny 8#0 A (call (.builtin "dict.get") [.ref a,u,r]) Q E s:=by
 rcases g with⟨J,k,e,B,l⟩|⟨J,k,b,e,B,q,l⟩
 .subst B;show bL (λz j Y n i=>?_) (AR I.hok e)
  show call_meetsIn g? i.typeIs PySem.F.entry_dict_get (PySem.F.args_dict_get_3 _ _ _) (meets_dict_get_default (e8 X.prog X.w) a (F8 L) j r) (ae _ i.mapOf (h _ _ (I.tok _) ?_));rw[l];show(n.val k).getD c
 .subst B;cases(L);show bL (λz j f n i=>?_) (AS I.hok e)
  show call_meetsIn g? i.typeIs PySem.F.entry_dict_get (PySem.F.args_dict_get_3 _ _ _) (meetsH_dict_get_default (tupleKind (e8 X.prog X.w)) a b j r) ⟨tupleKind_room_in1 m,(ao k f (qB I.hok q) i (h _ _ (I.tok _) ?_))⟩;rw[l];show(n.val k).getD c
end
def Qm(p l S:TE):TE:=λU H Q=>p U H λx N=>∃a,x = .ref a/\Us N a/\l U N λy O=>S U O λz X=>∃o,KH X a y o/\Q (o.getD z) X
section
variable {X:Cx}
def KN(r:X.A.units+1<cLine)(F:PE X o p)(n:PE X e l)(Y:PE X f S)(m:M2 X o "get" t e f i):PE X (.Call (.Attribute o "get" t) [e,f] [] i) (Qm p l S):=by
 show 63;show wpAny_Call_method m.base m.few m.line PySem.F.plainAttrs_dict g? PySem.F.type_dict_get (dW 37#F λu w=>aA λx N J c=>az λa q d P=>?_)
 subst q;obtain rfl:u=Value.ref a:=c;show c5 (λa B _=>?_) (KL J d)
 show bh a B ?_;rw[m.trees];show Calls.callWith_builtin rl (Calls.evalArgs_plain (Calls.spliced_cons (dW (n A w U N _ J P) λR M=>aA λy O W L E=>
  Calls.spliced_cons (dW (Y A M U O _ W E) λv k=>aR λz D j=>bE λb C g T=>Calls.spliced_nil ?_))))
 show Ql r j g L b λC G z Z=>ao _ D z Z T
end
section
variable {κ:Type}[DecidableEq κ]
def KO{J:List (κ×V)}(h:fJ J k=none): ¬ k∈J.map (·.1):=by
 intro m;show ah (λp t e=>?_) (XT.mp m)
 have q:(J.any λR=>9#(R.1=k))=true:=u?.mpr (ae p t (e5 e))
 rw[iB,h]at q;show absurd q 21#0
def Nl{J:List (κ×V)}(h:fJ J k=some v):k∈J.map (·.1):=by
 have q:(J.any λR=>9#(R.1=k))=true:=by
  rw[iB,h]
  all_goals rfl
 show ah (λp t e=>?_) (u?.mp q)
 show XT.mpr (ae p t (om e))
theorem F9:∀{l} {k:κ},l.Nodup->¬ k∈l->(l++[k]).Nodup
 | [],k,_,_=>by simp
 | a::r,k,h,hk=>by
   obtain⟨G,C⟩:=YK.mp h;show YK.mpr ⟨λm=>?_,F9 C λm=>hk (XS.mpr (Or.inr m))⟩
   rcases Ye.mp m with q|q
   .show G q
   .show hk (XS.mpr (Or.inl (XU.mp q).symm))
def Nm{J:List (κ×V)}(v)(g:(J.map (·.1)).Nodup)(h:fJ J k=none):((putK J k v).map (·.1)).Nodup:=by
 rw[AQ v h,X5];show F9 g (KO h)
def xu{p:κ×V}(e:p.1=k):fD (p::r) k=fD r k:=by
 unfold fD;rw[Yr,XH (by simp[e])]
def xw{p:κ×V}(e : ¬ p.1=k):fD (p::r) k=p::fD r k:=by
 unfold fD;rw[Yr,XI (by simp[e])]
def xx{J:List (κ×V)}(h:p∈fD J k):p∈J:=(Yz.mp h).1
theorem tO:∀{kvs} {k:κ},(kvs.map (·.1)).Nodup->((fD kvs k).map (·.1)).Nodup
 | [],_,_=>J'
 | p::r,k,h=>by
   have h:=h;obtain⟨G,C⟩:=YK.mp h
   by_cases e:p.1=k
   .rw[xu e];show tO C
   .rw[xw e];show YK.mpr ⟨λm=>G ?_,tO C⟩
    show ah (λq T a=>?_) (XT.mp m)
    show XT.mpr (ae q (xx T) a)
end
section
variable {X:Cx}
def Nn(Z:oj { X with xe:=40#0} b tb):PS X (.Try b (c::W) [] [] l) tb:=by
 intro A s U H D I h;show wpAny_Try_except ?_;have a:θ { X with xe:=40#0} A U H s:=I.vF rl I.ok.hd λp t=>t
 have m:∀{P M G},θ { X with xe:=40#0} A P M G->θ X A P M G:=λ{P M G} J=>J.vF rl J.ok.hd λp t=>t
 show Yn (Z A s U H D a h) (λf w q=>?_) λ_ _ z=>z.elim
 cases f with
 | next =>
   revert q;show aR λP M J q=>?_
   show wpAny_execs_nil (bf P M (m J) q)
 | brk =>
   revert q;show aR λP M J q=>?_
   show bf P M (m J) q
 | cont =>
   revert q;show aR λP M J q=>?_
   show bf P M (m J) q
 | ret u =>
   revert q;show cy λv P M J r q=>?_
   show⟨v,(ao P M (m J) r q)⟩
end
def KP:jz X (binaryOp .FloorDiv) (rI (λ_ j=>j≠0/\j.natAbs<2^1000) λi j=>.int (i.fdiv j)):=OO λi j _ _ _ _ _ L q=>by
 show floordiv_int L.1 q (.inl ?_);have J:j.natAbs≠0:=119#L.1
 have h:=(Θ J).mpr L.2;show PyProof.noPylong_of_log2 (by lia)
def DE{x d q:Int}(j:d≠0)(h:x=d*q):x.fdiv d=q:=by
 rw[h,Int.fdiv_eq_ediv_of_dvd ⟨q,rfl⟩];show U! q j
end L2
namespace Ring
open PySem L2
def ent(rs:List (List Int))(i j:Nat):Int:=(rs.getD i []).getD j 0
structure Tab(n:Nat)(rs:List (List Int)):Prop where
 len:rs.length=n
 row:∀r∈rs,r.length=n
def Ga(H:Hp)(x:V)(r:List Int):Prop:=∃b,x = .ref b/\H b=1#(aK r)
def TabAt(H:Hp)(t:Addr)(rs:List (List Int)):Prop:=∃a,H t=some (.lst a)/\Paired (Ga H) a rs
def gB(l:List Int):(aK l).length=l.length:=by unfold aK;rw[XG]
def DF(l)(k):aK (l++[k])=aK l++[.int k]:=by unfold aK;rw[X5];rfl
def tP(h:(aK l)[i]?=some x):i<l.length/\x = .int (l.getD i 0):=by
 unfold aK at h;rw[XQ]at h;show ah (λk e q=>?_) (m3.mp h)
 have F:=(jc.mp e).1;show⟨F,?_⟩;rw[XO,e];show q.symm
theorem kE{F:m->c->Prop}{x}{y}(h:F x y):∀{l} {r} i,Paired F l r->Paired F (l.set i x) (r.set i y)
 | _,_,_,.nil=>.nil
 | _,_,0,.cons _ t=>.cons h t
 | _,_,i+1,.cons a t=>.cons a (kE h i t)
def DG{rs:List (List Int)}(h:i<rs.length):rs[i]?=some (rs.getD i []):=by
 rw[XO];simp[h]
def o4{rs:List (List Int)}(C:a<rs.length)(r:List Int)(i j:Nat):ent (rs.set a r) i j=if i=a then r.getD j 0 else ent rs i j:=by
 unfold ent
 by_cases h:i=a
 .subst h;rw[XI rfl,XO (l:=rs.set i r),ZM C];rfl
 .rw[XH h,XO (l:=rs.set a r),ZW (Yy h),<-XO]
def Tab.set(T:Tab n rs)(a:Nat){r:List Int}(h:r.length=n):Tab n (rs.set a r):=by
 show⟨by rw[ZP,T.len],λx B=>?_⟩
 rcases List.mem_or_eq_of_mem_set B with z|z
 .show T.row x z
 .rw[z,h]
def Tab.DH(T:Tab n rs)(h:i<n):27#(rs.getD i [])=n :=
 T.row _ (fC (DG (by rw[T.len];show h)))
def TabAt.get(pr:Paired (Ga H) ys rs)(T:Tab n rs)(h:i<n):∃b,ys[i]?=some (.ref b)/\H b=1#(aK (rs.getD i [])):=by
 have W:i<ys.length:=by rw[pr.length,T.len];show h
 show eu (λr=>bE λP b e Z=>?_) (Paired.lA pr (i:=i) (x:=ys[i]) (by simp[W]))
 rw[DG (by rw[T.len];show h)]at P
 cases P;show ae b (by rw[<-e];simp[W]) Z
def kF(R:Addr)(H:Hp)(x:V)(r:List Int):Prop:=∃b,x = .ref b/\b≠R/\H b=1#(aK r)
def kF.same(s:aj H M)(h:kF R H x r):kF R M x r:=by
 revert h;show az λb e n h=>?_
 show au b e n (s _ _ h)
def kF.put(h:kF R H x r):kF R (η H R o) x r:=by
 revert h;show az λb e n h=>?_
 show au b e n (by rw[aq n];show h)
def kF.is(h:kF R H x r):Ga H x r:=by
 revert h;show az λb e n h=>?_
 show ae b e h
def kF.get(pr:Paired (kF R H) ys rs)(T:Tab n rs)(h:i<n):∃b,ys[i]?=some (.ref b)/\b≠R/\H b=1#(aK (rs.getD i [])):=by
 have W:i<ys.length:=by rw[pr.length,T.len];show h
 show ah (λr P=>az λb e f Z=>?_) (Paired.lA pr (i:=i) (x:=ys[i]) (by simp[W]))
 rw[DG (by rw[T.len];show h)]at P
 cases P;show au b (by rw[<-e];simp[W]) f Z
def dh(n:Nat)(f:Nat->Int):List Int:=(16#n).map f
def cP(n)(f):27#(dh n f)=n:=by unfold dh;rw[XG,Yh]
def HM(f)(h:j<n):(dh n f).getD j 0=f j:=by
 unfold dh;rw[XO,XQ,Zw h];rfl
def AV(f:Nat->Int)(H:Hp)(D:Addr)(i:Nat)(I:List V)(O:Hp):Prop:=aj H O/\10#O/\I=aK (dh i f)
def AV.start(u:H D=none):AV f H D 0 [] (86#H):=bh (aj.new u) aa rfl
def AV.len(p:AV f H D i I O):10#O/\I.length<=i:=by
 show⟨p.2.1,?_⟩;rw[p.2.2,gB,cP];show XJ _
def AV.next(p:AV f H D i I O)(u:H D=none)(s:aj O X)(a:v = .int (f i)):10#X/\AV f H D (i+1) (I++[v]) (η X D 28#(I++[v])):=by
 show f7 (s _ _ p.2.1) ((p.1.trans s).put u) aa ?_;rw[a,p.2.2];unfold dh;rw[Zh,X5];change _=aK (_++[f i]);rw[DF]
theorem tQ{K}:∀l:List Int,DatVs K H (aK l) (l.map PyData.int)
 | []=>.nil
 | _::r=>.cons (.int _) (tQ r)
def lT(D:Addr)(t H:Hp)(x:V)(r:List Int):Prop:=∃b,x = .ref b/\b≠D/\t b=none/\H b=1#(aK r)
def lT.same(s:aj H M)(h:lT D t H x r):lT D t M x r:=by
 revert h;show d8 λb e n z h=>?_
 show cS b e n z (s _ _ h)
def lT.put(h:lT D t H x r):lT D t (η H D o) x r:=by
 revert h;show d8 λb e n z h=>?_
 show cS b e n z (by rw[aq n];show h)
def lT.is(h:lT D t H x r):Ga H x r:=by
 revert h;show d8 λb e _ _ h=>?_
 show ae b e h
end Ring
namespace L2
open PySem PySem.Spec PyProof.Rows
def qC{K:b7}{xs:List V}{g:TG}{tb:TS}{D:Ends}(d:94#St)(J:d 0 U H)(S:∀i U H,i<=xs.length->d i U H->aY K H a xs)
 (b:∀i x T U H,xs[i]?=some x->d i U H->H T=none->g (.ref T) U (η H T (.tup [.int i,x])) λk O=>tb { D with nx:=d (i+1),ct:=d (i+1),bk:=D.nx} k O) (j:∀U H,d xs.length U H->D.nx U H) :
 ∃W:Nat->94#St,(∃m,W 0 m U H)/\∀i m U H,W i m U H->
   ((HC K a).stop i H/\D.nx U H)\/((HC K a).go i H/\∃N:St->Hp->Prop,(∀P M,N P M->∃B,B<m/\W (i+1) B P M)/\∀x M,(HC K a).G3 i H x M->g x U M λk O=>tb { D with nx:=N,ct:=N,bk:=D.nx} k O):=by
 show ae (λi m U H=>m=xs.length-i/\i<=xs.length/\d i U H) (au xs.length 21#0 (Yo _) J) ?_
 intro i m U H;show c5 λc F p=>?_;subst c
 have q:=S i U H F p
 by_cases Z:i<xs.length
 .show .inr (bX (bf xs (xs[i]) q (by simp[Z])) (d (i+1)) (λP M R=>cS (xs.length-(i+1)) (by lia) rl Z R) (λv M y=>?_))
  revert y;show bD λT x f t C z=>?_;subst f C
  show b i x T U _ (z xs q) p t
 .have e:i=xs.length:=by lia
  subst e;show .inl ⟨ae xs q rfl,j U H p⟩
end L2
namespace Ring
open PySem L2
def oV:Option Int->V
 | none=>.fg
 | some i=>.int i
end Ring
namespace RM
variable {N:Net}
def Net.Qn(N:Net)(t v:Nat):Nat:=if N.a t=v then N.b t else N.a t
def Net.nW(N:Net)(left v:Nat):List Nat:=(16#N.n).filter λt=>left.testBit t&&(9#(N.a t=v) || 9#(N.b t=v))
def nX:t∈N.nW left v↔t<N.n/\left.testBit t=true/\(N.a t=v\/N.b t=v):=by
 unfold Net.nW;rw[Yz,Yk,YE,Bool.or_eq_true,decide_eq_true_eq,decide_eq_true_eq]
def KQ(h:N.a t=v\/N.b t=v):(N.a t=v/\N.b t=N.Qn t v)\/(N.b t=v/\N.a t=N.Qn t v):=by
 unfold Net.Qn
 by_cases e:N.a t=v
 .rw[XI e];show .inl ⟨e,rfl⟩
 .rw[XH e];rcases h with h|h
  .show absurd h e
  .show .inr ⟨h,rfl⟩
end RM
namespace Ring
open PySem L2
def kG{p:Nat}{J:List cU}{g:ay p J}(l:Paired (TupAt H) xs J)(R:k<J.length):∃c,xs[k]?=some (.ref c)/\H c=17#([.int 19#(g.N.a k),.int 19#(g.N.b k),.int (dG J k).2.2]):=by
 have n:k<xs.length:=by rw[l.length];show R
 show eu (λt=>bE λa c L w=>?_) (Paired.lA l (i:=k) (x:=xs[k]) (by simp[n]))
 have r:t=dG J k:=by
  have z:=qw R;rw[a]at z;show 13#z
 show ae c (by rw[<-L];simp[n]) ?_
 rw[w,<-FW R,<-FY R,r];rfl
def o5{m:Type}(f:m->Int)(l:List m)(H:Hp)(D:Addr)(i:Nat)(I:List V)(O:Hp):Prop:=aj H O/\10#O/\I=((l.take i).map f).map V.int
section
variable {α:Type}{f:α->Int}{l:List α}{H H2 H3:Hp}{D:Addr}{i:Nat}{k:α}{acc:List V}{v:V}
def o5.start(u:H D=none):o5 f l H D 0 [] (86#H):=bh (aj.new u) aa rfl
def o5.len(p:o5 f l H D i acc H2):H2 D=1#acc/\acc.length<=i:=by
 show⟨p.2.1,?_⟩;rw[p.2.2,XG,XG,Ym]
 lia
def o5.next(p:o5 f l H D i acc H2)(u:H D=none)(s:aj H2 H3)(R:l[i]?=some k)(a:v = .int (f k)):H3 D=1#acc/\o5 f l H D (i+1) (acc++[v]) (η H3 D 28#(acc++[v])):=by
 show f7 (s _ _ p.2.1) ((p.1.trans s).put u) aa ?_;rw[Yc,R,X5,X5,<-p.2.2,a];rfl
def o5.fin(p:o5 f l H D l.length acc H2):H2 D=1#((l.map f).map V.int):=by rw[p.2.1,p.2.2,Yb]
end
def Qo{row:List Int}(h:t<n)(S:row.length=n):(aK row)[t]?=44#(row.getD t 0):=by
 unfold aK;rw[XQ,XO,XW (by lia)]
 rfl
end Ring
namespace RM
variable {N:Net}{row:Nat->Int}
def KR(N:Net)(row:Nat->Int)(r:Int)(z:Nat->Int):Prop:=∀k,k<N.n->r ∣ z (N.b k)-z (N.a k)-row k
end RM
namespace Ring
open PySem L2
def cK(row:List Int):Nat->Int:=λk=>row.getD k 0
def iC(B:x<p):(dh p f).getD x 0=f x:=by
 unfold dh;rw[XO,XQ,Zw B];rfl
def int_at{l:List Int}(h:i<l.length):(aK l)[i]?=44#(l.getD i 0):=Qo h rfl
def AW(n:Int):9#(V.int n=V.int 0)=9#((0:Int) ∣ n):=YN.mpr ⟨λz=>by rw[V.int.inj z];show⟨0,rfl⟩,λz=>by rw[Zq.mp z]⟩
def f6(N:RM.Net)(row:Nat->Int)(r:Int)(z:Nat->Int)(n:Nat):List Nat:=(16#n).filter λk=>! 9#(r ∣ z (N.b k)-z (N.a k)-row k)
def xy:f6 N row r z N.n=[]↔RM.KR N row r z:=by
 unfold f6;rw[q!]
 constructor
 .intro h k R;have:=h k (Yk.mpr R);cases e:9#(r ∣ z (N.b k)-z (N.a k)-row k) with
  | true=>show om e
  | false=>rw[e]at this;show absurd rl this
 .intro h k R;rw[e5 (h k (Yk.mp R))];show XZ
def DI(N:RM.Net)(row:Nat->Int)(r:Int)(z:Nat->Int)(n:Nat):f6 N row r z (n+1)=f6 N row r z n++if 9#(r ∣ z (N.b n)-z (N.a n)-row n)=true then[] else[n]:=by
 unfold f6;rw[Zh,YM]
 congr 1
 rw[Yr];cases 9#(r ∣ z (N.b n)-z (N.a n)-row n)<;>rfl
def KS(l:List Int)(lo F:Option Int):∃c,gw (aK l) lo F=aK c/\c.length<=l.length:=by
 unfold gw aK;rw[<-List.map_drop,<-List.map_take];show ae _ rl (XY (List.length_take_le' _ _) (by rw[ZE];lia))
end Ring
namespace L2
open PySem
def nY{lo}{g:TG}{tb:TS}{D:Ends}(d:94#St)(J:d 0 U H)
 (a:∀i,let f:Ends:={ D with nx:=d (i+1),ct:=d (i+1),bk:=D.nx};∀U H,i<n->d i U H->g (.int (lo+i)) U H λk O=>tb f k O) (j:∀U H,d n U H->D.nx U H) :
 ∃W:Nat->94#St,(∃m,W 0 m U H)/\∀i m U H,W i m U H->
   ((Jz lo n).stop i H/\D.nx U H)\/((Jz lo n).go i H/\∃N:St->Hp->Prop,(∀P M,N P M->∃B,B<m/\W (i+1) B P M)/\∀x M,(Jz lo n).G3 i H x M->g x U M λk O=>tb { D with nx:=N,ct:=N,bk:=D.nx} k O) :=
 iP d J (λi U H F p=>a i U H F p) j
def fQ{K:b7}{xs:List V}{g:TG}{tb:TS}{D:Ends}(d:94#St)(J:d 0 U H)(S:∀i U H,i<=xs.length->d i U H->aH K H a xs)
 (b:∀i x,let f:Ends:={ D with nx:=d (i+1),ct:=d (i+1),bk:=D.nx};∀U H,xs[i]?=some x->d i U H->g x U H λk O=>tb f k O) (j:∀U H,d xs.length U H->D.nx U H) :
 ∃W:Nat->94#St,(∃m,W 0 m U H)/\∀i m U H,W i m U H->
   ((Jp K a).stop i H/\D.nx U H)\/((Jp K a).go i H/\∃N:St->Hp->Prop,(∀P M,N P M->∃B,B<m/\W (i+1) B P M)/\∀x M,(Jp K a).G3 i H x M->g x U M λk O=>tb { D with nx:=N,ct:=N,bk:=D.nx} k O) :=
 oB d J S (λi x U H F p=>b i x U H F p) j
def k6{X:Cx}{e:Expr}{T:String}{r:V->90#(List V)}{l:TE}{t:TA}(K:b7)(p:PE X e (T6 X.K T r l t))(h:X.K=K:=by rfl):PE X e (T6 K T r l t):=by subst h;show p
def cR{K}{R:V->Prop}(W:aY K H a xs)(C:vC xs k=some v)(q:R v):∃p ys b w,V.ref a = .ref p/\V.int k = .int b/\aY K H p ys/\vC ys b=some w/\R w:=bO a xs k v rl rl W C q
def eH{K}{R:V->Prop}(W:aH K H a xs)(C:vC xs k=some v)(q:R v):∃p ys b w,V.ref a = .ref p/\V.int k = .int b/\aH K H p ys/\vC ys b=some w/\R w:=bO a xs k v rl rl W C q
def cE{R:Int->Int->Prop}(h:R i j):∃b m,V.int i = .int b/\V.int j = .int m/\R b m:=ao i j rl rl h
def k7{K}{E:Addr->Prop}{R:List V->Prop}(e:E a)(h:aH K H a xs\/aY K H a xs)(q:R xs):∃p ys,E p/\(aH K H p ys\/aY K H p ys)/\R ys:=ao a xs e h q
def ai{m:Type}{A R:m->Prop}{x}(h:A x)(r:R x):∃x,A x/\R x:=ae x h r
open PySem PySem.Spec PyProof.Rows
structure Np(K:b7)(x qual:Str)(st:Stmt)(f:Addr)(fd:FuncData)(ds:62#0):Prop where
 ex:∃(oc:Value) (od:114#0) (kV doc pm:Value) (an:114#0) (cdv ct:Value) (osl:Array (Option Value)) (T:Addr) (oT:Value) (WD:114#0) (nT:Nat) (MX:Array (Option Value)),
  fd=PySem.W.fnOf x qual (dZ st) (cg st) (aP st) (.ref T) kV doc pm an cdv ct/\K.lookup f=some ⟨oc,od,.func fd,osl⟩/\PySem.W.codeIn K cdv qual=true/\K.lookup T=some ⟨oT,WD,.seq ds.toArray nT,MX⟩
 kp:55#K
section
variable {P:Program}{w:World}{K:b7}{mg:vy}{base:Heap}
def Np.ok{st:Stmt}(F:Np K x B st f fd ds)(S:ez N i (aP st))(len:∀Y H Q E,sp Y H Q E->Y.length=i.length)
 (z:∀d A outer s H Y Q E,eB k (112#B)->sp Y H Q E->
  ∃t,oj (m4 qg P w K mg base N B (aP st) f d A outer s H E).Jx (cg st) t/\t { nx:=λ_ M=>Q .fg M,rt:=Q} (start N Y) H):je P w K mg base qg (k+1) f fd i sp:=by
 show eR (λl m kV=>qh λc X C d=>jd λW n T b o=>bD λp MX U u D _=>?_) F.ex;subst U
 show FD u D S len λA outer s H Y Q E a j=>?_
 show ah (λt h q=>?_) (z d A outer s H Y Q E a j)
 show ae t h.Jx q
def Nq{st:Stmt}{n MX:Array (Option Value)}{kV c X d ct:Value}{ds:62#0}(l:K.lookup f=some ⟨oc,m,.func (PySem.W.fnOf x B (dZ st) (cg st) (aP st) (.ref T) kV c X C d ct),n⟩)
 (L:PySem.W.codeIn K d B=true) (R:55#K) (a:K.lookup T=some ⟨k,o,.seq ds.toArray p,MX⟩):Np K x B st f (PySem.W.fnOf x B (dZ st) (cg st) (aP st) (.ref T) kV c X C d ct) ds :=
 ⟨jw _ _ _ _ (jw _ _ _ _ (jw _ _ _ _ (aM _ _ rl l L a))),R⟩
end
end L2
namespace RM
variable {N:Net}{row:Nat->Int}
def fz(N:Net)(row:Nat->Int):Nat->Nat->Int
 | 0=>λ_=>0
 | j+1=>λx=>if N.gY j=true then
    (if N.cJ j x=max (N.cJ j (N.a j)) (N.cJ j (N.b j)) then fz N row j x+(if N.cJ j (N.b j)=max (N.cJ j (N.a j)) (N.cJ j (N.b j)) then fz N row j (N.a j)+row j-fz N row j (N.b j) else -(fz N row j (N.a j)+row j-fz N row j (N.b j))) else fz N row j x)
    else fz N row j x
def DJ(h:N.gY j=false):fz N row (j+1)=fz N row j:=by
 funext x
 change(if N.gY j=true then _ else _)=_
 rw[h,XH XZ]
def AX(h:N.gY j=true)(x:Nat):fz N row (j+1) x=if N.cJ j x=max (N.cJ j (N.a j)) (N.cJ j (N.b j)) then fz N row j x+(if N.cJ j (N.b j)=max (N.cJ j (N.a j)) (N.cJ j (N.b j)) then fz N row j (N.a j)+row j-fz N row j (N.b j) else -(fz N row j (N.a j)+row j-fz N row j (N.b j))) else fz N row j x:=by
 change(if N.gY j=true then _ else _)=_
 rw[XI h]
def Qp(h:N.gY j=true):N.cJ j (N.a j)≠N.cJ j (N.b j):=by
 unfold Net.gY at h;intro z;rw[e5 z]at h;cases h
theorem AY:∀j,j<=N.n->∀k,k<j->N.gY k=true->fz N row j (N.b k)-fz N row j (N.a k)=row k
 | 0,_,k,R,_=>absurd R (Y5 k)
 | j+1,o,k,R,Y=>by
   have O:=AY j (by lia)
   cases b:N.gY j with
   | false =>
     rw[DJ b];have:k≠j:=λz=>by rw[z,b]at Y;cases Y
     show O k (by lia) Y
   | true =>
     rw[AX b,AX b]
     by_cases e:k=j
     .subst e;have T:=Qp Y
      by_cases a:N.cJ k (N.b k)=max (N.cJ k (N.a k)) (N.cJ k (N.b k))
      .rw[XI a,XI a,XH (by lia)]
       lia
      .rw[XH a,XI (by lia),XH a]
       lia
     .have a:k<j:=by lia
      have n:N.cJ j (N.a k)=N.cJ j (N.b k):=jN (S:=λ_=>true) a rfl
      have:=O k a Y;rw[n]
      by_cases B:N.cJ j (N.b k)=max (N.cJ j (N.a j)) (N.cJ j (N.b j))
      .rw[XI B,XI B]
       lia
      .rwa [XH B,XH B]
def HN(L:c<N.n)(F : ¬ r ∣ fz N row N.n (N.b c)-fz N row N.n (N.a c)-row c):N.gY c=false:=by
 cases Y:N.gY c with
 | false=>rfl
 | true =>
   have:=AY (row:=row) N.n (XJ _) c L Y;show absurd ⟨0,by lia⟩ F
end RM
namespace L2
open PySem PySem.Spec PyProof.Rows PySem.W
def xA(n:Nat)(R:m->Prop):KasT m->Prop
 | .ret a=>R a
 | .ask i j k=>i<n/\j<n/\∀b,xA n R (k b)
def xA.bind{R:m->Prop}{l:c->Prop}{f}:∀{t},xA n R t->(∀a,R a->xA n l (f a))->xA n l (t.bind f)
 | .ret a,h,g=>by
   rw[KasT.bind.eq_1];show g a h
 | .ask i j k,h,g=>by
   rw[KasT.bind.eq_2];show bh h.1 h.2.1 λb=>xA.bind (h.2.2 b) g
def e7(n:Nat)(p:Array Nat):Prop:=p.toList.Perm 16#n
def e7.at(h:e7 n p)(g:0<n)(x):p.getD x 0<n:=by
 unfold Array.getD
 split
 .rename_i B
  have:p[x]∈p.toList:=by simp
  show Yk.mp (h.mem_iff.mp this)
 .show g
def HP(h:e7 n p)(i j:Nat):e7 n (p.swapIfInBounds i j):=by
 unfold Array.swapIfInBounds
 split
 .split
  .show(Array.perm_iff_toList_perm.mp (Array.swap_perm _ _)).trans h
  .show h
 .show h
theorem qD(f g:Nat->Nat):∀(l:List Nat) {p},e7 n p->e7 n (l.foldl (λa k=>a.swapIfInBounds (f k) (g k)) p)
 | [],_,h=>h
 | k::l,_,h=>qD f g l (HP h (f k) (g k))
def lU(h:e7 n p)(i j):e7 n (kas_rev p i j):=qD _ _ _ h
def KU(h:e7 n p)(i j):e7 n (bubble p i j):=qD _ _ _ h
theorem DK(h:e7 n p)(g:0<n):∀f x,xA n (λ_=>True) (kas_asc p f x)
 | 0,x=>by
   rw[kas_asc.eq_1];trivial
 | f+1,x=>by
   rw[kas_asc.eq_2];show bh (h.at g _) (h.at g _) λb=>?_
   cases b with
   | true=>trivial
   | false=>show DK h g f (x+1)
theorem sj(g:0<n):∀f {p:Array Nat} (x q:Nat),e7 n p->xA n (λr:Array Nat×Nat×Nat=>e7 n r.1) (kas_desc f p x q)
 | 0,p,x,q,h=>by
   rwa [kas_desc.eq_1]
 | f+1,p,x,q,h=>by
   rw[kas_desc.eq_2];show bh (h.at g _) (h.at g _) λb=>?_
   cases b with
   | true =>
     by_cases T:q > 0
     .rw[XI T];show sj g f _ _ (lU h _ _)
     .rw[XH T];show sj g f _ _ h
   | false =>
     show bh (h.at g _) (h.at g _) λb=>?_
     cases b with
     | true=>show h
     | false=>show sj g f _ _ h
def Gb(g:0<n)(h:e7 n p)(x r:Nat):xA n (λr:Nat×Array Nat=>e7 n r.2) (kas_tail3 x r p) :=
 xA.bind (DK (lU h _ _) g _ _) λ_ _=>lU h _ _
def Gd(g:0<n)(h:e7 n p)(x r:Nat):xA n (λr:Nat×Array Nat=>e7 n r.2) (kas_descPart x r p):=by
 show xA.bind (sj g _ _ _ h) λy W=>?_
 by_cases T:y.2.2 > 0
 .rw[XI T];show Gb g (lU W _ _) _ _
 .rw[XH T];show Gb g W _ _
def KW(g:0<n)(h:e7 n p)(r:Nat):xA n (λr:Nat×Array Nat=>e7 n r.2) (kas_count r p):=by
 show xA.bind (DK h g _ _) λy _=>?_
 by_cases G:(y==r)=true
 .rwa [XI G]
 .rw[XH G]
  by_cases C:y > 1
  .rw[XI C];show bh (h.at g _) (h.at g _) λb=>?_
   cases b with
   | true=>show h
   | false=>show Gd g (lU h _ _) _ _
  .rw[XH C];show Gd g h _ _
theorem tR(g:0<n)(h:e7 n p)(k):∀f x y,xA n (λ_=>True) (kas_place p k f x y)
 | 0,x,y=>by
   rw[kas_place.eq_1];trivial
 | f+1,x,y=>by
   rw[kas_place.eq_2]
   by_cases B:x ≥ y
   .rw[XI B];trivial
   .rw[XH B];show bh (h.at g _) (h.at g _) λb=>?_
    cases b with
    | true=>show tR g h k f _ _
    | false=>show tR g h k f _ _
theorem KY(g:0<n):∀f {p:Array Nat} (x:Nat),e7 n p->xA n (e7 n) (kas_bin f p x)
 | 0,p,x,h=>by
   rwa [kas_bin.eq_1]
 | f+1,p,x,h=>by
   rw[kas_bin.eq_2];show xA.bind (tR g h _ _ _ _) λl _=>KY g f _ (KU h _ _)
def Nr(g:0<n):xA n (e7 n) (kas_sort n):=by
 have J:e7 n (16#n).toArray:=by unfold e7;simp
 show xA.bind (KW g J n) λr P=>?_
 by_cases B:r.1<n
 .rw[XI B];show KY g _ _ P
 .rwa [XH B]
open PySem PySem.Spec PyProof.Rows
open PySem PySem.Spec PySem.Calls PyProof.Rows PySem.W PySem.Builtin PySem.Builtin.ObjectAttr
abbrev AZ:62#0:=[.type "ValueError",.type "Exception",.type "BaseException",.type "object"]
structure ni(K:Frag)(C R f:Addr)(name:Str):Prop where
 obj:∃nm q N bs hd sn sub ab col dd k0 k1 k2 k3 k5,K.lookup C=some (excClassObj nm q C N bs (.ref R::AZ) hd sn sub ab col dd k0 k1 k2 k3 k5 "ValueError.__new__")
 init:findIn K (.ref C) "__init__"=91#(.ref f)
 fn:isFn K (.ref f)=true
 kp:keepIn K (.ref C)=true
 sa:findIn K (.ref C) "__setattr__"=91#(.builtin "object.__setattr__")
 tk:takerIn K C name=some none
 hd:hasDictIn K C=true
 no:findIn K (.ref C) name=some none
 rd:readsIn K R (.type "type")=true
 ri:findCls K (.ref R) (.type "type") "__init__"=some (.val (.builtin "ValueError.__init__"))
 rg:specialIn K (.ref R) "__getattribute__"=91#(.builtin "type.__getattribute__")
def rO(L:Addr)(cls:Value)(m:114#0):HO:=.ext λh=>∃t O,h.get? L=some { cls:=cls,dict:=m,data:=61#t,slots:=O}
def zb{h:Heap}(q:∃t O,h.get? L=some { cls:=cls,dict:=m,data:=61#t,slots:=O}):dO P w H h L (rO L cls m) :=
 (bh q (let⟨_,_,e⟩:=q;⟨_,e⟩) (λG C ⟨t,O,e⟩ k=>fj t O (k _ e)))
def del(H:Hp)(a:Addr):Hp:=λb=>if b=a then none else H b
def tS:del H a a=none:=by unfold del;rw[XI rfl]
def kH(h:b≠a):del H a b=H b:=by unfold del;rw[XH h]
def Qq(h:H a=some o):η H a o=H:=by
 funext b
 by_cases e:b=a
 .rw[e,aa,h]
 .rw[aq e]
def A0(O:OwnCls y R AZ "ValueError.__new__" mg h):OwnTail h AZ (.ref R::AZ):=by
 show jd (λg N Y q f=>jd λe L sub H I=>jd λi v p r a=>bD λd c k o b _=>?_) O.obj
 show .own k o b .base
section
variable   {A:Around}  {K:Frag}
section
variable     {os:OsState}
def KZ{g:62#0}(X:K.In t)(c:ni K C R f name)(T:OwnTail t AZ (.ref R::AZ))(S:33#g.length)
 (W:∀h' e,Heap.MadeExcOf t h' e (.ref C) g->wpAny 22#w A (call (.ref f) (.ref e::g)) (λr G=>r = .none/\Q (.done (.ret (.ref e))) G) E ⟨h',l,P,D,os⟩) :
 wpAny 22#w A (Builtin.«type.__call__» ⟨.ref C::g,[]⟩) Q E ⟨t,l,P,D,os⟩:=by
 have F:=PySem.F.excBase_ValueError;show jd (λY q N B j=>jd λL sub H I i=>jd λv p J a d u=>?_) c.obj
 have k:=X _ _ u
 repeat (first | with_reducible show wpAny_madeBy_exc k ?_ | with_reducible show wpAny_loadPart_at k ?_ | wp_step)
 show codeAny_call_builtin_code (Code.quiet_builtin _ F.quiet) (wpAny_check_new_subT F T k (codeAny_exc_new_subT F T k ?_ S));generalize O:(t.push { cls:=.type "tuple",data:=.seq g.toArray}).push { cls:=.ref C,data:=61#t.objs.size}=x;have m:∀b o,47#t.get?->47#x.get?:=λb o e=>by rw[<-O];show XM _ (XM _ e)
 have h:=X.keeps m;have y:=m _ _ k;have n:x.get? (t.objs.size+1)=some { cls:=.ref C,data:=61#t.objs.size}:=by rw[<-O];heap_get
 have s:(Value.ref C::Value.ref R::AZ).contains (.ref C)=true:=by simp
 repeat (first | with_reducible show wpAny_loadPart_at n ?_ | (with_reducible show wpAny_isSubtype_exc y ?_;rw[s]) | wp_step)
 show Looks.here (looks_findIn h c.init) ?_;show Ys (aW (Looks.here (bind_fn h (.ref (t.objs.size+1)) (Z'.mp c.fn)) ?_));show aW (Yn (W x (t.objs.size+1) ⟨m,m? (Y6 _),t.objs.size,n,m? (XJ _),?_⟩) (λr G z=>?_) λ_ _ z=>z)
 .rw[<-O];show XM _ (Heap.get?_push_at rl rl)
 .obtain⟨rfl,z⟩:=z
  wp_walk
  show z
def K0{g:62#0}(X:K.In t)(c:ni K C R f name)(T:OwnTail t AZ (.ref R::AZ))(S:33#g.length)
 (W:∀h' e,Heap.MadeExcOf t h' e (.ref C) g->wpAny 22#w (A.under (.builtin "type.__call__" ⟨.ref C::g,[]⟩)) (call (.ref f) (.ref e::g)) (λr G=>r = .none/\Q (.ref e) G) E ⟨h',l,P,b,os⟩) :
 wpAny 22#w A (call (.ref C) g) Q E ⟨t,l,P,b,os⟩:=by
 show jd (λY q N h j=>jd λL sub H I i=>jd λv p n a d u=>?_) c.obj
 have k:=X _ _ u;have J:=tc_lookup;have D:=tc_bind (.ref C);have m:(⟨t,l,P,b,os⟩:Shared).TypeIs (.ref C) "type":=ae _ k rfl;show wpAny_call (codeAny_of_tree ?_)
 repeat (any_goals (first | assumption | wp_step | with_reducible show wpAny_loadPart_at k ?_))
 show 25#(codeAny_call_builtin_at (Code.quiet_builtin _ (11#0)) entry_typeCall (wpAny_check_type_call_sub k (KZ X c T S W)))
end
def DL(c:ni K C R f name)(g:A.handled=none)
 (h:wpAny M A x (λv w=>∃e t m O,v = .ref e/\K.In w.heap/\w.heap.get? e=some { cls:=.ref C,dict:=m,data:=61#t,slots:=O}/\E (.ref e) w) E s) :
 wpAny M A (raiseStmt env (some x) none) Q E s:=by
 show jd (λY q N o j=>jd λL sub H I i=>jd λF p r a d u=>?_) c.obj
 have b:(Value.ref C::Value.ref R::AZ).contains (.type "BaseException")=true:=rfl;show aW (Yn h (λv w G=>?_) λ_ _ z=>z)
 revert G;show eR λe t m=>d8 λO U X n B=>?_;subst U
 have k:=X _ _ u;obtain⟨y,l,P,D,os⟩:=w
 repeat (first | (with_reducible show wpAny_isSubtype_exc k ?_;rw[b]) | with_reducible show wpAny_loadPart_at n ?_ | with_reducible show wpAny_loadPart_at k ?_ | wp_step)
 show wpAny_raiseNew_none g B
end
section
variable  {pq:cM}{σ:St}
def θ.Nt(I:5#H)(h:H L=some (.ext d))(J:X.s₀.heap.get? L=none):5#(del H L):=by
 have T:∀b u,H b=some u->(∀a,u≠.ext a)->b≠L:=λb u e z y=>by
  subst y;rw[h]at e;show z d (13#e).symm
 have g:∀b,H b=none->del H L b=none:=λb e=>by
  by_cases z:b=L
  .rw[z];show tS
  .rw[kH z];show e
 show⟨I.ok,I.os,I.bare,⟨I.base.keep,I.base.slot,λb C e n B=>g b (I.base.free b C e n B),I.base.there,λb f e=>?_,λb C u e=>?_,λb i e=>?_⟩,I.loc,I.cell,g _ I.free,λx c e=>g _ (I.gz x c e),λp t=>?_,λb u e=>?_,I.len⟩
 .have q:=I.base.tups b f e
  rwa [kH (T b _ q (λa z=>by cases z))]
 .have q:=I.base.jx b C u e
  rwa [kH (T b _ q (λa z=>by cases z))]
 .obtain⟨Q,q⟩:=I.base.lD b i e;show⟨Q,by rw[kH (T b _ q (λa z=>by cases z))];show q⟩
 .show c5 (λm E v=>?_) (I.pin p t)
  show bh m (g _ E) v
 .have Z:b≠L:=λz=>by rw[z,tS]at e;cases e
  rw[kH Z]at e;show(I.hok b u e).stay (λ_ _ _ q=>q) (λc q=>by rw[kH (T c _ q (λa z=>by cases z))];show q) λc f q=>by rw[kH (T c _ q (λa z=>by cases z))];show q
end
def Nu(C:Addr)(sp:Sp)(E:XK)(t:TA):TS:=λ_ U H=>t U H λY N=>33#Y.length/\∀x,N x=none->
 sp (.ref x::Y) (η N x (rO x (.ref C) none)) (λv O=>v = .fg/\∃m,O x=some (rO x (.ref C) m)/\E (.ref C) m (del O x)) λ_ _ _=>False
section
variable {X:Cx}{E:XK}{C R f:Addr}{name:Str}
def HQ{k:Nat}{fd:FuncData}{i:List Str}{sp:Sp}{x y:Str}{e:Expr}{W:List Expr}{c:TA}{g b l:Pos}(O:Out X E)(L:X.calm=true)(p:Gl X x)(d:X.mg x=some (.ref C))(a:ni X.K C R f name)
 (m:∀h,X.K.In h->h.Ns mainGlobals X.mg->OwnCls y R AZ "ValueError.__new__" X.mg h) (G:je X.prog X.w X.K X.mg X.base qg k f fd i sp) (P:eB (k+1) X.A) (Z:Binds X.K fd i []) (o:PA X (e::W) c)
 (n:12#(e::W)=29#e::12#W:=by rfl) (t:(backTo b (12#W)).any (·.1)=false:=by rfl) (j:(x==("__debug__":Str))=false:=by decide) :
 PS X (.Raise (some (.Call (.Name x g) (e::W) [] b)) none l) (Nu C sp E c):=by
 intro A s U H D I h;rw[arm_exec_Raise];show aW (wpAny_standAt (DL a (I.ok.hd L) ?_));show aW (Yn (wpAny_Call_Name_kw (mG I p d (C! I.ok.mod.Pe a.kp (dW (o b A s U H _ I h) λg w=>bD λY N J r S q=>⟨J.sI,?_⟩) n t) j)) (λv c z=>aW (wpAny_standAt (XN z))) λ_ _ z=>z)
 obtain⟨d,l,k,h,os⟩:=w;show K0 J.sI a (A0 (m _ J.sI (J.mod.glob.keeps J.bk))) (by change g.length<=_;rw[<-r.length];show S) λn x b=>?_
 have Q:=b.new;have u:N x=none:=by
  cases m:N x with
  | none=>rfl
  | some z =>
    obtain⟨a,e⟩:=(J.hok x z m).thing;rw[show d.get? x=some a from e]at Q
    cases Q
 have s:X.s₀.heap.get? x=none:=by
  cases m:X.s₀.heap.get? x with
  | none=>rfl
  | some o =>
    obtain⟨a,e⟩:=J.base.there x o m (by rw[O.ex];simp)
    rw[show d.get? x=some a from e]at Q
    cases Q
 show az (λt w _ _=>?_) b.there
 have m:θ X A U N ⟨n,l,k,h,os⟩:=J.kept (t':=h) b.keeps;have j:θ X A U (η N x (rO x (.ref C) none)) ⟨n,l,k,h,os⟩:=by
  show m.J7 u s (λz=>?_) (λy c e z=>?_) (λp a z=>?_) (zb (fj t (#[]) w))
  .show ah (λm b _=>?_) J.loc;obtain⟨o,_,_,F,_⟩:=b
   rw[<-z,show d.get? x=none from Q]at F
   cases F
  .show aR (λv o F _=>?_) (J.cell y c e)
   rw[z,show d.get? x=none from Q]at F
   cases F
  .have q:=(J.pin p a).1;rw[z,show d.get? x=none from Q]at q
   cases q
 have p:ξ (V.ref x::Y) (Value.ref x::g):=.cons rl r;have T:=q x u;have a:27#(Value.ref x::g++[])=i.length:=by
  have e:=p.length;rw[G.len _ _ _ _ T]at e;rw[YU];show e.symm
 have c:=Z ⟨n,l,k,h,os⟩ (Value.ref x::g) j.sI a;rw[YU]at c;show wpAny_call (codeAny_mono (G.run _ X.stack _ _ ⟨Value.ref x::g,[]⟩ (Value.ref x::g) _ _ _ (P.make C g []) (j.Px.make C g []) c p T) λr d z=>?_)
 cases r with
 | error e=>show False.elim z
 | ok a =>
   cases a with
   | ret u =>
     show aR (λv M o=>bL λc b m B a=>?_) (j.after z)
     subst b;obtain⟨⟨e,b,F⟩,_⟩:=(show dO X.prog X.w M d.heap x (rO x (.ref C) m) from o.hok x _ B)
     show⟨c,(fj x e (aM m b rl o.sI F ?_))⟩;show O.Ug (o.Nt B s) F rl rl rl rl tS s 110#0 a
   | next=>show False.elim z
   | brk=>show False.elim z
   | cont=>show False.elim z
end
def WE(C:Addr)(t:TA):TE:=λU H Q=>t U H λY N=>∃x m l,Y = .ref x::l/\33#l.length/\N x=some (rO x (.ref C) m)/\∀O,O=η N x (rO x (.ref C) m)->Q .fg O
section
variable {X:Cx}{C R f:Addr}{name:Str}
def K1{y z:Str}{e:Expr}{W:List Expr}{t:TA}{G a l:Pos}{D:Sem Bool}(c:ni X.K C R f name)(i:∀h,X.K.In h->h.Ns mainGlobals X.mg->OwnCls z R AZ "ValueError.__new__" X.mg h)(g:Gl X y)(d:X.mg y=some (.ref R))(b:PA X (e::W) t)
 (w:12#(e::W)=29#e::12#W:=by rfl) (k:(backTo l (12#W)).any (·.1)=false:=by rfl) (j:(y==("__debug__":Str))=false:=by decide)
 (m:eval (.Call (.Attribute (.Name y G) "__init__" a) (e::W) [] l) X.env=(do
  let ov←eval (.Name y G) X.env
  standAt a.atName
  let(f,fst1)←holding [ov] (getMethod ov "__init__" D)
  callWith l f fst1 (backTo l (12#(e::W))) (backToKw l (keywordEach [] X.env))):=by rfl) :
 PE X (.Call (.Attribute (.Name y G) "__init__" a) (e::W) [] l) (WE C t):=by
 show 63;show PySem.W.methodCall_KW (mG I g d (method_cls I.sI c.rg (cls_value I.sI c.rd c.ri (by rfl) ?_)) j) m
 have It:θ X A U H { s with toks:=s.toks+1}:=I.tok _
 have a:=b l A _ U H _ It h;rw[w]at a ⊢;show Calls.callWith_builtin (by change(false || (backTo l (12#W)).any (·.1))=false;rw[k];rfl) (Calls.evalArgs_plain (dW a λg M=>eu λY=>dI λO d p x=>bD λm h b S B q=>?_))
 subst b;obtain⟨J,b,rfl,a,n⟩:∃J b,g=J::b/\ο (.ref x) J/\ξ h b:=by
  cases p with
  | cons a n=>show ao _ _ rfl a n
 cases(a);have F:=PySem.F.excBase_ValueError;have T:=A0 (i _ d.sI (d.mod.glob.keeps d.bk));show jd (λp s N k j=>jd λL sub h l i=>jd λv m r a o g=>?_) c.obj
 obtain⟨⟨E,h,o⟩,_⟩:=(d.hok x _ B);have k:=d.sI _ _ g;obtain⟨c,a,P,g,os⟩:=M;have m:33#b.length:=by rw[<-n.length];show S
 show wpAny_call (codeAny_call_builtin F.init.plain F.initEntry (wpAny_check_init_subT F T k o rfl ?_));have a:=XM { cls:=.type "tuple",data:=.seq b.toArray} o
 wp_walk
 show ao .fg _ ?_ rl (q _ rl);have b:=Zb (XX o);show θ.write d (by rw[B];show True.intro) (.inl rl) (λb u Z e=>?_) ?_ ?_
 .rw[YJ _ _ (Yy Z)];show XM _ e
 .show⟨_,YV _ a rfl⟩
 .show zb (fj c.objs.size h (YV _ a rl))
end
def Sh(C:Addr)(z m:TE)(f:Str):TS:=λD U H=>m U H λy N=>z U N λx O=>∃a,x = .ref a/\O a=some (rO a (.ref C) none)/\∀d,O d=none->d≠a->D.nx U (η (η O a (rO a (.ref C) (some d))) d (.xd [(f,y)]))
section
variable     {K:Frag}
def HR{s:Shared}(X:K.In s.heap)(c:ni K C R f name)
 (B:s.heap.get? x=some { cls:=.ref C,dict:=none,data:=61#t,slots:=O})
 (go:∀h' D,h'.get? x=some { cls:=.ref C,dict:=23#some,data:=61#t,slots:=O}->h'.Ns1 s.heap.objs.size (λy=>if y=name then some v else none)->
  (∀b o,b≠x->18#o->47#h'.get?)->Q () { s with heap:=h',toks:=D}):67#(setAttr (.ref x) name v):=by
 have I:InstAt s.heap x { cls:=.ref C,dict:=none,data:=61#t,slots:=O} C none:=⟨B,rfl,rfl,trivial⟩;have e:=PySem.F.store_ValueError;have q:=PySem.F.store_object;show jd (λY U N a j=>jd λg sub H d i=>jd λh p r k l u=>?_) c.obj
 show set_plain X I c.sa ?_;have h:clsIn K C=some { name:=Y,bases:=a,mro:=.ref C :: .ref R::AZ,ns:=N,qualname:=U,hasDict:=j,slotNames:=g,subclasses:=sub,abstract:=H,collection:=d,hasDel:=false}:=by
  unfold clsIn;rw[u]
 have g:j=true:=by
  have z:=c.hd;unfold hasDictIn at z;rw[h]at z;show z
 subst g;have G:=I.type (M:=model prog w);have d:Looks 22#w s.heap (mroOf (.ref C)) (.ref C :: .ref R::AZ):=(looks_clsIn X h).andThen .now;have g:Looks 22#w s.heap (isInstance (.ref x) (.type "object")) true:=G.andThen (looks_mroIn X (by unfold mroIn;rw[h];rfl))
 show ah (λa J P=>?_) (Option.bind_eq_some_iff.mp c.tk)
 have c:Looks 22#w s.heap (storeTaker? a) none:=by
  cases a with
  | none=>show .now
  | some a =>
    show ah (λb Z z=>?_) (m3.mp P)
    show(looks_takesIn X Z).andThen ?_;cases b with
    | true=>cases z
    | false=>show .now
 show codeAny_call_builtin q.slot.plain q.entry (@check_slot 22#w _ _ { s with toks:=s.toks+1} "object.__setattr__" "object" "__setattr__" (.ref x) [.str name s.toks,v] [] _ q.kind q.split g (q.args (.ref x) (.str name s.toks) v) ?_)
 rw[osa_eq,refuse_eq];show aW (aW (Looks.here G (aW (Looks.here d ?_))));rw[refuseLoop_ref,refuseLoop_ref,e.passes];show XN (aW (Looks.here G (aW (Looks.here (looks_findIn X J) (aW (Looks.here c ?_))))));show aW (XN (aW (aW (wpAny_loadPart B (aW (Looks.here (looks_clsIn X h) ?_))))));have k:(s.heap.push { cls:=.type "dict",data:=.dict #[]}).get? x=some { cls:=.ref C,dict:=none,data:=61#t,slots:=O}:=XM _ B;have a:=Yj (XX B);show aW (wpAny_alloc' (aW (wpAny_update' k (XN ?_))));generalize z:((s.heap.push { cls:=.type "dict",data:=.dict #[]}).update x λo=>{ o with dict:=23#some})=h2
 have c:23#h2.get?=some { cls:=.type "dict",data:=.dict #[]}:=by
  rw[<-z];show(Heap.get?_update_ne _ _ _ _ a.symm).trans (Heap.get?_push_at rl rl)
 have T:h2.get? x=some { cls:=.ref C,dict:=23#some,data:=61#t,slots:=O}:=by
  rw[<-z];show YV _ k rfl
 have m:∀b o,b≠x->18#o->47#h2.get?:=λb o n e=>by
  rw[<-z];show(Heap.get?_update_ne _ _ _ _ n).trans (XM _ e)
 have g:h2.Ns s.heap.objs.size (λ_=>none):=⟨_,(aM (#[]) _ c rl (λe d=>absurd d 21#0) λ_=>rfl)⟩
 show aW (XN (aW (wpAny_nsSet1 (Heap.Ns1.of_empty g) λh' Z W=>?_)))
 have l:∃o,23#h'.get?=some o/\o.data.pastItsLine=none:=by
  show cy (λo _ _ F j L=>?_) (Z.count (Within.cons name v Within.nil))
  rw[X7,ZO]at L;show ae o F (by rw[j];show pastItsLine_dict (XY L (by rw[sizeLine_eq];lia)))
 revert l;show ah λo F S=>?_
 show aW (wpAny_lookBehind F S ?_);show XN (go h' _ ((W.2 x a).trans T) Z λb o n e=>?_)
 show(W.2 b (Yj (XX e))).trans (m b o n e)
end
section
variable {X:Cx}{C R f:Addr}{name:Str}{o value:Expr}{pos pos' : Pos}{ta tv:TE}
def Nv(G:ni X.K C R f name)(S:PE X o ta)(b:PE X value tv)(W:swapsWith value (some (.Attribute o name pos')) pos.line X.env=pure false:=by rfl):PS X (.Assign [.Attribute o name pos'] value pos) (Sh C ta tv name):=by
 intro A s U H D I h;show plainObj_wpAny_Assign_Attribute (dW 37#b λu w=>aA λy N J L q=>dW (S A w U N _ J q) λd M=>aA λx O Y c=>az λa P B E=>?_) W
 subst P;cases(c);obtain⟨⟨t,d,r⟩,_⟩:=(Y.hok a _ B);show HR Y.sI G r λQ b k i c=>?_
 have l:=Y.hok.fresh (XJ _);have T:=Zb (XX r);have j:θ X A U (η O a (rO a (.ref C) (some M.heap.objs.size))) { M with heap:=Q,toks:=b} :=
  θ.write Y (by rw[B];show True.intro) (.inl rl) (λb u Z e=>c b u Z e) ⟨_,k⟩ (zb (fj t d k))
 show bf U _ (j.J7 (o:=.xd [(name,y)]) (by rw[aq T];show l) ?_ ?_ ?_ ?_ (ae _ i (λg=>?_))) (E _ l T)
 .cases m:X.s₀.heap.get? M.heap.objs.size with
  | none=>rfl
  | some b=>show absurd (X4 (XX m) Y.sz) (YZ _)
 .show Zb Y.lt
 .intro n c e z;show aR (λv b F _=>?_) (Y.cell n c e)
  rw[z]at F;show absurd (XX F) (YZ _)
 .intro p b z;have q:=(Y.pin p b).1;rw[z]at q;show absurd (XX q) (YZ _)
 .by_cases z:g=name
  .have Z:=Z'.mpr z;rw[XI z];simp only[List.lookup,Z];show L
  .have Z:=beq_eq_false_iff_ne.mpr z;rw[XH z];simp only[List.lookup,Z];show True.intro
end
section
variable     {K:Frag}   {s:Shared}
def Nx(X:K.In s.heap)(o:Dd K C)(c:ni K C R f name)(B:s.heap.get? x=some e)(L:e.cls = .ref C)(j:e.data = .fields Y)(u:e.dict=some d)
 (i:s.heap.Ns1 d p) (a:p name=some v) (N:handedIn v=true) (q:Q v { s with toks:=s.toks+1}):67#(getAttr (.ref x) name b):=by
 obtain⟨t,l,P,D,os⟩:=s;show ah (λm H S=>?_) (G7 i)
 have I:InstAt t x e C (some m):=by
  show⟨B,L,?_,?_⟩
  .unfold notCls;rw[j]
  .rwa [u]
 have G:=I.type (M:=model prog w);have z:=looks_findIn (M:=model prog w) X o.ga;have g:=looks_findIn (M:=model prog w) X o.gh;have r:Looks 22#w t (isInstance (.ref x) (.type "BaseException")) true:=G.andThen (looks_mroIn X o.mb);have y:Looks 22#w t (find (.ref x) (.ref C) name) (.value v):=by
  show ah (λcd h k=>?_) (any_some c.hd)
  have Lo:=looks_own (M:=model prog w) X I h (by unfold PySem.W.ownOf;rw[XI k];show(S name).trans (by rw[a]))
  have n:Looks 22#w t (ownThenClass (.ref x) name none none) (.value v):=Lo.andThen (Looks.tag .now);show(looks_findIn X c.no).andThen (Looks.andThen .now (Looks.andThen .now n))
 show aW (wpAny_mkText (Ys (aW (G.at (aW (z.at ?_))))));show aW (Looks.at (g) (aW (wpAny_attempt (Ys ?_))));unfold callGetattribute;rw[XH (by rw[show onTheHeap (Value.builtin "BaseException.__getattribute__")=false from rfl,Z0];decide)]
 unfold boundAndCalled;rw[F.attrBase_ValueError.ga.bind (.ref x)];show aW (XN ?_);show wpAny_call (codeAny_call_builtin F.attrBase_ValueError.ga.plain F.entry_bexc_ga (De r ?_));show aW (XN (aW (XN (aW (G.at (aW (y.at (XN ?_))))))));change wpAny _ _ (handedOut v) _ _ _;rw[handedOut_of N];show XN q
end
def Si(K:b7)(z:TE)(f:Str):TE:=λU H Q=>z U H λx N=>∃a C R g d M v,x = .ref a/\N a=some (C9 a (.ref C) (some d))/\N d=some (.xd M)/\M.lookup f=some v/\Dd K C/\ni K C R g f/\Q v N
section
variable {X:Cx}
def Ny(K:b7){e:Expr}{f:Str}{l:Pos}{z:TE}(n:PE X e z)(Z:attributeBase e f X.env (eval e X.env)=eval e X.env:=by rfl)(y:X.K=K:=by rfl):PE X (.Attribute e f l) (Si K z f):=by
 subst y;show 63;show MN Z (dW 37#n λu w=>aA λx N b c=>qh λa C R g=>cu λd M v t=>eO λF j S o m q=>?_)
 subst t;cases(c);obtain⟨⟨T,Y,J,D,E,_,B⟩,_⟩:=(b.hok a _ F);show ah (λp i r=>?_) (b.hok d _ j)
 show ah (λu G k=>?_) (oq.some_of (by rw[<-S];show r f))
 show Nx b.sI o m J D E B i G (G8 k) (ao v N (b.tok _) k q)
end
end L2
namespace RM
variable {N:Net}
inductive Wn(N:Net)(eW:Nat):List Nat->Nat->List Nat->Nat->Prop
 | start {t:Nat} (ht:((16#N.n).filter λk=>eW.testBit k)[0]?=some t):Wn N eW [] (N.a t) [] eW
 | next {pre ks:List Nat} {v left t:Nat} (h:Wn N eW pre v ks left) (hv:v∉pre) (ht:(N.nW left v)[0]?=some t):Wn N eW (pre++[v]) (N.Qn t v) (ks++[t]) (left^^^2^t)
section
variable {eW left v:Nat}
def K2(J:eW<2^N.n)(b:N.gi eW)(h:Wn N eW W v c left):Way N eW W v c left:=by
 induction h with
 | start R=>show Way.start J b (Yz.mp (fC R)).2
 | next h a R O =>
   show c5 (λ_ Z o=>?_) (nX.mp (fC R))
   show O.go a Z (KQ o)
def Sj(J:eW<2^N.n)(b:N.gi eW)(h:Wn N eW W v c left)(a:v∉W):∃t,(N.nW left v)[0]?=some t:=by
 have w:=K2 J b h;show ah (λt Z o=>?_) (w.on a)
 have d:=nX.mpr (bh (fP w.y9 Z) Z o);cases e:N.nW left v with
 | nil=>rw[e]at d;cases d
 | cons x r=>show⟨x,rfl⟩
end
def o6{r left:Nat}(h:∀k,r.testBit k=true->left.testBit k=true)(k):(left^^^r).testBit k=(left.testBit k && ! r.testBit k):=by
 rw[X8];cases o:r.testBit k with
 | false=>simp
 | true=>rw[h k o];rfl
inductive Sp(B:List Nat):Nat->Prop
 | zero:Sp B 0
 | add {x b:Nat} (h:Sp B x) (hb:b∈B):Sp B (x^^^b)
def Sp.mem(h:b∈B):Sp B b:=by
 have:=Sp.add .zero h;rw[Zp]at this;show this
def Sp.xor(h:Sp B x)(h' : Sp B y):Sp B (x^^^y):=by
 induction h' with
 | zero=>rw[Zo];show h
 | add _ Z O=>rw[<-Y9];show .add O Z
def Sp.mono(h:Sp B x)(L:∀b∈B,Sp C b):Sp C x:=by
 induction h with
 | zero=>show .zero
 | add _ Z O=>show O.xor (L _ Z)
def qE(x b:Nat):x^^^b^^^b=x:=by rw[Y9,Z4,Zo]
def Sp.A1:Sp (b::B) x↔Sp B x\/Sp B (x^^^b):=by
 constructor
 .intro h
  induction h with
  | zero=>show .inl .zero
  | add h L O =>
    rename_i x c
    rcases XS.mp L with e|e
    .subst e;rcases O with O|O
     .show .inr (by rw[qE];show O)
     .show .inl O
    .rcases O with O|O
     .show .inl (.add O e)
     .show .inr (by rw[Y9,O! c,<-Y9];show .add O e)
 .rintro(h|h)
  .show h.mono λc L=>.mem (nc _ L)
  .have C:Sp (b::B) (x^^^b):=h.mono λc L=>.mem (nc _ L)
   have:=C.add X0;rw[qE]at this;show this
def Sp.lt(h:Sp B x)(hz:∀b∈B,b<2^n):x<2^n:=by
 induction h with
 | zero=>show Zi n
 | add _ Z O=>show Y4 O (hz _ Z)
open Ring (xorL xorL_cons maskOf)
variable {N:Net}
def HS:N.bZ.Nodup:=v! _ r?
def qF(L:c<N.n)(Y:N.gY c=false):N.Ring (N.ring c):=by
 show bh (λz=>?_) (mK L) λq T b=>?_
 .have h:=tu Y;rw[z]at h;simp at h
 .have h:=fH λk R=>fP (ku L) (T k R)
  cases g:q.testBit c with
  | true =>
    show .inr (Kq h (ku L) b (mK L) λd j f=>?_)
    rw[nU Y f]
    by_cases e:c=d
    .subst e;simp[g]
    .rw[fW e];cases a:q.testBit d with
     | false=>rfl
     | true =>
       have:=T d a;rw[nU Y f,fW e]at this;cases this
  | false =>
    show .inl (iK (λk R=>?_) b)
    rcases lR (T k R) with e|e
    .subst e;rw[g]at R;cases R
    .show e
end RM
namespace L2
open PySem PySem.Spec PyProof.Rows
theorem xB:∀{ss} {its},ξ (ss.map V.str) its->∃l:List (Str×Tok),its=strValues l/\l.map (·.1)=ss
 | [],_,.nil=>ae [] rfl rfl
 | x::ss,_,.cons r rr=>by
   obtain⟨t,rfl⟩:=r;show ah (λl U h=>?_) (xB rr);subst U
   show ae ((x,t)::l) rl (by rw[Yd,h])
theorem xC:∀l,ξ ((l.map (·.1)).map V.str) (strValues l)
 | []=>.nil
 | (x,t)::l=>.cons ⟨t,rfl⟩ (xC l)
section
variable {X:Cx}
def rJoin(K:b7):V->90#(List V):=λx Y H Q=>∃b p i,x = .str b/\Y=[.ref p]/\aH K H p (i.map V.str)/\PySem.JoinOk b i=true/\Q (.str (Txt.join b i)) H
def iu(K:b7)(a:X.K=K:=by rfl):RQ X "str.join" (rJoin K):=by
 subst a;intro A s U H x f v g Q I c L h
 revert h;show bV λb p i j C T B q=>?_;subst j C
 show 60;show ah (λu r n=>?_) (vals1 L);subst r
 cases n;show 108#(λN O D m=>?_)
 show ah (λl e S=>?_) (xB O);subst e
 show SC.join D.isList S B λd k=>ao (.str _) H (I.tok _) ⟨d,rfl⟩ q
def Qs:V->90#(List V):=λx Y H Q=>∃z b:Str,x = .str z/\Y=[.str b]/\(b.length==0)=false/\33#z.length/\33#27#(Txt.split z b)/\∀D,H D=none->Q (.ref D) (η H D 28#15#(Txt.split z b))
def θ.strs{A:cM}{U:St}{l:List (Str×Tok)}(I:θ X A U H s)(hz:33#l.length):
 θ X A U (η H s.heap.objs.size (.lst ((l.map (·.1)).map V.str))) { s with toks:=k,heap:=s.heap.push { cls:=.type "list",data:=.seq (strValues l).toArray}}:=by
 show I.laid (λb u e=>XM _ e) (XJ _) (bg (by rw[XG,XG];show hz) (strValues l) 0 (xC l) (X6 _ rl))
def gm:RQ X "str.split" Qs:=by
 intro A s U H x f v g Q I c L h
 revert h;show aR λz b Z=>m9 λy W m l q=>?_;subst Z y
 show 60;show ah (λu i=>eu λd j=>?_) (vals1 L);subst i j
 have a:=I.hok.fresh (23#XJ);have D:Txt.split z b=[z]->∀k,EP X A U Q (23#.ref) { s with toks:=k,heap:=s.heap.push { cls:=.type "list",data:=.seq (strValues [(z,t)]).toArray}}:=λe k =>
  (ao (.ref _) _ (I.strs (by change 1<=sizeLine;decide)) rl (by have r:=q _ a;rw[e]at r;show r))
 by_cases G:(9#(z.length<b.length) || 9#(Builtin.Str.strKind z<Builtin.Str.strKind b))=true
 .show call_meets F.slot_str_split (typeIs_str _ _ _) F.entry_str_split (F.args_str_split_2 _ _) (meets_str_split_cannot_occur z b t d G) (D (XI G) _)
 have G:=Bool.eq_false_iff.mpr G
 by_cases C:(Builtin.Str.occurrences z b 0 z.length (z.length+1)).isEmpty=true
 .show call_meets F.slot_str_split (typeIs_str _ _ _) F.entry_str_split (F.args_str_split_2 _ _) (meets_str_split_not_found z b t d G W C) (D ((XH (ne_true_of_eq_false G)).trans (XI C)) _)
 have C:=Bool.eq_false_iff.mpr C;have e:Txt.split z b=Builtin.Str.partsBetween z (Builtin.Str.occurrences z b 0 z.length (z.length+1)) b.length:=(XH (ne_true_of_eq_false G)).trans (XH (ne_true_of_eq_false C));rw[e]at l q;show call_meets F.slot_str_split (typeIs_str _ _ _) F.entry_str_split (F.args_str_split_2 _ _) (meets_str_split_sep z b t d G W C m l) ?_;rw[strsFrom_eq];have S:=numbered_texts s.toks (Builtin.Str.partsBetween z (Builtin.Str.occurrences z b 0 z.length (z.length+1)) b.length);show ao (.ref _) _ (I.strs ?_) rl ?_
 .have:=Yq List.length S;rw[XG]at this
  rwa [this]
 .rw[S];show q _ a
def iw:fX X (.type "int") (λxs H Q=>∃x n,xs=[.str x]/\PySem.intText? x=some n/\x.length<=640/\Q (.int n) H):=by
 intro A s U H xs a Q I r h
 revert h;show bD λx n c g S q=>?_;subst c
 show ah (λu k=>eu λt f=>?_) (vals1 r);subst k f
 show PySem.W.KIN.call_text g S (ao (.int _) H (I.tok _) 110#0 q)
theorem Ge:∀{f:List Bool} {its},ξ (f.map V.bl) its->its=f.map Value.bool
 | [],_,.nil=>rfl
 | b::f,_,.cons r rr=>by
   cases r;rw[Ge rr];rfl
def DM:∀f:List Bool,((16#f.length).all λi=>(f[i]?).getD true)=f.all id:=λf=>by
 rw[YG,Zl,Zl]
 constructor
 .intro h b Z;obtain⟨i,F,e⟩:=z! Z;have:=h i (Yk.mpr F);rw[XW F,e]at this;show this
 .intro h i F;have F:=Yk.mp F;rw[XW F];show h _ (Z2 F)
def Nz(K:b7)(L:X.calm=true)(l:X.K=K:=by rfl):fX X (.builtin "all") (λxs H Q=>∃(p:Addr) (f:List Bool),xs=[.ref p]/\aH K H p (f.map V.bl)/\Q (.bl (f.all id)) H):=by
 subst l;intro t s U H xs g Q I r h
 revert h;show aA λp f n T q=>?_;subst n
 show ah (λu F c=>?_) (vals1 r);subst F
 cases c;show 108#(λN O D m=>?_)
 obtain rfl:=Ge O;have J:p<s.heap.objs.size:=by show ah (λ_ e _=>?_) D.isList;show XX e
 show call_all_walk (wpAny_pyIter_list D.isList (dU _ [_,p] [_] (bO _ _ _ (λi=>(f[i]?).getD true) rl (Walks.list (A:=X.A.in1) (I.ok.hd L) _ p (Yj J) _) ⟨au _ (X6 _ rl) rl rfl,D.isList.push _⟩ (λi v G j a k y=>?_) λM w R=>?_)))
 .have k:(f.map Value.bool)[i]?=some v:=69#0
  rw[XQ]at k;show ah (λb e d=>?_) (m3.mp k);subst d
  simp only[e,Option.getD_some]at y;show wpAny_truthy_bool y
 .have z:(f.map Value.bool).toArray.size=f.length:=by simp
  rw[z,DM];show ao (.bl _) H (I.kept λb o e=>R b o (λd=>?_) (XM _ e)) rl q
  rw[XU.mp d]at e;show YZ _ (XX e)
end
def Gf(x:Str)(i:Nat):V:=.str ⟨#[x.cps.getD i 0]⟩
def Ut(x:Str):It:=⟨λi _=>i<x.length,λi H v M=>M=H/\v=Gf x i,λi _=>x.length<=i⟩
def K3{K}(x)(it)(n)(t)(g:n="str_ascii_iterator"\/n="str_iterator"):Turn P w K tg (Ut x) [it] it (λi h=>h.IsStrIter it n x t i) where
 mem:=by simp
 obj:=λi h st b Z=>by
  have e:b=it:=85#0
  subst e
  revert st;show az λo e c d=>?_
  show ae o e λv z=>by rw[d]at z;cases z
 keep:=λi h M st k=>let⟨o,ho,r⟩:=st;(ae o (k it 21#0 o ho) r)
 item:=by
  intro X a j Q L i A s U H E I Y st y;subst a j Q;show eO (λG R l F v C=>?_) (Y it 21#0)
  have y:i<x.cps.size:=y;have B:x.cps[i]?=some (x.cps.getD i 0):=by simp[y]
  rcases g with rfl|rfl
  .show wpAny_pyNext_ascii_item st B λM q D=>?_
   have J:θ X A U H { s with heap:=M,toks:=s.toks+1}:=I.turned (λb o Z e=>(D.2 b Z).trans e) G R F v C
   show az (λo e c d=>?_) (id q)
   show ae _ rl (wM e c d 4#0 (cL (Gf x i) H J 110#0 ⟨rfl,rfl⟩ q (λb Z=>(Y b Z).1)))
  .show wpAny_pyNext_wide_item st B λM q D=>?_
   have J:θ X A U H { s with heap:=M,toks:=s.toks+1}:=I.turned (λb o Z e=>(D.2 b Z).trans e) G R F v C
   show az (λo e c d=>?_) (id q)
   show ae _ rl (wM e c d 4#0 (cL (Gf x i) H J 110#0 ⟨rfl,rfl⟩ q (λb Z=>(Y b Z).1)))
 done:=by
  intro X a j Q L i A s U H E I Y st y;subst a j Q;show eO (λG R l F v C=>?_) (Y it 21#0)
  have y:x.cps.size<=i:=y;have B:x.cps[i]?=none:=by simp[y]
  rcases g with rfl|rfl
  .show wpAny_pyNext_ascii_end (I.ok.hd L) st B λM q=>25#(I.turned (λb o Z e=>q b o Z e) G R F v C)
  .show wpAny_pyNext_wide_end (I.ok.hd L) st B λM q=>25#(I.turned (λb o Z e=>q b o Z e) G R F v C)
 self:=λ_ _ _ _ _ st h=>by
  rcases g with rfl|rfl
  .show wpAny_pyIter_striter_ascii st h
  .show wpAny_pyIter_striter_wide st h
def Sk(f:TE):TI:=λU H R=>f U H λv N=>∃x,v = .str x/\R (Ut x) N
def Qt(S:PE X l d):PI X tg l (Sk d):=by
 intro A s U H R I h;show dW 37#S λv w=>aA λx N J r q=>?_
 revert q;show ah λy a q=>?_;subst a
 obtain⟨t,rfl⟩:=r;show wpAny_pyIter_strU ?_;have g:strIterType y="str_ascii_iterator"\/strIterType y="str_iterator":=by
  unfold strIterType
  split
  .show .inl rfl
  .show .inr rfl
 show dU w.heap.objs.size [w.heap.objs.size] _ (aQ _ N rl (J.kept λb o e=>XM _ e) (K3 y _ _ t g) (au _ (X6 _ rl) rl rl) (λb Z=>?_) q)
 have e:b=w.heap.objs.size:=85#0
 subst e;show J.vA (XJ _) (J.hok.fresh (XJ _))
def A2{x:Str}(d:94#(List V))(J:d 0 [] N)(S:∀i I H,i<=x.length->d i I H->10#H/\I.length<=i)(hz:33#x.length)
 (W:∀i I H,i<x.length->d i I H->g (Gf x i) (65#n++l) H λa O=>a.drop n=l/\h a O λb X =>
  if b=true then f a X λv c=>10#c/\d (i+1) (I++[v]) (η c D 28#(I++[v])) else d (i+1) I X)
 (j:∀I H,d x.length I H->Q H):gJ (Ut x) g h f n l D Q N:=by
 show ae (λi k I H=>k=x.length-i/\i<=x.length/\d i I H) (au x.length 21#0 (Yo _) J) ?_
 intro i k I H;show c5 λt F p=>?_;subst t
 obtain⟨u,C⟩:=S i I H F p;show⟨u,?_⟩
 by_cases Z:i<x.length
 .show .inr (bj Z (by lia) (d (i+1)) (λo M R=>cS (x.length-(i+1)) (by lia) rl Z R) (λv M y=>?_))
  obtain⟨e,y⟩:=y;subst e y;show W i I _ Z p
 .have e:i=x.length:=by lia
  subst e;show .inl ⟨XJ _,j I H p⟩
section
variable {X:Cx}
def NB{x v:Str}{l:Pos}(y:Gl X x)(h:∃t,X.mg x=some (.str v t))(j:(x==("__debug__":Str))=false:=by decide):68#(tC (.str v)):=by
 obtain⟨t,e⟩:=h;show yx y e ⟨t,rfl⟩ j
def Sl(_:b7):FH X PF:=JL
def NC(_:b7)(S:PE X l d):PI X tg l (Sk d):=Qt S
end
open AutoSeq1 (wpAny_loadPart')
set_option maxRecDepth 100000 in
def HU(l)(items)(n)(dct)(sl)(t):
 Meets (Builtin.«enumerate.__new__» ⟨[.type "enumerate",.ref l],[(Str.ofString "start",.int 1 t)]⟩) (λ_ R s=>s.heap.get? l=some { cls:=.type "list",dict:=dct,data:=.seq items n,slots:=sl}/\
  R (.ok (.ret (.ref 36#{ cls:=.type "list_iterator",data:=.fields #[.ref l,.int 0 0]})))
    { s with heap:=(s.heap.push { cls:=.type "list_iterator",data:=.fields #[.ref l,.int 0 0]}).push { cls:=.type "enumerate",data:=.fields #[.none,.bool false,23#.ref,rawInt 1,.none,.none]}}) :=
 .of_wp λE w A R s h=>by
  obtain⟨b,g,d,D,os⟩:=s;obtain⟨S,h⟩:=h;have f:=sub_enumerate;have a:Heap.IsList (Shared.heap ⟨b,g,d,D,os⟩) l items:=ae _ S (b9 rl n rl)
  wp_walk using wpAny_loadPart' S
  show wpAny_stack_any λst=>XN ?_
  split
  .rename_i c _ _ _ _ _
   cases(c==Value.type "enumerate")<;>(wp_walk using wpAny_loadPart' S,wpAny_pyIter_list a)<;>show ae _ rfl h
  .wp_walk using wpAny_loadPart' S,wpAny_pyIter_list a
   show ae _ rl h
def DN(a)(t):checkTypeCall "enumerate" ⟨[a],[(Str.ofString "start",.int 1 t)]⟩=pure ():=by kernel_rfl
def DO(a)(t):checkBuiltinCall "enumerate.__new__" ⟨[.type "enumerate",a],[(Str.ofString "start",.int 1 t)]⟩=pure ():=by kernel_rfl
def DP(obj a)(t):argsOk "object.__init__" ⟨[obj,a],[(Str.ofString "start",.int 1 t)]⟩:=by
 kernel_rfl
def DQ(self a)(t):Meets (Builtin.«object.__init__» ⟨[self,a],[(Str.ofString "start",.int 1 t)]⟩) (λ_ R s=>s.TypeIs self "enumerate"/\R (.ok (.ret .none)) s):=by
 show Meets.of_wp λE w A R s W=>?_
 obtain⟨b,T⟩:=W;have S:=F.called_enumerate.init.lookup;have d:=F.called_enumerate.made
 show 93
 show ae _ rl T
section
variable   {A:Around}  {s:Shared}
def DR(a:s.heap.IsList l k)
 (h:∀h',IsEnum h' (96#0) s.heap.objs.size 1 .none->h'.IsListIter s.heap.objs.size l 0->(∀b o,18#o->47#h'.get?)->Q (.ref (96#0)) { s with heap:=h'}) :
 67#(call (.type "enumerate") [.ref l] [(Str.ofString "start",.int 1 t)]):=by
 revert a;show dI λH S L n j=>?_;obtain⟨c,p,g,O⟩:=H
 have L:=L;have j:=j;subst L j;obtain⟨c,d,u⟩:=F.called_enumerate.mro;have z:=F.called_enumerate.made;have f:=F.called_enumerate.sub;show wpAny_call (codeAny_of_tree ?_);show XN ⟨Code.quiet_builtin _ (11#0),codeAny_builtin F.entry_type_call ?_⟩
 rw[Around.under_plain (weight_type_call_type "enumerate" [.ref l] [(Str.ofString "start",.int 1 t)]) (units_type_call_type "enumerate" [.ref l] [(Str.ofString "start",.int 1 t)])];have I:=DN (.ref l) t
 show 93
 have v:36#{ cls:=.type "list_iterator",data:=.fields #[.ref l,.int 0 0]}=96#0:=ZZ ..;show codeAny_mono (codeAny_call_builtin F.called_enumerate.plain F.entry_enumerate_new (wpAny_of_eq (DO (.ref l) t) (HU l k n p O t prog w A.in1 (wants (λi B=>B.TypeIs i "enumerate"/\Q i B) E) s ⟨S,?_⟩))) λr B P=>?_
 .have e:IsEnum ((s.heap.push { cls:=.type "list_iterator",data:=.fields #[.ref l,.int 0 0]}).push { cls:=.type "enumerate",data:=.fields #[.none,.bool false,23#.ref,rawInt 1,.none,.none]}) (96#0) s.heap.objs.size 1 .none:=v▸X6 _ rfl;rw[v];show⟨ae _ e rfl,h _ e (au _ (XM _ (X6 _ rfl)) rfl rfl) λb o q=>XM _ (XM _ q)⟩
 cases r with
 | error e=>show P
 | ok G =>
   cases G with
   | ret i =>
     obtain⟨D,T⟩:=P;have y:=F.called_enumerate.init.lookup;have C:=F.called_enumerate.init.bind i
     show 93
     show codeAny_mono (codeAny_call_builtin F.called_enumerate.init.plain F.entry_object_init (F.called_enumerate.init.check _ _ _ _ _ _ _ _ D (DP i (.ref l) t) (DQ i (.ref l) t prog w A.in1 (wants (λr q=>r = .none/\Q i q) E) B (bh D rl T)))) λx q m=>?_
     cases x with
     | error e=>show m
     | ok e =>
       cases e with
       | ret r =>
         obtain⟨rfl,T⟩:=m
         show 93
       | _=>show m.elim
   | _=>show P.elim
end
section
variable {X:Cx}{elts:List Expr}{n:Nat}{tp:Pos}
def Qu(K:b7)(z:TA):TI:=λU H R=>z U H λY N=>∃a,Y=[.ref a]/\(∃f,aH K N a f)/\R (Ho K 1 a) N
def tT{M:Model}{A:Around}{E:sG}{s:Shared}{env:Env}{l k kp:Pos}{cj}{e:Expr}{Q:sG}
 (h:wpAny M A (spliced (backTo l (starEach [e] env))) (λY w=>∀t,wpAny M A (call (.type "enumerate") Y [(Str.ofString "start",.int 1 t)]) Q E { w with toks:=w.toks+1}) E s)
 (W:starEach [e] env=[(false,eval e env)]:=by rfl) :
 wpAny M A (callWith l (.type "enumerate") [] (backTo l (starEach [e] env)) (backToKw l (keywordEach [⟨some (Str.ofString "start"),.Constant (.int 1) cj k,kp⟩] env))) Q E s:=by
 show aW (Ys (Yn (Q:=λa w=>wpAny M A (call (.type "enumerate") a.pos a.kw) Q E w) ?_ (λa w G=>aW (wpAny_standAt ?_)) λ_ _ q=>q))
 .rw[W]at h ⊢;show PyProof.Rows.evalArgs_kwB rl (Yn h (λY w G=>PyProof.Rows.kws_cons (wpAny_Constant_int (PyProof.Rows.kws_nil (G _)))) λ_ _ q=>q)
 .rw[W];show aW (XN ?_);show aW (Yn G (λr b P=>aW (Ys (wpAny_point (XN P)))) λ_ _ q=>q)
def K4(K:b7){a:Expr}{u:TA}{p l k kp:Pos}{cj}(y:Gl X "enumerate")(d:X.mg "enumerate"=none)(C:PA X [a] u)(W:12#([a])=[29#a]:=by rfl)(Q:X.K=K:=by rfl):
 PI X (.Tuple elts n tp) (.Call (.Name "enumerate" p) [a] [⟨some (Str.ofString "start"),.Constant (.int 1) cj k,kp⟩] l) (Qu K u):=by
 subst Q;intro A s U H R I h;show wpAny_Call_Name_kw (jy I y d boot_enumerate (tT (dW (C l A s U H _ I h) λg w=>aA λY N J B P t=>?_) W))
 revert P;show az λa e j q=>?_;obtain⟨f,T⟩:=j
 subst e;cases B with
 | cons r F =>
   cases F;cases r;show az (λE O D m=>?_) (J.list T)
   show DR D.isList λM o c x=>?_
   have v:θ X A U N { w with heap:=M,toks:=w.toks+1}:=J.kept (t':=w.toks+1) x
   show wpAny_pyIter_enum o (dU _ [w.heap.objs.size+1,w.heap.objs.size] _ (aQ _ N rl v (sZ 1 a _ _ (e! _)) ⟨⟨_,o⟩,c⟩ (λb Z=>?_) q))
   have i:w.heap.objs.size<=b:=by
    rcases(show b=w.heap.objs.size+1\/b=w.heap.objs.size by simpa using Z) with z|z
    .rw[z];show Y6 _
    .rw[z];show XJ _
   show J.vA i (J.hok.fresh i)
end
end L2
namespace Tx
open PySem
def ND{a b:Str}(h:a.cps.toList=b.cps.toList):a=b:=by
 cases a;cases b;show Yq Str.mk (H!.mp h)
def bM(n:Nat):Str:=Str.ofString (toString (n:Int))
def iS(n):113#(bM n)=(Nat.toDigits 10 n).map Char.toNat:=PySem.W.KIN.signs_num n
def gP(h:c∈113#(bM n)):48<=c/\c<=57:=by
 rw[iS]at h;show ah (λy w e=>?_) (XT.mp h)
 rw[<-e];show PyProof.Rows.digit_range (Nat.isDigit_of_mem_toDigits 4#0 4#0 w)
def kI(n):1<=(bM n).length:=by
 have h:(bM n).length=89#(bM n):=by simp[Str.length]
 rw[h,iS,XG];show PyProof.Rows.tDigits_len_ge 10 n
def eU(R:1<=k)(h:n<10^k):(bM n).length<=k:=by
 have e:(bM n).length=89#(bM n):=by simp[Str.length]
 rw[e,iS,XG];show PyProof.Rows.digits10_le R h
def tU(h:n<10^60):PySem.intText? (bM n)=some (n:Int):=by
 have S:=eU 4#0 h
 have j:PySem.NumText.AllDigits 113#(bM n):=λc L=>gP L
 have U:113#(bM n)≠[]:=λe=>by
  have z:=kI n;have y:(bM n).length=89#(bM n):=by simp[Str.length]
  rw[y,e]at z;show absurd z 4#0
 have e:=PySem.intText_digits j U (XY S 4#0)
 rw[iS,PySem.W.KIN.val_back]at e;show e
def xD(n):(113#(bM n))[0]?=some 48->n=0:=by
 rw[iS,XQ]
 induction n using Nat.strongRecOn with
 | _ m O =>
   by_cases h:m<10
   .rw[Nat.toDigits_of_lt_base h];intro q;have q:(Nat.digitChar m).toNat=48:=by simpa using q
    have:∀d:Nat,d<10->(Nat.digitChar d).toNat=48->d=0:=by decide
    show this m h q
   .have d:m%10<10:=Nat.mod_lt m 4#0
    have t:Nat.toDigits 10 (m/10)++Nat.toDigits 10 (m%10)=Nat.toDigits 10 (10*(m/10)+m%10):=Nat.toDigits_append_toDigits 4#0 (by lia) d
    rw[Nat.div_add_mod]at t;rw[<-t];intro q;have S:=PyProof.Rows.tDigits_len_ge 10 (m/10);rw[Yx (by lia)]at q
    have:=O (m/10) (by lia) q
    lia
def K5:bM 0=Str.ofString "0":=11#0
def lV(c:Nat):List (List Nat)->List Nat
 | []=>[]
 | [x]=>x
 | x::y::r=>x++c::lV c (y::r)
theorem ff(c):∀i:List Str,113#(Str.join ⟨#[c]⟩ i)=lV c (i.map (·.cps.toList))
 | []=>rfl
 | [x]=>rfl
 | x::y::r=>by
   change 113#((x++⟨#[c]⟩++Str.join ⟨#[c]⟩ (y::r)))=_;rw[PySem.W.KT.app_list,PySem.W.KT.app_list,ff c (y::r)];rw[D!];rfl
theorem tV:∀{x y r s:List Nat},c∉x->c∉y->x++c::r=y++c::s->x=y/\r=s
 | [],[],_,_,_,_,h=>25#(List.cons.inj h).2
 | [],b::y,_,_,_,hy,h=>absurd (by rw[(List.cons.inj h).1];show X0) hy
 | a::x,[],_,_,hx,_,h=>absurd (by rw[<-(List.cons.inj h).1];show X0) hx
 | a::x,b::y,_,_,hx,hy,h=>by
   obtain⟨G,C⟩:=List.cons.inj h;obtain⟨l,E⟩:=tV (λz=>hx (nc _ z)) (λz=>hy (nc _ z)) C
   show⟨by rw[G,l],E⟩
def A3{c:Nat}(W:c∉y)(h:x++c::r=y):False:=W (by rw[<-h];show iX _ X0)
theorem xE:∀{ps qs},ps≠[]->qs≠[]->(∀p∈ps,c∉p)->(∀q∈qs,c∉q)->lV c ps=lV c qs->ps=qs
 | [],_,h,_,_,_,_=>absurd rfl h
 | _::_,[],_,h,_,_,_=>absurd rfl h
 | [p],[q],_,_,_,_,h=>by rw[show p=q from h]
 | [p],q::q'::qs,_,_,hp,_,h=>(A3 (hp p X0) (h.symm)).elim
 | p::p'::ps,[q],_,_,_,hq,h=>(A3 (hq q X0) (h)).elim
 | p::p'::ps,q::q'::qs,_,_,hp,hq,h=>by
   obtain⟨G,C⟩:=tV (hp p X0) (hq q X0) (h);rw[G,xE 21#0 21#0 (λx B=>hp x (nc _ B)) (λx B=>hq x (nc _ B)) C]
theorem map_inj:∀{a b:List Str},a.map (·.cps.toList)=b.map (·.cps.toList)->a=b
 | [],[],_=>rfl
 | [],_::_,h=>nomatch h
 | _::_,[],h=>nomatch h
 | x::a,y::b,h=>by
   obtain⟨G,C⟩:=List.cons.inj h;rw[ND G,map_inj C]
def DS(x y):Txt.split x y≠[]:=λh=>by
 unfold Txt.split at h
 split at h
 .cases h
 .split at h
  .cases h
  .unfold Builtin.Str.partsBetween at h;have z:=Yq List.length h;rw[XG,List.length_zip]at z;simp at z
def kJ(g:i≠[])(Y:∀s∈i,c∉s.cps.toList):Txt.split (Txt.join ⟨#[c]⟩ i) ⟨#[c]⟩=i:=by
 have e:Txt.join ⟨#[c]⟩ i=Str.join ⟨#[c]⟩ i:=Yw _ i;have h:=PySem.StrLaws.join_split (Txt.join ⟨#[c]⟩ i) ⟨#[c]⟩;have C:=Yq (λs=>s.cps.toList) (h.trans e)
 simp only[ff]at C;have l:=xE (by simp[DS]) (by simpa using g) (λp t=>by
  show ah (λs W U=>?_) (XT.mp t);subst U
  show PySem.StrLaws.split_free _ c s W) (λp t=>by
  show ah (λs W f=>?_) (XT.mp t);subst f
  show Y s W) C
 show map_inj l
end Tx
namespace L2
open PySem PySem.Spec PyProof.Rows
def eB.mO(r:eB k A):A.units+65<cLine:=by have:=r.un;lia
section
variable {X:Cx}
def Uu:V->Option Int->90#(Option Int):=λx lo F H Q=>∃z:Str,x = .str z/\33#z.length/\Q (.str (Txt.slice z lo F)) H
def Vs(_:b7):PB X Uu:=by
 intro A s U H x v p G lo b O Q I c W D g h
 revert h;show az λz e m q=>?_;subst e
 show 60;show ao "str" _ F.slot_str_getitem.lookup (typeIs_str _ _ _) ?_;have a:∀d k,EP X A U Q (.str (Txt.slice z lo b) d) { s with toks:=k}:=λd k=>ao (.str _) H (I.tok _) ⟨d,rfl⟩ q
 cases D with
 | none =>
   cases g with
   | none=>show wpAny_getItem_str_slice (l:=none) (u:=none) (st:=none) W rfl (post_val_or_str ⟨XY (Txt.slice_le z _ _) m,a⟩)
   | int j u=>show wpAny_getItem_str_slice (l:=none) (u:=some (j,u)) (st:=none) W rfl (post_val_or_str ⟨XY (Txt.slice_le z _ _) m,a⟩)
 | int i C =>
   cases g with
   | none=>show wpAny_getItem_str_slice (l:=some (i,C)) (u:=none) (st:=none) W rfl (post_val_or_str ⟨XY (Txt.slice_le z _ _) m,a⟩)
   | int j u=>show wpAny_getItem_str_slice (l:=some (i,C)) (u:=some (j,u)) (st:=none) W rfl (post_val_or_str ⟨XY (Txt.slice_le z _ _) m,a⟩)
def Uv(K:b7):R2:=λx y H Q=>∃d W,jC K H x d/\jC K H y (.tuple W)/\99#d/\99#(.tuple W)/\Q (.bl (W.any λe=>PyData.eqv e d)) H
def DU(K:b7)(r:X.A.units+65<cLine)(e:X.K=K:=by rfl):jz X 115#.In (Uv K):=by
 subst e;show 95
 revert h;show eX λd W G C w M q=>?_
 obtain⟨g,b⟩:=G.reads I c;obtain⟨f,a⟩:=C.reads I L;show PySem.SeqAt.in_tuple_reads a b (SeqAt.canLay_of_shaped M) (SeqAt.canLay_of_shaped w) (by have J:=SeqAt.depth_of_shaped w;have D:=Nat.min_le_right (PyData.depthAll W) d.depth;lia) (ao (.bl _) H I rl q)
end
end L2
namespace Tx
open PySem
def bN(z:Int):Str:=Str.ofString (toString z)
def kK(h:0<=z):bN z=bM z.toNat:=by
 unfold bN bM;rw[Zx h]
def jn(h:z<0):113#(bN z)=45::113#(bM (-z).toNat):=by
 obtain⟨n,rfl⟩:=Int.eq_negSucc_of_lt_zero h;have e:(-(Int.negSucc n)).toNat=n+1:=by lia
 rw[e];unfold bN bM;rw[Str.ofString_eq_toList,Str.ofString_eq_toList];change((("-" ++ Nat.repr (n+1)).toList).map Char.toNat)=45::((Nat.repr (n+1)).toList.map Char.toNat);rw[String.toList_append,X5];rfl
def jo{z:Int}(h:z.natAbs<10^60):1<=(bN z).length/\(bN z).length<=61:=by
 by_cases m:0<=z
 .rw[kK m];show⟨kI _,XY (eU (k:=60) 4#0 (by lia)) 4#0⟩
 .have e:(bN z).length=89#(bN z):=by simp[Str.length]
  have D:27#(bM (-z).toNat)=89#(bM (-z).toNat):=by simp[Str.length]
  have l:=eU (n:=(-z).toNat) (k:=60) 4#0 (by lia)
  rw[e,jn (by lia),X7,<-D]
  lia
def int_sign(h:c∈113#(bN z)):c=45\/(48<=c/\c<=57):=by
 by_cases m:0<=z
 .rw[kK m]at h;show .inr (gP h)
 .rw[jn (by lia)]at h
  rcases XS.mp h with e|h
  .show .inl e
  .show .inr (gP h)
def o7{z:Int}(h:z.natAbs<10^60):PySem.intText? (bN z)=some z:=by
 by_cases m:0<=z
 .rw[kK m,tU (by lia),Zx m]
 .have T:113#(bM (-z).toNat)≠[]:=λe=>by
   have y:=kI (-z).toNat;have D:27#(bM (-z).toNat)=89#(bM (-z).toNat):=by simp[Str.length]
   rw[D,e]at y;show absurd y 4#0
  have e:=PySem.intText_neg (jn (by lia)) (λc L=>gP L) T (XY (jo h).2 4#0)
  rw[e,iS,PySem.W.KIN.val_back]
  congr 1
  lia
def tW(z)(h:z<0):89#(bN z)=89#(bM (-z).toNat)+1:=by
 rw[jn h,X7]
def HV(h:z<0):Txt.slice (bN z) none (some 1)=⟨#[45]⟩:=by
 change StrLaws.sliceText (bN z) none (some 1)=_;rw[StrLaws.sliceText_to ⟨by lia,by rw[tW z h];lia⟩,jn h]
 simp
def K6(h:z<0):Txt.slice (bN z) (some 1) none=bM (-z).toNat:=by
 change StrLaws.sliceText (bN z) (some 1) none=_;rw[StrLaws.sliceText_from ⟨by lia,by rw[tW z h];lia⟩,jn h]
 change Str.mk (List.take ((((89#(bM (-z).toNat)+1:Nat)):Int)-1).toNat 113#(bM (-z).toNat)).toArray=_;rw[show(((((89#(bM (-z).toNat)+1:Nat)):Int)-1).toNat)=89#(bM (-z).toNat) by lia,Yb]
end Tx
namespace RM
def lsum(L:Nat->Int)(f:Nat->Bool):Nat->Int
 | 0=>0
 | n+1=>lsum L f n+(if f n=true then L n else 0)
theorem kL:∀{n},(∀k,k<n->f k=g k)->lsum L f n=lsum L g n
 | 0,_=>rfl
 | n+1,h=>by
   unfold lsum;rw[kL λk R=>h k (by lia),h n (by lia)]
theorem jQ:∀{n},(∀k,k<n->f k=false)->lsum L f n=0
 | 0,_=>rfl
 | n+1,h=>by
   unfold lsum;rw[jQ λk R=>h k (by lia),h n (by lia)]
   simp
theorem A4:∀{n},a<n->(∀k,k<n->f k=decide (k=a))->lsum L f n=L a
 | 0,h,_=>by lia
 | n+1,C,h=>by
   unfold lsum
   by_cases e:a=n
   .subst e;rw[jQ λk R=>by rw[h k (by lia)];show fW (by lia),h a (by lia),e5 rfl]
    simp
   .rw[A4 (73#(a<n)) λk R=>h k (by lia),h n (by lia),fW (by lia)]
    simp
theorem qG:∀{n},(∀k,k<n->0<=L k)->(∀k,k<n->f k=true->g k=true)->lsum L f n<=lsum L g n
 | 0,_,_=>Zj _
 | n+1,a,h=>by
   unfold lsum;have O:=qG (n:=n) (λk R=>a k (by lia)) λk R=>h k (by lia)
   have J:=a n (by lia)
   have b:=h n (by lia)
   cases Y:f n with
   | false=>cases g n<;>simp<;>lia
   | true=>rw[b Y];simp;lia
theorem A5:∀{n},(∀k,k<n->0<=L k)->lsum L (λk=>f k^^g k) n<=lsum L f n+lsum L g n
 | 0,_=>Zj _
 | n+1,a=>by
   unfold lsum;have O:=A5 (f:=f) (g:=g) (n:=n) λk R=>a k (by lia)
   have J:=a n (by lia)
   cases f n<;>cases g n<;>simp<;>lia
theorem nZ:∀{n},(∀k,k<n->f k=true->g k=false)->lsum L (λk=>f k^^g k) n=lsum L f n+lsum L g n
 | 0,_=>rfl
 | n+1,h=>by
   unfold lsum;rw[nZ λk R=>h k (by lia)]
   have a:=h n (by lia)
   cases Y:f n with
   | false=>cases g n<;>simp<;>lia
   | true=>rw[a Y];simp;lia
def A6(h:k<n):lsum L (λj=>102#(2^k)) n=L k:=A4 h λj _=>by
 rw[Yi];show YN.mpr eq_comm
def qH(h:m<2^n)(Z:7#0=true):k<n:=by
 apply YI;intro R;rw[YO (X4 h (YQ 4#0 (by lia)))]at Z
 cases Z
def cd(x:Nat)(s:Bool):Nat:=2*x+s.toNat
def Jn(N:Net)(k v w:Nat):Prop:=(N.a k=v/\N.b k=w)\/(N.b k=v/\N.a k=w)
def Jn.lt{N:Net}(R:k<N.n)(h:Jn N k v w):w<N.p:=by
 rcases h with⟨_,rfl⟩|⟨_,rfl⟩
 .show N.bl k R
 .show N.al k R
inductive Wl(N:Net)(L:Nat->Int)(m u:Nat):List Nat->Nat->Bool->Int->Nat->Prop
 | nil:Wl N L m u [] u false 0 0
 | go {pre:List Nat} {v w k e:Nat} {s:Bool} {z:Int} (h:Wl N L m u pre v s z e) (hk:k<N.n) (hj:Jn N k v w):Wl N L m u (pre++[cd v s]) w (s^^7#0) (z+L k) (e^^^2^k)
def Wy(N:Net)(L:Nat->Int)(m u x:Nat)(s:Bool)(z:Int):Prop:=∃W e,Wl N L m u W x s z e
section
variable {N:Net}{L:Nat->Int}{m u:Nat}
def lW(a:∀k,k<N.n->0<=L k)(r:u<N.p)(h:Wl N L m u W v s z e):
 v<N.p/\e<2^N.n/\(∀x,N.bd e x=(decide (u=x)^^decide (v=x)))/\N.par e m=s/\lsum L (λk=>e.testBit k) N.n<=z/\0<=z:=by
 induction h with
 | nil =>
   show⟨r,(fE (Zi _) (λx=>?_) (oY m) ?_ (Zj _))⟩
   .rw[oQ];cases decide (u=x)<;>rfl
   .rw[jQ λk _=>Z6 k]
    show Zj _
 | @go W v w k e s z h R o O =>
   revert O;show eO λd c b i l n=>?_
   have J:=a k R;show⟨o.lt R,(fE (Y4 c (x! 4#0 R)) (λx=>?_) ?_ ?_ (by lia))⟩
   .rw[gM,b,lP R];unfold Net.inc;rcases o with⟨rfl,rfl⟩|⟨rfl,rfl⟩
    .cases decide (u=x)<;>cases 9#(N.a k=x)<;>cases 9#(N.b k=x)<;>rfl
    .cases decide (u=x)<;>cases 9#(N.a k=x)<;>cases 9#(N.b k=x)<;>rfl
   .rw[mL,i,F6 R]
   .have:=A5 (f:=λj=>e.testBit j) (g:=λj=>102#(2^k)) a
    rw[A6 R]at this;rw[kL λj _=>X8 ..]
    lia
def Qv(N:Net)(L:Nat->Int)(m u x:Nat)(s:Bool):Option Int->Prop
 | none=>∀z,¬ Wy N L m u x s z
 | some d=>Wy N L m u x s d/\∀z,Wy N L m u x s z->d<=z
def DV{x k:Nat}(h:x.testBit k=true):x^^^2^k<x:=by
 have J:=Nat.div_add_mod x (2^(k+1));have D:=Nat.div_add_mod (x^^^2^k) (2^(k+1));have T:(x^^^2^k)/2^(k+1)=x/2^(k+1):=YR λj=>by
  rw[Nat.testBit_div_two_pow,Nat.testBit_div_two_pow,X8,Yi,fW (by lia),ZL]
 have B:(x^^^2^k)%2^(k+1)<2^k:=Nat.lt_pow_two_of_testBit _ λj o=>by
  rw[Nat.testBit_mod_two_pow,X8,Yi]
  by_cases e:k=j
  .rw[<-e,h,e5 rfl];show Z0 _
  .rw[fW (73#(¬ j<k+1)),j!]
 have W:2^k<=x%2^(k+1):=Nat.ge_two_pow_of_testBit (by rw[Nat.testBit_mod_two_pow,h,e5 (Z1 _)];rfl)
 rw[T]at D
 lia
def tX(i:∀k,k<N.n->0<=L k)(m)(P:N.Ring r)(d:r<2^N.n):∃x,x<N.p/\Wy N L m x x (N.par r m) (lsum L (λk=>r.testBit k) N.n):=by
 obtain⟨E,Z⟩:=Zn P.1;have g:=N.al E (qH d Z);have F:∀(c e v:Nat) (b:List Nat) (s:Bool),r^^^e=c->Wl N L m (N.a E) b v s (lsum L (λk=>e.testBit k) N.n) e->(∀k,e.testBit k=true->r.testBit k=true)->∃b v s,Wl N L m (N.a E) b v s (lsum L (λk=>r.testBit k) N.n) r:=by
  intro c
  induction c using Nat.strongRecOn with
  | _ c O =>
    intro e v b s l w sub
    by_cases n:e=r
    .show dU b v s (n▸w)
    have f:=lW i g w;obtain⟨k,R,y,o⟩:∃k,(r^^^e).testBit k=true/\∃y,Jn N k v y:=by
     by_cases a:N.a E=v
     .show⟨E,(b9 ?_ _ (.inl ⟨a,rfl⟩))⟩;rcases P.2.2 e sub (λx _=>by rw[f.2.2.1,a,Bool.xor_self]) with z|z
      .rw[z,Zo];show Z
      .show absurd z n
     .have B:N.bd (r^^^e) v=true:=by rw[gM,P.2.1 v f.1,f.2.2.1,fW a,e5 rfl];rfl
      apply YI;intro h;unfold Net.bd at B;rw[g7 λk _=>?_]at B
      .cases B
      cases q:(r^^^e).testBit k with
      | false=>rfl
      | true =>
        unfold Net.inc;rw[fW λz=>h ⟨k,(b9 q _ (.inl ⟨z,rfl⟩))⟩,fW λz=>h ⟨k,(b9 q _ (.inr ⟨z,rfl⟩))⟩]
        rfl
    have t:=qH (Y4 d f.2.1) R;have M:e.testBit k=false:=by
     rw[X8]at R;cases q:e.testBit k with
     | false=>rfl
     | true=>rw[q,sub k q]at R;cases R
    have a:r.testBit k=true:=by rwa [X8,M,ZL]at R
    have W:lsum L (λj=>102#(e^^^2^k)) N.n=lsum L (λj=>e.testBit j) N.n+L k:=by
     rw[kL λj _=>X8 ..,nZ,A6 t]
     intro j _ o;rw[Yi];show fW λz=>by rw[z,o]at M;cases M
    have C:=w.go t o;rw[<-W]at C;show O (r^^^(e^^^2^k)) ?_ _ _ _ _ rl C λj o=>?_
    .rw[<-l,<-Y9];show DV R
    .rw[X8,Yi]at o
     by_cases z:k=j
     .rw[<-z];show a
     .rw[fW z,ZL]at o;show sub j o
 show eR (λb v s w=>?_) (F _ 0 _ [] false rl (by rw[jQ λk _=>Z6 k];show .nil) λk h=>by rw[Z6]at h;cases h)
 have f:=lW i g w;have a:N.a E=v:=by
  have:=f.2.2.1 v;rw[P.2.1 v f.1,e5 rfl]at this;cases h:9#(N.a E=v) with
  | true=>show om h
  | false=>rw[h]at this;cases this
 show ae (N.a E) g (fj b r ?_);rw[f.2.2.2.1];rw[<-a]at w;show w
def DW:∀c e,cnt (λk=>e.testBit k) N.n=c->e<2^N.n->N.gi e->N.par e m=true->∃r,N.Ring r/\(∀k,r.testBit k=true->e.testBit k=true)/\N.par r m=true:=by
 intro c
 induction c using Nat.strongRecOn with
 | _ c O =>
   intro e L p b t
   by_cases P:N.Ring e
   .show au e P (λ_ h=>h) t
   have J:e≠0:=λz=>by rw[z,oY]at t;cases t
   obtain⟨q,T,d,u,i⟩:∃q,(∀k,q.testBit k=true->e.testBit k=true)/\N.gi q/\q≠0/\q≠e:=by
    apply YI;intro h;show P (bh J b (λq T d=>?_))
    apply YI;intro C;show h (cS q T d (λz=>C (.inl z)) (λz=>C (.inr z)))
   have j:∀q,(∀k,q.testBit k=true->e.testBit k=true)->q≠e->cnt (λk=>q.testBit k) N.n<c:=by
    intro q T i;have G:=Qf (f:=λk=>q.testBit k) (g:=λk=>e.testBit k) (n:=N.n) λk _ h=>T k h
    have C:cnt (λk=>q.testBit k) N.n≠cnt (λk=>e.testBit k) N.n:=λh=>i (YR λk=>by
     by_cases R:k<N.n
     .have:=Kx (λk _ h=>T k h) h k R
      cases l:e.testBit k with
      | true=>show this l
      | false=>cases E:q.testBit k with
        | false=>rfl
        | true=>rw[T k E]at l;cases l
     .cases l:e.testBit k with
      | true=>show absurd (qH p l) R
      | false=>cases E:q.testBit k with
        | false=>rfl
        | true=>rw[T k E]at l;cases l)
    lia
   have s:∀q,(∀k,q.testBit k=true->e.testBit k=true)->q<2^N.n:=λq T=>fH λk R=>qH p (T k R)
   have o:∀k,(e^^^q).testBit k=true->e.testBit k=true:=λk R=>by
    rw[X8]at R;cases l:e.testBit k with
    | true=>rfl
    | false =>
      cases E:q.testBit k with
      | false=>rw[l,E]at R;cases R
      | true=>rw[T k E]at l;cases l
   have a:∀q,(∀k,q.testBit k=true->e.testBit k=true)->q≠e->N.gi q->N.par q m=true->∃r,N.Ring r/\(∀k,r.testBit k=true->e.testBit k=true)/\N.par r m=true:=by
    intro q T i d h;show az (λr G C l=>?_) (O _ (j q T i) q rl (s q T) d h)
    show au r G (λk R=>T k (C k R)) l
   cases h:N.par q m with
   | true=>show a q T i d h
   | false =>
     show a (e^^^q) o (λz=>u ?_) (gi.xor b d) (by rw[mL,t,h];rfl)
     have:e^^^(e^^^q)=e^^^e:=by rw[z]
     rwa [<-Y9,Z4,Zp]at this
end
end RM
namespace Ring
open PySem L2
def di(J:List cU)(k:Nat):Int:=(dG J k).2.2
theorem xF(ts)(f):∀n,Hw ts f n=RM.lsum (di ts) f n
 | 0=>rfl
 | n+1=>by
   change Hw ts f n+_=RM.lsum (di ts) f n+_;rw[xF ts f n];rfl
def kM{J:List cU}(d:m<48#0):υ J m=RM.lsum (di J) (λk=>7#0) J.length:=by
 rw[Hx d,xF]
def xG(g:ay p J):∀k,k<g.N.n->0<=di J k:=λk R=>by
 have:=(g.gU _ (eZ R)).l0;unfold di
 lia
structure DX(H0:Hp)(D:Addr)(es:List Addr)(F:Nat->Bool->Option Int)(H:Hp):Prop where
 same:aj H0 H
 nd:es.Nodup
 ne:D∉es
 fr:∀b∈es,H0 b=none
 Dn:H0 D=none
 lst:H D=1#(es.map V.ref)
 at_:∀i b,es[i]?=some b->H b=1#([oV (F i false),oV (F i true)])
def DX.go{H0 H H'}{D}{es}{F}(h:DX H0 D es F H)(s:aj H H'):DX H0 D es F H' :=
 ⟨h.same.trans s,h.nd,h.ne,h.fr,h.Dn,s _ _ h.lst,λi b e=>s _ _ (h.at_ i b e)⟩
def DX.off(h:DX t D W F H)(a:H L=none):L∉W:=λz=>by
 obtain⟨j,o⟩:=Zd z;have:=h.at_ j L o;rw[a]at this;cases this
def A7(t:Hp)(D:Addr)(i:Nat)(I:List V)(H:Hp):Prop:=∃W,I=W.map V.ref/\W.length=i/\DX t D W (λ_ _=>none) H
def A7.start(u:t D=none):A7 t D 0 [] (86#t) :=
 (au [] rl rl ⟨aj.new u,J',ZF,λ_ h=>(ZF h).elim,u,aa,λi b e=>by cases e⟩)
def A7.len(h:A7 t D i I H):10#H/\I.length<=i:=by
 revert h;show az λW C e r=>?_;subst C
 show⟨r.lst,by rw[XG];lia⟩
def A7.next(h:A7 t D i I H)(Z:H b=none):η H b (.lst [.fg,.fg]) D=some (.lst I)/\A7 t D (i+1) (I++[.ref b]) (η (η H b (.lst [.fg,.fg])) D 28#(I++[.ref b])):=by
 revert h;show az λf l e r=>?_;subst l
 have g:D≠b:=λz=>by
  have:=r.lst;rw[z,Z]at this;cases this
 have F:=r.off Z;have a:=r.same.free Z;show⟨by rw[aq g];show r.lst,(au (f++[b]) 21#0 (by simp[e]) ⟨(r.same.put a).put r.Dn,?_,?_,λc L=>?_,r.Dn,by rw[aa];simp,λj c L=>?_⟩)⟩
 .show F!.mpr (bh r.nd 21#0 (λx B y W=>by rw[XU.mp W];show λz=>F (z▸B)))
 .intro d;rcases Ye.mp d with z|z
  .show r.ne z
  .show g (XU.mp z)
 .rcases Ye.mp L with z|z
  .show r.fr c z
  .rwa [XU.mp z]
 .have k:c≠D:=λz=>by
   subst z;rcases Ye.mp (fC L) with z|z
   .show r.ne z
   .show g (XU.mp z)
  rw[aq k]
  by_cases d:c=b
  .rw[d,aa];rfl
  .rw[aq d]
   by_cases o:j<f.length
   .rw[Yx o]at L;show r.at_ j c L
   .rw[YB (by lia)]at L
    have:=fC L;show absurd (XU.mp this) d
end Ring
namespace RM
open Ring (maskOf mask_bit mask_lt)
def lX(h:a^^^b=0):a=b:=by
 have:=Yq (λy=>y^^^b) h
 simp only[Zp]at this
 rwa [Y9,Z4,Zo]at this
def Δ:List Nat->Nat->Nat
 | [],_=>0
 | b::B,z=>(if z.testBit 0=true then b else 0)^^^Δ B (z/2)
def K7(a b c d:Nat):(a^^^b)^^^(c^^^d)=(a^^^c)^^^(b^^^d):=YR λi=>by
 simp only[X8];cases a.testBit i<;>cases b.testBit i<;>cases c.testBit i<;>cases d.testBit i<;>rfl
def K8(z y):(z^^^y)/2=z/2^^^y/2:=YR λi=>by
 rw[X8,<-h!,<-h!,<-h!,X8]
theorem tY:∀B z y,Δ B (z^^^y)=Δ B z^^^Δ B y
 | [],_,_=>by simp[Δ]
 | b::B,z,y=>by
   unfold Δ;rw[K8,tY B,X8,K7]
   congr 1
   cases z.testBit 0<;>cases y.testBit 0<;>simp
theorem qI:∀B,Δ B 0=0
 | []=>rfl
 | b::B=>by
   unfold Δ;rw[Z6,show 0/2=0 from rfl,qI B]
   simp
def K9(i):2^(i+1)/2=2^i:=by
 rw[Z5,Nat.mul_div_cancel _ 4#0]
theorem A8:∀{B} {i b},B[i]?=some b->Δ B (2^i)=b
 | [],i,b,h=>by simp at h
 | g::B,0,b,h=>by
   have:g=b:=by simpa using h
   subst this;unfold Δ;rw[show(2^0:Nat).testBit 0=true from rfl,XI rfl,show(2^0)/2=0 from rfl,qI,Zo]
 | g::B,i+1,b,h=>by
   unfold Δ;have J:(2^(i+1)).testBit 0=false:=by rw[Yi];simp
   rw[J,XH 4#0,Zp,K9]
   show A8 h
theorem mP:∀B b z,Δ (B++[b]) z=Δ B z^^^(if z.testBit B.length=true then b else 0)
 | [],b,z=>by
   change(if z.testBit 0=true then b else 0)^^^0=0^^^_
   rw[Zo,Zp];rfl
 | g::B,b,z=>by
   change(if z.testBit 0=true then g else 0)^^^Δ (B++[b]) (z/2)=((if z.testBit 0=true then g else 0)^^^Δ B (z/2))^^^_
   rw[mP B b (z/2),Y9,<-h!];rfl
theorem xH:∀B {z},(∀i,i<B.length->z.testBit i=false)->Δ B z=0
 | [],_,_=>rfl
 | b::B,z,h=>by
   unfold Δ;rw[h 0 21#0,XH 4#0,Zp]
   show xH B λi F=>by rw[<-h!];show h (i+1) (by simp;lia)
def Gg(B):∀z,Sp B (Δ B z):=by
 induction B with
 | nil=>intro z;show .zero
 | cons b B O =>
   intro z;have h:Sp (b::B) (Δ B (z/2)):=(O (z/2)).mono λc L=>.mem (nc _ L)
   unfold Δ;rw[O!]
   by_cases e:z.testBit 0=true
   .rw[XI e];show h.add X0
   .rw[XH e,Zo];show h
def Gh(h:Sp B x):∃z,z<2^B.length/\Δ B z=x:=by
 induction h with
 | zero=>show ae 0 (Zi _) (qI B)
 | add h Z O =>
   revert O;show ah λz m e=>?_
   obtain⟨i,F⟩:=Zd Z;have t:=(jc.mp F).1;show ae (z^^^2^i) (Y4 m (x! 4#0 t)) (by rw[tY,e,A8 F])
def Gi(B:List Nat):Prop:=∀z,z<2^B.length->Δ B z=0->z=0
def La(B:List Nat):Prop:=∀i b,B[i]?=some b->¬ Sp (B.take i) b
def A9:Gi (B++[b])↔Gi B/\¬ Sp B b:=by
 have S:27#(B++[b])=B.length+1:=by simp
 constructor
 .intro h;show⟨λz m e=>h z ?_ ?_,λW=>?_⟩
  .rw[S,Z5];lia
  .rw[mP,e,YO m];simp
  .show ah (λy a e=>?_) (Gh W)
   have Z:2^B.length<2^(B.length+1):=x! 4#0 (by lia)
   have:=h (y^^^2^B.length) (by rw[S];show Y4 (by lia) Z) (by
    have G:(y^^^2^B.length).testBit B.length=true:=by
     rw[X8,YO a,Nat.testBit_two_pow_self];rfl
    have C:Δ B (2^B.length)=0:=xH B λi F=>by
     rw[Yi];show fW (by lia)
    rw[mP,G,XI rfl,tY,C,e,Zo,Z4])
   have l:(y^^^2^B.length).testBit B.length=false:=by rw[this,Z6]
   rw[X8,YO a,Nat.testBit_two_pow_self]at l;cases l
 .rintro⟨h,W⟩ z m e;rw[mP]at e
  by_cases Z:z.testBit B.length=true
  .rw[XI Z]at e;have D:Δ B z=b:=by
    have:=Yq (λy=>y^^^b) e
    simp only[qE,Zp]at this;show this
   show absurd (D▸Gg B z) W
  .rw[XH Z,Zo]at e;show h z ?_ e;show fH λk R=>?_
   have:=fP m R;rw[S]at this;have:k≠B.length:=λe=>Z (e▸R)
   lia
def HW:La (B++[b])↔La B/\¬ Sp B b:=by
 constructor
 .intro h;show⟨λi c L=>?_,?_⟩
  .have F:=(jc.mp L).1;have:=h i c (by rw[Yx F];show L)
   rwa [F? (Za F)]at this
  .have:=h B.length b 21#0
   rwa [List.take_left' rfl]at this
 .rintro⟨h,W⟩ i c L
  by_cases F:i<B.length
  .rw[Yx F]at L;rw[F? (Za F)];show h i c L
  .have S:=(jc.mp L).1;have e:i=B.length:=by simp at S;lia
   subst e;rw[YB (XJ _),n!]at L;have:b=c:=by simpa using L
   subst this
   rwa [List.take_left' rfl]
def take_snoc{B:List Nat}(h:B[i]?=some b):B.take (i+1)=B.take i++[b]:=by
 rw[Yc,h];rfl
def Gj(B):Gi B↔La B:=by
 have F:∀n,n<=B.length->(Gi (B.take n)↔La (B.take n)):=by
  intro n
  induction n with
  | zero=>show λ_=>⟨λ_ i b h=>by simp at h,λ_ z m _=>by simp at m;show m⟩
  | succ n O =>
    intro g;have Z:=XW g;rw[take_snoc Z,A9,HW,O (by lia)]
 have:=F B.length (XJ _)
 rwa [Yb]at this
section
variable {N:Net}
structure Base(N:Net)(rs:List Nat):Prop where
 len:rs.length=N.bZ.length
 ring:∀r∈rs,N.Ring r/\r<2^N.n
 ind:Gi rs
end
end RM
namespace Ring
open PySem L2
def Lb{m:Nat}(h:m≠0):19#(66#(m:Int))-1=19#m.log2:=by
 rw[s8,XH h]
 lia
end Ring
namespace RM
def jR:Gi (b::B)↔Gi B/\¬ Sp B b:=by
 have a:∀z,(2*z).testBit 0=false:=λz=>by rw[w?];show fW (by lia)
 have c:∀z,(2*z+1).testBit 0=true:=λz=>by rw[w?];show e5 (by lia)
 constructor
 .intro h;show⟨λz m e=>?_,λW=>?_⟩
  .have:=h (2*z) (by rw[X7,Z5];lia) (by
    unfold Δ;rw[a,XH 4#0,Zp,73#(2*z/2=z)]
    show e)
   lia
  .show ah (λy d e=>?_) (Gh W)
   have:=h (2*y+1) (by rw[X7,Z5];lia) (by
    unfold Δ;rw[c,XI rfl,show(2*y+1)/2=y by lia,e,Z4])
   lia
 .rintro⟨h,W⟩ z m e;unfold Δ at e;rw[X7,Z5]at m
  by_cases Z:z.testBit 0=true
  .rw[XI Z]at e;have D:=lX e;show absurd (D▸Gg B (z/2)) W
  .rw[XH Z,Zp]at e;have J:=h (z/2) (by lia) e
   rw[w?,decide_eq_true_iff]at Z
   lia
def NF{B C:List Nat}(h:B.Perm C)(x:Nat):Sp B x↔Sp C x :=
 ⟨λz=>z.mono λb Z=>.mem (h.mem_iff.mp Z),λz=>z.mono λb Z=>.mem (h.mem_iff.mpr Z)⟩
def Lc{B C:List Nat}(h:B.Perm C):Gi B↔Gi C:=by
 induction h with
 | nil=>show Iff.rfl
 | cons x h O=>rw[jR,jR,O,NF h]
 | swap x y l =>
   rw[jR,jR,jR,jR,Sp.A1,Sp.A1,O! y x]
   constructor
   .rintro⟨⟨G,b⟩,a⟩;show⟨⟨G,λz=>a (.inl z)⟩,λz=>z.elim b λz=>a (.inr z)⟩
   .rintro⟨⟨G,b⟩,a⟩;show⟨⟨G,λz=>a (.inl z)⟩,λz=>z.elim b λz=>a (.inr z)⟩
 | trans _ _ d c=>show d.trans c
def Base.perm{rs c:List Nat}(b:Base N rs)(h:c.Perm rs):Base N c :=
 ⟨by rw[h.length_eq];show b.len,λr P=>b.ring r (h.mem_iff.mp P),(Lc h).mpr b.ind⟩
end RM
namespace L2
open PySem PySem.Spec PyProof.Rows
def eE(q:Str)(l:Pos):Array Value:=#[.str q 0,rawInt l.line,rawInt l.col]
def o8(l:Pos)(c:Addr):Array Value:=#[rawInt l.line,rawInt l.col,.ref c]
def gD(H:Hp)(P c:Addr)(oc:Obj)(q:Str)(l:Pos):Hp:=η (η H c (.ou oc (.own P))) P (.gT (eE q l++o8 l c))
def given(H:Hp)(P c:Addr)(q:Str)(l:Pos):Hp:=η (η H c (.own P)) P (.gT (eE q l))
def CodeObj(oc:Obj)(q:Str):Prop:=∃Y t,oc.data = .fields Y/\Y[1]?=some (.str q t)
def CodeObj.rec{h:Heap}(x:CodeObj oc q)(e:h.get? c=some oc):h.CodeRec (.ref c) q :=
 let⟨vs,t,e1,e2⟩:=x
 (fj c oc (aM vs t rl e e1 e2))
def Qw(x:dO P w H h a (.gT (eE q g))):
 118#(PySem.W.tabObj #[])\/∃c oc,118#(PySem.W.tabObj (o8 g c))/\H c=some (.own a)/\h.get? c=some oc/\CodeObj oc q:=by
 revert x;show ah λi e f=>?_
 rcases f with⟨_,f|⟨c,J,D,O,oc,Y,d,L,F,j,b⟩⟩|⟨U,l,k,f,z⟩
 .subst f;show .inl e
 .cases L;subst J;show .inr (ao c oc e D (bg F Y d j b))
 .have:=Yq Array.size f;rw[Array.size_append,z]at this;show absurd this (by simp[eE])
def Ld(x:dO P w H h a (.gT (eE q b++o8 b c))):118#(PySem.W.tabObj (o8 b c)):=by
 revert x;show ah λi e f=>?_
 rcases f with⟨f,_⟩|⟨U,l,k,f,z⟩
 .rw[Array.size_append]at f;show absurd f (by simp[eE,o8])
 .have D:=Yq (λa=>a.toList.drop 3) f
  simp only[Array.toList_append,eE,o8,List.cons_append,List.nil_append,List.drop_succ_cons,L!]at D;have E:i=o8 b c:=by
   apply H!.mp;show D.symm
  rwa [<-E]
abbrev Ba(X:Cx)(l:Arguments)(p:Expr)(scope:Scope)(c:Addr)(j:Value):FuncData :=
 PySem.W.kla_fn "<lambda>" (X.env.qual ++ "<lambda>") l p scope (58#0) ((X.mg "__name__").getD .none) (.ref c) j
abbrev fB(X:Cx)(l:Arguments)(p:Expr)(scope:Scope)(c:Addr)(j:Value):Obj :=
 { cls:=.type "function",data:=.func (Ba X l p scope c j)}
section
variable  {pq:cM}{σ:St}       {own fq:List Str}
def Bb
 (I:5#H) (T:eL X scope own fq js) (hcode:X.env.code = .ref c) (hK:PySem.W.codeHdIn X.K c P=true) (g:H P=64#(eE (X.env.qual ++ "<lambda>") l))
 (hdef:defaultsOf params X.env=([],[]))
 (h:∀f O oc j G,(H O=none\/H O=some (.own P))->O≠P->CodeObj oc (X.env.qual ++ "<lambda>")->θ X ((f,fB X params body scope O j)::pq) σ (gD H P O oc (X.env.qual ++ "<lambda>") l) G->Q (.ref f) G) :
 wpAny 8#0 X.A (eval (.Lambda params body scope l) X.env) Q E s:=by
 have WG:=Qw (I.hok P _ g);have C:=PySem.W.codeHd_of_K I.sI hK;have hg:=I.mod.glob.keeps I.bk;have Vt:∀b o,47#X.base.get?->b≠P:=λb o q z=>by
  have:=(I.bs b o q).2;rw[z,g]at this;cases this
 have hgP:mainGlobals≠P:=by
  show cu (λo W N q _=>?_) I.mod.glob
  show Vt _ o q
 have Z:s.heap.BuiltinsAt X.mg P:=by
  show aR (λbm ob b1=>m9 λS b3 b4 b5 b6=>?_) I.mod.bmain
  show aM bm ob b1 S (λz=>?_) (fE (Vt _ _ b3) (I.bk _ _ b3) b4 b5 b6)
  show cy (λo W N q hd _=>?_) I.mod.glob
  rw[z,q]at b3;cases b3;rw[hd]at b6;cases b6
 have hcl:=ki (gx I T);have fin:∀(f O:Addr) (oc:Obj) (j:Value) (h2:Heap) (tk:Nat),(H O=none\/H O=some (.own P))->O≠P->(H O=none->s.heap.objs.size<=O)->CodeObj oc (X.env.qual ++ "<lambda>")->(∀b o,b≠P->18#o->47#h2.get?)->
  h2.get? P=some (PySem.W.tabObj (o8 l O))->h2.get? O=some oc->s.heap.objs.size<=f->f≠O->h2.get? f=some (fB X params body scope O j)->
  θ X ((f,fB X params body scope O j)::pq) σ (gD H P O oc (X.env.qual ++ "<lambda>") l) { s with heap:=h2,toks:=tk}:=by
  intro f O oc j h2 tk L Gk hnew k B Vu w hf hfc WH;have nP:∀b,H b=none->b≠P:=λb n z=>by rw[z,g]at n;cases n
  have Uw:∀b u,H b=some u->(∀y,u≠.own y)->(∀m,u≠.gT m)->gD H P O oc (X.env.qual ++ "<lambda>") l b=some u:=λb u e n1 n2=>by
   unfold gD;rw[aq (λz=>by rw[z,g]at e;show n2 _ (13#e).symm),aq (λz=>by
    rw[z]at e;rcases L with q|q
    .rw[q]at e;cases e
    .rw[q]at e;show n1 _ (13#e).symm)]
   show e
  have Vv:∀b,H b=none->(b<s.heap.objs.size\/b≠O)->gD H P O oc (X.env.qual ++ "<lambda>") l b=none:=λb n Z=>by
   unfold gD;rw[aq (nP b n),aq (λz=>by
    rcases Z with q|q
    .rw[z]at q n;show absurd (hnew n) (Nat.not_le.mpr q)
    .show q z)]
   show n
  have un:Un X.fs [] H (gD H P O oc (X.env.qual ++ "<lambda>") l) s.heap h2:=by
   show⟨λb o q n _ _=>B b o (nP b n) q,λb o q n _ _=>⟨o.slots,B b o (nP b n) q⟩,λb o q n _=>Vv b n (.inl (XX q)),λb o q _=>?_,λb xs q=>Uw b _ q (by intro y z;cases z) (by intro y z;cases z),λb o u q=>Uw b _ q (by intro y z;cases z) (by intro y z;cases z),λb i q=>?_⟩
   .by_cases Z:b=P
    .show⟨_,by rw[Z];show Vu⟩
    .show⟨o,B b o Z q⟩
   .by_cases Z:b=P
    .subst Z;rw[g]at q;cases q;show⟨o8 l O,aa⟩
    .show⟨#[],?_⟩;unfold gD;rw[aq Z,aq (λz=>by
      rw[z]at q;rcases L with r|r<;>(rw[r]at q;cases q)),q]
     simp
  have A:lC X.prog X.w (gD H P O oc (X.env.qual ++ "<lambda>") l) h2:=λb u q=>by
   by_cases Sm:b=P
   .subst Sm;unfold gD at q;rw[aa]at q;cases q;show ae _ Vu (.inr (eV _ _ _ rl rl))
   .by_cases hbc:b=O
    .subst hbc;unfold gD at q;rw[aq Sm,aa]at q;cases q;show b9 w oc w
    .have U:H b=some u:=by
      unfold gD at q;rw[aq Sm,aq hbc]at q;show q
     have ow:∀d,H d=some (.own b)->d≠P/\d≠O:=λd qd=>⟨cC qd g 26#0,λz=>by
      rw[z]at qd;rcases L with r|r
      .rw[r]at qd;cases qd
      .rw[r]at qd;cases qd;show Sm rfl⟩
     show(I.hok b u U).stay (λd v hd qd=>B d v ?_ qd) (λd qd=>?_) λd xs qd=>Uw d _ qd (by intro y z;cases z) (by intro y z;cases z)
     .rcases hd with rfl|hd
      .show Sm
      .show(ow d hd).1
     .unfold gD
      rwa [aq (ow d qd).1,aq (ow d qd).2]
  have J:=I.un (t':=tk) un A;have WI:=I.hok.fresh hf;show J.gF λp hp=>?_
  rcases XS.mp hp with rfl|hp
  .show fE WH (Vv _ WI (.inr hfc)) (Zb (X4 I.lt hf)) (I.Ry hf) λv z=>by cases z
  .show J.pin p (iX _ hp)
 show PySem.W.kla_eval hdef ?_;rcases WG with e|⟨O,oc,e,F,w,k⟩
 .show PySem.W.kla_makeFunction hcl I.ok.glob hg hcode C e trivial rl hgP Z λO j M tk B hge hlt hrec htb=>?_
  revert hrec;show eR λc2 oc Y=>d8 λt D w hd a=>?_
  cases D;have hf:=XY hge (Za hlt);have Gk:=Zb (X4 (XX e) hge);show h _ O oc j _ (.inl (I.hok.fresh hge)) Gk (bf Y t hd a) (fin _ O oc j _ tk (.inl (I.hok.fresh hge)) Gk (λ_=>hge) (bf Y t hd a) (λb o Z q=>XM _ (B b o Z q)) (XM _ htb) (XM _ w) hf (Zb hlt) (X6 _ rl))
 .have hf:codeAmong l (o8 l O).toList=some (.ref O):=codeAmong_snoc [] trivial rfl;have tr:=TriplesOk_snoc l.line l.col (.ref O) [] trivial;show PySem.W.kla_makeFunctionHit hcl I.ok.glob hg hcode C e tr hf Z λj M tk R x=>?_
  have Gk:=cC F g 26#0
  have hk' : ∀b o,18#o->47#(M.push (fB X params body scope O j)).get?:=λb o q=>XM _ (R b o q)
  show h _ O oc j _ (.inr F) Gk k (fin _ O oc j _ tk (.inr F) Gk (λz=>by rw[F]at z;cases z) k (λb o _ q=>hk' b o q) (hk' _ _ e) (hk' _ _ w) x (Zb (X4 (XX w) x)) (X6 _ rfl))
def Bc{F:St}(h:θ X M F H N)(g:H P=64#(eE q l))(L:H c=none\/H c=some (.own P))(a:c≠P)(k:CodeObj oc q)
 (I:5#O) (J:O P=64#(eE q l++o8 l c)) (D:O c=some (.ou oc (.own P))):5#(given O P c q l):=by
 have G:=Ld (I.hok P _ J);obtain⟨w,_⟩:=(I.hok c _ D);have C:∀b,O b=none->given O P c q l b=none:=λb n=>by
  unfold given
  rwa [aq (λz=>by rw[z,J]at n;cases n),aq (λz=>by rw[z,D]at n;cases n)]
 have A:∀b u,b≠P->b≠c->O b=some u->given O P c q l b=some u:=λb u R T e=>by
  unfold given
  rwa [aq R,aq T]
 show⟨I.ok,I.os,I.bare,⟨I.base.keep,I.base.slot,λb o z n B=>C b (I.base.free b o z n B),I.base.there,λb f z=>?_,λb o u z=>?_,λb i z=>?_⟩,I.loc,I.cell,C _ I.free,λx S z=>C _ (I.gz x S z),λp t=>?_,λb u z=>?_,I.len⟩
 .have r:=I.base.tups b f z;show A b _ (cC r J 26#0) (cC r D 26#0) r
 .have r:=I.base.jx b o u z;show A b _ (cC r J 26#0) (λy=>?_) r
  have W:=h.base.jx b o u z;rw[y]at W;rcases L with L|L<;>(rw[L]at W;cases W)
 .by_cases Z:b=P
  .subst Z;obtain⟨Q,W⟩:=h.base.lD b i z;rw[g]at W;show⟨Q,by unfold given;rw[aa];show W⟩
  .obtain⟨Q,r⟩:=I.base.lD b i z;show⟨Q,A b _ Z (cC r D 26#0) r⟩
 .show c5 (λm E v=>?_) (I.pin p t)
  show bh m (C _ E) v
 .by_cases j:b=P
  .subst j;unfold given at z;rw[aa]at z;cases z;show ae _ G (.inl 25#(.inr (au c rl ?_ (k.rec w))));unfold given;rw[aq a,aa]
  .by_cases m:b=c
   .subst m;unfold given at z;rw[aq j,aa]at z;cases z;show⟨oc,w⟩
   .have y:O b=some u:=by
     unfold given at z;rw[aq j,aq m]at z;show z
    show(I.hok b u y).stay (λ_ _ _ r=>r) (λd r=>A d _ (cC r J 26#0) (cC r D 26#0) r) λd f r=>A d _ (cC r J 26#0) (cC r D 26#0) r
def Bd(g:H P=64#(eE q l))(L:H c=none\/H c=some (.own P))(a:c≠P)(S:aj (gD H P c oc q l) O):aj H (given O P c q l):=λb u e=>by
 unfold given
 by_cases j:b=P
 .subst j;rw[aa,<-g];show e
 .rw[aq j]
  by_cases m:b=c
  .subst m;rw[aa];rcases L with L|L
   .rw[L]at e;cases e
   .rw[<-L];show e
  .rw[aq m];show S b u ?_;unfold gD
   rwa [aq j,aq m]
def sq(g:H P=64#(eE q l))(L:H c=none\/H c=some (.own P))(e:H b=some u)(R:∀y,u≠.own y)(T:∀m,u≠.gT m):gD H P c oc q l b=some u:=by
 unfold gD;rw[aq (λz=>by rw[z,g]at e;show T _ (13#e).symm),aq (λz=>by
  rw[z]at e;rcases L with q|q
  .rw[q]at e;cases e
  .rw[q]at e;show R _ (13#e).symm)]
 show e
def tZ(X:Cx)(N:List Str)(scope:Scope)(f c:Addr)(A:Around)(s:Shared)(H:Hp):Cx where
 prog:=X.prog
 w:=X.w
 K:=X.K
 mg:=X.mg
 base:=X.base
 A:=A.deeper (PySem.W.envX (X.env.qual ++ "<lambda>") scope s.heap.objs.size f (.ref c) (58#0))
 N:=N
 s₀:=s
 H₀:=H
 env:=PySem.W.envX (X.env.qual ++ "<lambda>") scope s.heap.objs.size f (.ref c) (58#0)
 outer:=X.stack
 stack:=PySem.W.envX (X.env.qual ++ "<lambda>") scope s.heap.objs.size f (.ref c) (58#0)::X.stack
 ex:=[]
 fn:=λ_=>false
 calm:=X.calm
 pn:=[]
 xe:=40#0
def NG{A:Around}{G:Heap}(I:5#H)(T:eL X scope [x] fq js)(B:83#x=some .local)
 (w:A.frames=some X.stack) (N:A.handled=X.A.handled) (r:ο v u) (F:∀b o,18#o->47#G.get?) (g:G.Ns s.heap.objs.size (λy=>[(x,u)].reverse.lookup y)) :
 θ (tZ X ([x]++fq) scope f c A s H) [] (some v::fZ σ js) H { s with heap:=G,toks:=t1}:=by
 have M:∀x c,(58#0).lookup x=some c->32#x:=λx c h=>by
  rcases jj h with q|⟨P,E⟩
  .cases q
  .obtain⟨O,n⟩:=gx I T x .free P rfl;rw[n]at E;rw[n];show Yq some E
 show⟨⟨I.ok.mod,T.kind,rfl,rfl,XJ _,λx y c a b=>I.ok.inj x y c (M x c a) (M y c b),λy W=>?_,λx c z _=>(nomatch z),λL=>N.trans (I.ok.hd L),Around.frames_deeper w,.inr ⟨rfl,rfl⟩,λb Z=>absurd (show b∈([]) from Z) 21#0,
  λb o e=>I.bs b o e,XY I.ok.Jo I.sz,λb o _ Z=>absurd (show b∈([]) from Z) 21#0,λb Z=>absurd (show b∈([]) from Z) 21#0,I.stack,I.rY⟩,
  rfl,I.bare,Un.kept F,ae _ g λi y m J D E=>?_,λy c e=>?_,I.hok.fresh (XJ _),λy c e=>I.gz y c (M y c e),λp t=>absurd (show p∈([]) from t) 21#0,I.hok.kept F,?_⟩
 .have W:=W;rcases W with W|W
  .show absurd rl (T.yK _ (YY W))
  .show i0 (.inl (YY W))
 .replace J:([x]++fq)[i]?=some y:=J
  cases i with
  | zero =>
    have J:x=y:=by simpa using J
    have D:v=m:=by simpa using D
    subst J D;show ae u r (.inl ⟨B,by simp⟩)
  | succ i =>
    have J:fq[i]?=some y:=by simpa using J
    have D:(fZ σ js)[i]?=some (some m):=by simpa using D
    show ah (λj a Q=>?_) (sW D)
    have U:X.N[j]?=some y:=by
     have q:=Yq (λl=>l[i]?) T.at_
     simp only[XQ,a,J,ZQ]at q;show 13#q
    have E:=T.fr y (fC J);have d:=YY E;have R:=T.free (y,.free) d rfl;show ah (λa e p=>?_) I.loc
    show ah (λC P l=>?_) (p j y m U Q (by rcases R with k | k;show .inr (.inl k);show .inr (.inr k)))
    show ae C P (.inr ⟨.inr E,?_⟩);rcases l with⟨t,_⟩|⟨_,S,L,Y⟩
    .have t:31#y:=t;rcases R with k|k<;>(rw[t]at k;cases k)
    .obtain⟨O,n⟩:=i0 (.inl d);have q:=M y O n;rw[L]at q;cases q;show ae S n (Y.keeps F)
 .obtain⟨m,q⟩:=I.cell y c (M y c e);show⟨m,q.keeps F⟩
 .change _=27#([x]++fq);have q:=Yq List.length T.at_;rw[XG,XG]at q;simp only[X7,XR,ZO];unfold fZ;rw[XG]
  lia
def Be{A:Around}(I:5#H)(T:eL X scope [x] fq js)(B:83#x=some .local)
 (w:A.frames=some X.stack) (N:A.handled=X.A.handled) (F:A.depth<recursionLimit) (t:(f,fB X l p scope c j)∈pq) (D:s.heap.CodeRec (.ref c) (X.env.qual ++ "<lambda>"))
 (Z:bindArgs (Ba X l p scope c j) ⟨[u],[]⟩=pure [(x,u)]) (k:scope.isCoroutine=false) (d:scope.isGenerator=false)
 (n:PE (tZ X ([x]++fq) scope f c A s H) p R) (r:ο v u) (h:R (some v::fZ σ js) H Q) :
 wpAny 8#0 A (call (.ref f) [u]) (λC G=>∃m M,θ X pq σ M G/\ο m C/\Q m M) E s:=by
 have Y:=I.pin _ (iX _ t);show wpAny_call (PySem.W.kla_callFunE F Y.1 rl k d rl D ?_);rw[Z];show XN (wpAny_newFunctionEnv (λy W=>T.yK y W) (by intro y W;have:=XU.mp W;subst this;show B) (λg q a=>⟨I.nolimit.fresh _ a,?_⟩) T.kind)
 have O:∀b o,18#o->47#g.get?:=λb o e=>a.extBut b o (Yj (XX e)) (XM _ e)
 have J:=NG (f:=f) (c:=c) (t1:=s.toks+[(x,u)].length) I T B w N r O q;show PySem.W.kla_codeExpr (Yn (n [] _ _ H Q J h) (λC G L=>?_) λ_ _ z=>z.elim)
 revert L;show aA λm M i P U=>?_
 show ao m M (I.Jw (ch:=[]) i.os i.base i.hok i.bare (λb z=>absurd z 21#0)) P U
end
end L2
namespace HT
theorem fR:∀a:List Int,lexLt a a=false
 | []=>rfl
 | x::xs=>by rw[eT,XI rfl];show fR xs
theorem jq:∀{a b c},lexLt a b=true->lexLt b c=true->lexLt a c=true
 | [],[],_,h,_=>by rw[nf]at h;cases h
 | [],_::_,[],_,h=>by rw[gH]at h;cases h
 | [],_::_,_::_,_,_=>rfl
 | _::_,[],_,h,_=>by rw[gH]at h;cases h
 | _::_,_::_,[],_,h=>by rw[gH]at h;cases h
 | x::xs,y::ys,z::zs,G,C=>by
   rw[eT]at G C ⊢
   by_cases J:x=y
   .rw[XI J]at G
    by_cases D:y=z
    .rw[XI D]at C;rw[XI (J.trans D)];show jq G C
    .rw[XH D]at C
     rwa [XH (λq=>D (J.symm.trans q)),J]
   .rw[XH J]at G;have G:=om G
    by_cases D:y=z
    .subst D;rw[XH J];show e5 G
    .rw[XH D]at C;have C:=om C;rw[XH (by lia)]
     show e5 (by lia)
def t6(G:lexLt c b=false)(C:lexLt a b=true):lexLt c a=false:=by
 cases q:lexLt c a with
 | false=>rfl
 | true=>rw[jq q C]at G;cases G
end HT
namespace L2
open PySem PySem.Spec PyProof.Rows
def Td(h:Heap)(a:Addr)(W:Array DictEntry)(N:Nat):Prop:=∃o,118#o/\o.ExactDict/\o.data = .dict W N
def Te(o:Obj)(a:Addr)(i n N:Nat):Prop:=o.cls = .type "dict_keyiterator"/\o.data = .fields #[.ref a,.int i 0,.int n 0,.int N 0]
section
variable {P:Program}{w:World}{A:Around}{E:sG}{s:Shared}{a it:Addr}{es:Array DictEntry}{ep i:Nat}{oi:Obj}
def Le(W:(a==sysModules)=false)(g:Td s.heap a es ep)
 (q:Q (23#.ref) { s with heap:=s.heap.push { cls:=.type "dict_keyiterator",data:=.fields #[.ref a,.int 0 0,.int es.size 0,.int ep 0]}}):80#(pyIter (.ref a)):=by
 revert g;show az λo F L j=>?_
 have t:s.TypeIs (.ref a) "dict":=ae o F L.1;show wpAny_pyIter_slot t PySem.F.slot_dict_iter (wpAny_call_entry PySem.F.slot_dict_iter t PySem.F.entry_dict_iter ?_ (PySem.F.args_dict_iter_1 _));show aW (aW (wpAny_notOrdered_dict t ?_));show XN ?_;change wpAny _ _ (Builtin.Dict.showsAll a >>= _) _ _ s;unfold Builtin.Dict.showsAll;rw[W];show aW (XN (aW (wpAny_dictEntries F j (aW (wpAny_dictEpoch F j ?_)))));show aW (wpAny_newObj_type (XN (ae _ rfl (ao "dict_keyiterator" _ (ae _ (X6 _ rfl) rfl) ZV.lookup q))))
def t7{Q:Option Value->Shared->Prop}(F:s.heap.get? it=some oi)(g:Te oi a i es.size ep)(d:Td s.heap a es ep)
 (q:match (es[i]?:Option DictEntry) with
  | some e=>∀h' c,h'.get? it=some c->Te c a (i+1) es.size ep->Heap.SameBut it s.heap h'->Q (some e.key) { s with heap:=h'}
  | none=>A.handled=none/\∀h',Heap.ExtBut it s.heap h'->Q none { s with heap:=h'}):80#(pyNext (.ref it)):=by
 obtain⟨L,j⟩:=g
 revert d;show az λo h B k=>?_
 have t:s.TypeIs (.ref it) "dict_keyiterator":=ae oi F L;show aW (wpAny_attempt (wpAny_callSpecial?_slot t ZV (wpAny_call_entry ZV t PySem.F.entry_dict_keyiterator_next ?_ (PySem.F.args_dict_keyiterator_next_1 _))));show aW (XN (aW (aW ?_)))
 first | show aW (wpAny_typeNameOfWhole_keyiter t (XN ?_)) | show aW (wpAny_typeNameOf_keyiter t (XN ?_))
 show aW (wpAny_fieldsOf F j ?_);have f:Builtin.Dict_items.ownsTuple "dict_keyiterator"=false:=by decide
 change wpAny _ _ (if(Value.ref a==Value.none)=true then _ else _) _ _ s
 rw[XH (show ¬((Value.ref a==Value.none)=true) from XZ)]
 show aW (XN (aW (wpAny_dictEntries h k ?_)));rw[XH 21#0]
 show aW (XN (aW (wpAny_dictEpoch h k ?_)));rw[XH 21#0]
 show XN ?_;simp only[show ¬(i<0) from by lia,if_false,X3]
 cases b:(es[i]?) with
 | some e =>
   rw[b]at q;show aW ?_
   first | show aW (wpAny_typeNameOfWhole_keyiter t (XN ?_)) | show aW (wpAny_typeNameOf_keyiter t (XN ?_))
   show aW (wpAny_isOneOf_keyiter t ?_);change wpAny _ _ (setField (.ref it) 1 (rawInt (i+1)) >>= _) _ _ s;show aW (wpAny_setField F j 21#0 ?_)
   have v:=ZN j (·.setIfInBounds 1 (rawInt (i+1)));have x:=YV (Obj.mapFields (·.setIfInBounds 1 (rawInt (i+1)))) F (ZR v);have Z:(Obj.mapFields (·.setIfInBounds 1 (rawInt (i+1))) oi).cls = .type "dict_keyiterator":=(E! ..).trans L;show aW (Ys ?_);show aW (wpAny_isOneOf_keyiter (ae _ x Z) ?_);show XN (XN (ae _ rfl (XN (q _ _ x ⟨Z,by rw[v];simp[rawInt]⟩ (YF ..)))))
 | none =>
   rw[b]at q;obtain⟨N,q⟩:=q;show aW ?_
   first | show aW (wpAny_typeNameOfWhole_keyiter t (XN ?_)) | show aW (wpAny_typeNameOf_keyiter t (XN ?_))
   change wpAny _ _ (setField (.ref it) 0 .none >>= _) _ _ s;show aW (wpAny_setField F j 21#0 ?_)
   show aW ?_;show aW (wpAny_newObj_type (aW (wpAny_of_eq (by first | rfl | (simp only[firstArgMember];rfl)) (wpAny_newObj_type ?_ (by size_fits)))) (by size_fits))
   show aW (wpAny_handled ?_);rw[show A.in1.handled=none from N]
   show aW (XN (wpAny_throw ?_));show aW (wpAny_isInstance (ae _ (X6 _ rl) rl) isSubtype_stop (XN ?_));show q _ (((YF ..).extBut.push _).push _)
end
section
variable  {pq:cM}{σ:St}
def θ.NH(I:5#H)(e:H a=some (.dT xs))(F:s.heap.get? a=some ob):5#(η H a (.ou ob (.dT xs))) :=
 I.swap e (by intro _ z;cases z) (by intro _ z;cases z) (by intro _ z;cases z) (λb o u q=>cC (I.base.jx b o u q) e 26#0) λp r=>⟨F,(I.hok a _ e).stay (λ_ _ _ q=>q) p r⟩
def θ.Sn{F:St}(h:θ X M F H N)(U:H a=some (.dT xs))(I:5#O)(e:O a=some (.ou ob (.dT xs))):5#(η O a (.dT xs)) :=
 I.swap e (by intro _ z;cases z) (by intro _ z;cases z) (by intro _ z;cases z) (λb o u q=>cC (h.base.jx b o u q) U 26#0) λp r=>(I.hok a _ e).2.stay (λ_ _ _ q=>q) p r
def DY(X:Cx)(b:Addr):Prop:=X.s₀.heap.objs.size<=b/\88#b/\b∉X.fs/\(∀x c,32#x->c≠b)/\∀p∈X.pn,p.1≠b
def θ.Lf(I:5#H){b:Addr}(Z:s.heap.objs.size<=b):DY X b :=
 let⟨_,f1,f2,_,f4,f5⟩:=I.vA Z (I.hok.fresh Z)
 (fE (XY I.sz Z) f1 f2 f4 (λp t=>f5 p (OM _ t)))
def θ.jr{h' : Heap}(I:θ X L σ H s)(Z:DY X b)(a:(b,o)∈L)(k:∀c u,c≠b->s.heap.get? c=some u->h'.get? c=some u)
 (t:∀p∈pb,(p.1=b/\111#p.2/\∀v,p.2.data≠.cell v)\/(p∈L/\p.1≠b)):θ X pb σ H { s with heap:=h',toks:=t'}:=by
 revert Z;show m9 λy S j r q=>?_
 have n:=(I.pin (b,o) (iX _ a)).2.1;have J:=(I.gF λp t=>I.pin p (iX _ (Yz.mp t).1)).turned (t':=t') k n S (.inr y) r (λp t=>by
  rcases Ye.mp t with t|t
  .show q p t
  .show om (Yz.mp t).2)
 show J.gF λp h=>?_
 rcases t p h with⟨e,g,d⟩|⟨m,T⟩
 .show fE (by rw[e];show g) (by rw[e];show n) (by rw[e];show S) (by rw[e];show j) d
 .show J.pin p (iX _ (Yz.mpr ⟨m,e5 T⟩))
end
section
variable {X:Cx}{pq:cM}{σ:St}{H2:Hp}{params:Arguments}{body:Expr}{scope:Scope}{fq:List Str}{js:List Nat}{x:Str}{te:TE}{f c a It S:Addr}{oc ob:Obj}{ctv:Value}  {kvs:List (List Key×V)}
 {es:Array DictEntry} {ep:Nat} {ka:Nat->Addr} {ks:Nat->List Int} {PZ:Addr}
structure DZ(X:Cx)(σ:St)(H2:Hp)(params:Arguments)(body:Expr)(scope:Scope)(fq:List Str)(js:List Nat)(x:Str)(te:TE)(f c a It S:Addr)(oc ob:Obj)(ctv:Value)(kvs:List (List Key×V))(es:Array DictEntry)(ep:Nat)(ka:Nat->Addr)(ks:Nat->List Int)(PZ:Addr):Prop where
 T:eL X scope [x] fq js
 hx:83#x=some .local
 hh:X.A.handled=none
 dp:X.A.in1.depth<recursionLimit
 un:X.A.in1.units<cLine
 hb:∀u,bindArgs (51#Ba) ⟨[u],[]⟩=pure [(x,u)]
 co:scope.isCoroutine=false
 gen:scope.isGenerator=false
 he:∀s H,PE (tZ X ([x]++fq) scope f c X.A.in1 s H) body te
 code:CodeObj oc (X.env.qual ++ "<lambda>")
 hc:H2 c=some (.ou oc (.own PZ))
 ha:H2 a=some (.ou ob (.dT kvs))
 hob:ob.ExactDict/\ob.data = .dict es ep
 key:∀(i:Nat) (e:DictEntry),(es[i]?:Option DictEntry)=some e->e.key = .ref (ka i)
 turn:∀i H3,i<es.size->aj H2 H3->te (38#(ka i)::fZ σ js) H3 λv H4=>aj H3 H4/\∃d,v = .ref d/\aY X.K H4 d ((ks i).map V.int)
 oS:DY X S
 oI:DY X It
 SI:S≠It
 fS:f≠S
 fI:f≠It
def Bf(F:DZ X σ H2 params body scope fq js x te f c a It S oc ob ctv kvs es ep ka ks PZ)(j:i<es.size)(W:aj H2 h)(I:θ X L σ h s)
 (Y:(f,51#fB)∈L) :
 wpAny 8#0 X.A.in1 (call (.ref f) [.ref (ka i)]) (λu G=>∃d g,u = .ref d/\θ X L σ g G/\aj H2 g/\aj h g/\aY X.K g d ((ks i).map V.int)) E s:=by
 obtain⟨w,_⟩:=(I.hok c _ (W _ _ F.hc));show Yn (Be (v:=.ref (ka i)) I F.T F.hx I.ok.frames rl F.dp Y (F.code.rec w) (F.hb _) F.co F.gen (F.he s h) rl (F.turn i h j W)) (λu G=>aR λv g J=>bL λr P d e k=>?_) λ_ _ z=>z
 subst e;cases r;show cL d g rl J (λb o z=>P _ _ (W _ _ z)) P k
def Lg{ns g:List Int}{A:Around}(I:θ X L σ b s)(G:aY X.K b d (ns.map V.int))(C:aY X.K b U (g.map V.int))(r:A.units<cLine)
 (q:Q (.bool (HT.lexLt ns g)) s):wpAny 8#0 A (richCompare .Lt (.ref d) (.ref U)) Q E s:=by
 show az (λN B e _=>?_) (I.tuple G)
 show az (λk p i _=>?_) (I.tuple C)
 show(HT.C3 e i (intsAre_of B) (intsAre_of p) r q)
abbrev mQ(pq:cM)(S It f:Addr)(d k lo:Obj):cM:=(S,d)::(It,k)::(f,lo)::pq
def Lh(F:DZ X σ H2 params body scope fq js x te f c a It S oc ob ctv kvs es ep ka ks PZ)(N:∀p∈pq,p.1≠It)(y:∀p∈pq,p.1≠S)
 (D:∀i G h,i<es.size->(∀j,j<es.size->HT.lexLt (ks j) (ks i)=false)->aj H2 h->θ X pq σ h G->R (.ok (.ret (.ref (ka i)))) G) :
 ∀r j i s h d n k,es.size-j=r->j<=es.size->i<j->aj H2 h->θ X (mQ pq S It f (seqObj "list" #[.ref (ka i),.ref d] n) k (51#fB)) σ h s->Te k a j es.size ep->
   aY X.K h d ((ks i).map V.int)->(∀m,m<j->HT.lexLt (ks m) (ks i)=false)->codeAny 8#0 X.A (.builtin "min.loop" ⟨[.ref It,.ref f,.ref S],[]⟩) R s:=by
 have hname:(toString "min" ++ toString ".loop")="min.loop":=by decide
 intro r
 induction r with
 | zero =>
   intro j i s h d n k P o H W I l E A;have g:j=es.size:=by lia
   have Q:=I.pin (S,_) 54#iX;have B:=I.pin (It,k) (iX _ 54#.tail);obtain⟨z,_⟩:=(I.hok a _ (W _ _ F.ha));show codeAny_builtin Zz ?_;rw[Around.under_plainId YD _];show aW (wpAny_seqItems Q.1 rl ?_);show aW (Zs (t7 B.1 l (ae ob z F.hob) ?_));rw[g,Array.getElem?_eq_none (XJ _)];show⟨F.hh,λC q=>?_⟩
   have J:=I.jr (t':=s.toks) F.oI 54#List.Mem.tail (λb u Z e=>q b u Z e) (λp t=>by
    show 35
    .show .inr ⟨.head _,F.SI⟩
    .show .inr ⟨.tail _ (.tail _ (.tail _ t)),N p t⟩)
   have v:=J.pin (S,_) 54#iX;show aW (wpAny_updateSeq v.1 rl (aW (wpAny_letGo (XN ?_))));have w:=YF C S 98#(#[])
   show D i _ h (by lia) (λm G=>A m (by lia)) W (J.jr F.oS (.head _) (λb u Z e=>(w.2 b Z).trans e) λp t=>.inr ⟨.tail _ t,y p t⟩)
 | succ r O =>
   intro j i s h d n k P o H W I l E A;have g:j<es.size:=by lia
   have Q:=I.pin (S,_) 54#iX;have B:=I.pin (It,k) (iX _ 54#.tail);obtain⟨z,_⟩:=(I.hok a _ (W _ _ F.ha));show codeAny_builtin Zz ?_;rw[Around.under_plainId YD _];show aW (wpAny_seqItems Q.1 rfl ?_);show aW (Zs (t7 B.1 l (ae ob z F.hob) ?_));have L:=Array.getElem?_eq_getElem g;rw[L];intro C h q B D;have J:=I.jr (t':=s.toks) (pb:=mQ pq S It f (seqObj "list" #[.ref (ka i),.ref d] n) h (51#fB)) F.oI 54#List.Mem.tail (λb u Z e=>(D.2 b Z).trans e) (λp t=>by
    show 35
    .show .inr ⟨.head _,F.SI⟩
    .show 35
     .show .inl (bh rl q (λv z=>by rw[B.2]at z;cases z))
     .show 35
      .show .inr ⟨.tail _ 54#.tail,F.fI⟩
      .show .inr ⟨.tail _ (.tail _ (.tail _ t)),N p t⟩)
   rw[F.key j _ L];show aW (Zs (Ys (Yn (Bf F g W J (List.Mem.tail _ 54#.tail)) (λu M o=>?_) λ_ _ z=>z)))
   revert o;show eX λg k U Y l q C=>?_;subst U
   have o:=q.Vp E;show aW (Zs (Ys (aW (Lg Y C o F.un ?_))));show aW (Ys (wpAny_truthy_bool (aW (wpAny_letGo (XN ?_)))));have r:=Y.pin (S,_) 54#iX;cases q:HT.lexLt (ks j) (ks i) with
   | true =>
     have w:=YF M.heap S 98#(#[.ref (ka j),.ref g])
     obtain⟨T,E⟩:∃T,(M.heap.update S 98#(#[.ref (ka j),.ref g])).get? S=some (seqObj "list" #[.ref (ka j),.ref g] T):=⟨_,get?_update_seq r.1 λ_=>#[.ref (ka j),.ref g]⟩
     show aW (wpAny_updateSeq r.1 rfl (aW (wpAny_letGo ?_)));rw[hname];have r:=Y.jr (t':=M.toks) (pb:=mQ pq S It f (seqObj "list" #[.ref (ka j),.ref g] T) h (51#fB)) F.oS (.head _) (λb u Z e=>(w.2 b Z).trans e) (λp t=>by
      show 35
      .show .inl (bh rl E (λv z=>by cases z))
      .show 35
       .show .inr ⟨.tail _ (.head _),F.SI.symm⟩
       .show 35
        .show .inr ⟨.tail _ 54#.tail,F.fS⟩
        .show .inr ⟨.tail _ (.tail _ (.tail _ t)),y p t⟩)
     show XN ⟨plainId_quiet YD _,O (j+1) j _ k g T h (by lia) (by lia) (by lia) l r B C λm G=>?_⟩
     by_cases e:m=j
     .rw[e];show HT.fR _
     .show HT.t6 (A m (by lia)) q
   | false =>
     show aW (wpAny_letGo ?_);rw[hname];show XN ⟨plainId_quiet YD _,O (j+1) i _ k d n h (by lia) (by lia) (by lia) l Y B o λm G=>?_⟩
     by_cases e:m=j
     .rw[e];show q
     .show A m (by lia)
end
def boot_min:bootBuiltins "min"=some (.builtin "min"):=by kernel_rfl
def So(K:b7)(P:Addr)(q:Str)(e:Pos)(z:TA)(f:TE)(js:List Nat):TE:=λU H Q=>z U H λY N=>∃a J,∃Z:Nat->List Int,Y=[.ref a]/\N a=some (.dT J)/\0<J.length/\N P=64#(eE q e)/\
 (∀C X,(∀b u,N b=some u->b≠a->(∀y,u≠.own y)->(∀m,u≠.gT m)->X b=some u)->X a=some (.ou C (.dT J))->
  ∀(i:Nat) kv b,J[i]?=some kv->X b=17#(kv.1.map kV)->f (some (.ref b)::fZ U js) X λv c=>aj X c/\∃d,v = .ref d/\aY K c d ((Z i).map V.int))/\
 ∀(i:Nat) kv b c,J[i]?=some kv->(∀j,j<J.length->HT.lexLt (Z j) (Z i)=false)->aj N c->c b=17#(kv.1.map kV)->Q (.ref b) c
def xJ{d:List m}{e:List c}(h:Paired R d e):∀{i:Nat} {a:m} {b:c},d[i]?=some a->e[i]?=some b->R a b:=by
 induction h with
 | nil=>intro i a b h _;simp at h
 | cons r t O =>
   intro i a b G C;cases i with
   | zero =>
     simp at G C;subst G C;show r
   | succ i=>show O (by simpa using G) (by simpa using C)
section
variable {X:Cx}{params:Arguments}{body e:Expr}{scope:Scope}{lp p pos kp:Pos}{fq:List Str}{js:List Nat}{x:Str}{ta:TA}{te:TE}{c0 P:Addr}{k:Nat}
def NI(hr:eB (k+2) X.A)(T:eL X scope [x] fq js)(B:83#x=some .local)(hg:Gl X "min")(d:X.mg "min"=none)(hcode:X.env.code = .ref c0)(hK:PySem.W.codeHdIn X.K c0 P=true)(C:PA X [e] ta)
 (he:∀f c s H,eB k (tZ X ([x]++fq) scope f c X.A.in1 s H).A->PE (tZ X ([x]++fq) scope f c X.A.in1 s H) body te)
 (Z:∀c ctv u,bindArgs (51#Ba) ⟨[u],[]⟩=pure [(x,u)]:=by intro _ _ _;rfl) (hco:scope.isCoroutine=false:=by rfl) (hgen:scope.isGenerator=false:=by rfl)
 (hdef:defaultsOf params X.env=([],[]):=by rfl)
 (W:backTo pos (12#([e]))=29#e::backTo pos (12#([])):=by rfl) (hs2:(backTo pos (12#([e]))).any (·.1)=false:=by rfl) :
 PE X (.Call (.Name "min" p) [e] [⟨some (Str.ofString "key"),.Lambda params body scope lp,kp⟩] pos) (So X.K P (X.env.qual ++ "<lambda>") lp ta te js):=by
 show 63;show wpAny_Call_Name_kw (jy I hg d boot_min (callWith_kw (dW (C pos A s U H _ I h) λg w hq=>?_) W hs2 rl rl))
 revert hq;show aA λY N I1 r1=>eR λa kvs ks=>eO λSq hda hne hP hturn Qx=>?_;subst Sq
 show ah (λu P8 rx=>?_) (vals1 r1);subst P8
 cases rx;show kws_cons (Bb I1 T hcode hK hP hdef λf c oc ctv M L Gk hoc J=>kws_nil ?_)
 have hname:(toString "min" ++ toString ".loop")="min.loop":=by decide
 have hla:=sq (oc:=oc) hP L hda (by intro y z;cases z) (by intro y z;cases z)
 show bL (λm hsys xs pr=>bV λob es ep hgo hex hdat hes hnd=>?_) (J.hok a _ hla)
 have J2:=J.NH hla hgo;have hsz:es.size=kvs.length:=by
  have:=Yq List.length hes;rw[XG,<-pr.length]at this
  simpa using this
 have hxs:=pr.length.symm;have hka:∀i,i<kvs.length->∃R y,kvs[i]?=some R/\xs[i]?=some y/\gD N P c oc (X.env.qual ++ "<lambda>") lp y.2.1=17#(R.1.map kV):=λi hi=>by
  have e1:=XW hi;have D:xs[i]?=some (xs[i]'(by lia)):=XW _
  show ao _ _ e1 D ((xJ pr e1 D).2.1)
 have Qy:gD N P c oc (X.env.qual ++ "<lambda>") lp P=64#(eE (X.env.qual ++ "<lambda>") lp++o8 lp c):=aa;have NJ:gD N P c oc (X.env.qual ++ "<lambda>") lp c=some (.ou oc (.own P)):=by unfold gD;rw[aq Gk,aa]
 have ca:=cC NJ hla 26#0
 have pa:=cC Qy hla 26#0
 generalize Ss:η (gD N P c oc (X.env.qual ++ "<lambda>") lp) a (.ou ob (.dT kvs))=O at J2;have at2:∀b u,b≠a->gD N P c oc (X.env.qual ++ "<lambda>") lp b=some u->O b=some u:=λb u n e=>by rw[<-Ss,aq n];show e
 have a2:O a=some (.ou ob (.dT kvs)):=by rw[<-Ss,aa]
 let ka:Nat->Addr:=λi=>((xs[i]?).map (·.2.1)).getD 0
 have Qz:∀{i:Nat} {y:List Key×Addr×Value},xs[i]?=some y->ka i=y.2.1:=λ{i y} e=>by change((xs[i]?).map (·.2.1)).getD 0=_;rw[e];rfl
 show kmk_tree PySem.F.kind_min PySem.F.plain_min PySem.F.entry_min (kmk_min_key _ _) ?_;show aW (wpAny_of_eq (rfl) ?_);show aW (XN (aW (Le hsys (au ob hgo hex hdat) (aW (wpAny_newList ?_ (Yo _))))));rw[hname];show XN ⟨plainId_quiet YD _,?_⟩;generalize Vw:({ cls:=.type "dict_keyiterator",data:=.fields #[.ref a,.int 0 0,.int es.size 0,.int ep 0]}:Obj)=oI;have Vx:Te oI a 0 es.size ep:=by rw[<-Vw];show⟨rfl,rfl⟩
 have hS:71#0=M.heap.objs.size+1:=size_push' ..;have hk2:∀b o,47#M.heap.get?->47#((M.heap.push oI).push (seqObj "list" #[] 0)).get?:=λb o e=>XM _ (XM _ e)
 have gI:((M.heap.push oI).push (seqObj "list" #[] 0)).get? M.heap.objs.size=some oI:=XM _ (X6 _ (by rw[<-Vw];rfl))
 have gS:((M.heap.push oI).push (seqObj "list" #[] 0)).get? 71#0=some (seqObj "list" #[] 0):=X6 _ rfl;have Rq:∀p∈(f,51#fB)::A,p.1<M.heap.objs.size:=λp t=>XX (J2.pin p (iX _ t)).1
 have Ux:=J2.Lf (XJ M.heap.objs.size);have oS:=J2.Lf (b:=71#0) (by rw[hS];show Y6 _)
 have F:DZ X U O params body scope fq js x te f c a M.heap.objs.size 71#0 oc ob ctv kvs es ep ka ks P:=by
  show⟨T,B,hr.hd,(hr.in1).depth,(hr.in1).C2,λu=>Z c ctv u,hco,hgen,λs H=>he f c s H ((hr.in1).deeper _),hoc,at2 c _ ca NJ,a2,⟨hex,hdat⟩,λi e hi=>?_,λi H3 hi CS=>?_,oS,Ux,by rw[hS];show e! _,?_,Yj 54#Rq⟩
  .have hi' : i<kvs.length:=by rw[<-hsz];show(ZC.mp hi).1
   show aA (λR y e1 D _=>?_) (hka i hi')
   have E:=Yq (λl=>l[i]?) hes
   simp only[XQ,D,ZQ,i?]at E;rw[hi]at E;have e4:=13#E;rw[e4,Qz D];rfl
  .show aA (λR y e1 D E=>?_) (hka i (by lia))
   show hturn ob H3 (λb u q nb n1 n2=>CS _ _ (at2 b u nb (sq hP L q n1 n2))) (CS _ _ a2) i R (ka i) e1 ?_
   rw[Qz D];show CS _ _ (at2 _ _ (cC E hla 26#0) E)
  .rw[hS];show Yj (Zu 54#Rq)
 have pI:∀p∈A,p.1≠M.heap.objs.size:=λp t=>Yj (Rq p (.tail _ t))
 have pS:∀p∈A,p.1≠71#0:=λp t=>by rw[hS];show Yj (Zu (Rq p (.tail _ t)))
 have J3:θ X (mQ A 71#0 M.heap.objs.size f (seqObj "list" #[] 0) oI (51#fB)) U O { M with heap:=(M.heap.push oI).push (seqObj "list" #[] 0)}:=by
  have K:=J2.kept (t':=M.toks) hk2;show K.gF λp t=>?_
  show 35
  .show fE gS (J2.hok.fresh (by rw[hS];show Y6 _)) oS.2.1 oS.2.2.1 λv z=>by cases z
  .show 35
   .show fE gI (J2.hok.fresh (XJ _)) Ux.2.1 Ux.2.2.1 λv z=>by rw[Vx.2]at z;cases z
   .show K.pin p (iX _ t)
 have h0:0<es.size:=by lia
 have hget:=Array.getElem?_eq_getElem h0;have Uy:=J3.pin (71#0,seqObj "list" #[] 0) 54#iX;have Uz:=J3.pin (M.heap.objs.size,oI) (iX _ 54#.tail);show codeAny_builtin Zz ?_;rw[Around.under_plainId YD _];show aW (wpAny_seqItems Uy.1 rfl ?_);show aW (Zs (t7 Uz.1 Vx (au ob (hk2 _ _ hgo) hex hdat) ?_));rw[hget];intro h' UA WJ hk' sb;have I4:=J3.jr (t':=M.toks) (pb:=mQ A 71#0 M.heap.objs.size f (seqObj "list" #[] 0) UA (51#fB)) F.oI 54#List.Mem.tail (λb u Z e=>(sb.2 b Z).trans e) (λp t=>by
  show 35
  .show .inr ⟨.head _,F.SI⟩
  .show 35
   .show .inl (bh rl WJ (λv z=>by rw[hk'.2]at z;cases z))
   .show 35
    .show .inr ⟨.tail _ 54#.tail,F.fI⟩
    .show .inr ⟨.tail _ (.tail _ (.tail _ t)),pI p t⟩)
 rw[F.key 0 _ hget];show aW (Zs (Ys (Yn (Bf F h0 (aj.refl _) I4 (List.Mem.tail _ 54#.tail)) (λu s3 r=>?_) λ_ _ z=>z)))
 revert r;show eX λS H4 P9 I5 OT _ hd2=>?_;subst P9
 have O0:=I5.pin (71#0,_) 54#iX;have s1':=YF s3.heap 71#0 98#(#[.ref (ka 0),.ref S])
 obtain⟨n2,hn2⟩:∃n2,(s3.heap.update 71#0 98#(#[.ref (ka 0),.ref S])).get? 71#0=some (seqObj "list" #[.ref (ka 0),.ref S] n2):=⟨_,get?_update_seq O0.1 λ_=>#[.ref (ka 0),.ref S]⟩
 show aW (wpAny_updateSeq O0.1 rfl ?_);rw[hname];have I6:=I5.jr (t':=s3.toks) (pb:=mQ A 71#0 M.heap.objs.size f (seqObj "list" #[.ref (ka 0),.ref S] n2) UA (51#fB)) F.oS (.head _) (λb u Z e=>(s1'.2 b Z).trans e) (λp t=>by
  show 35
  .show .inl (bh rl hn2 (λv z=>by cases z))
  .show 35
   .show .inr ⟨.tail _ (.head _),F.SI.symm⟩
   .show 35
    .show .inr ⟨.tail _ 54#.tail,F.fS⟩
    .show .inr ⟨.tail _ (.tail _ (.tail _ t)),pS p t⟩)
 show XN ⟨plainId_quiet YD _,Lh F pI pS (λi G H3 hi best CS I7=>?_) _ 1 0 _ H4 S n2 UA rl h0 (Z1 _) OT I6 hk' hd2 λj hj=>?_⟩
 .show aA (λR y e1 D E=>?_) (hka i (by lia))
  have i3:=CS _ _ a2;have I8:=θ.Sn J hla I7 i3;have p3:η H3 a (.dT kvs) P=64#(eE (X.env.qual ++ "<lambda>") lp++o8 lp c):=by rw[aq pa];show CS _ _ (at2 _ _ pa Qy)
  have c3:η H3 a (.dT kvs) c=some (.ou oc (.own P)):=by rw[aq ca];show CS _ _ (at2 _ _ ca NJ)
  have I9:=Bc I1 hP L Gk hoc I8 p3 c3;have ya:=cC E hla 26#0
  have y3:η H3 a (.dT kvs) y.2.1=17#(R.1.map kV):=by rw[aq ya];show CS _ _ (at2 _ _ ya E)
  show ao (.ref (ka i)) _ I9 rl (Qx i R (ka i) _ e1 (λj hj=>best j (by lia)) (Bd hP L Gk (oc:=oc) λb u q=>?_) ?_)
  .by_cases Z:b=a
   .subst Z;rw[hla]at q
    rwa [aa]
   .rw[aq Z];show CS _ _ (at2 _ _ Z q)
  .rw[Qz D];unfold given
   rwa [aq (cC y3 p3 26#0),aq (cC y3 c3 26#0)]
 .have e:j=0:=by lia
  rw[e];show HT.fR _
end
section
variable     {s:Shared}
def QA(j:(a==sysModules)=false):MeetsIn P w (Builtin.«dict.__len__» ⟨[.ref a],[]⟩) (λ_ R s=>∃W N,Td s.heap a W N/\R (.ok (.ret (.int W.size s.toks))) { s with toks:=s.toks+1}) :=
 .of_wp λA R s ⟨W,N,⟨o,F,_,b⟩,h⟩=>by
  change wpAny _ _ (dictSize a >>= _) _ _ s;show aW (aW (wpAny_dictEntries F b (XN ?_)));show aW (wpAny_pendingCount_other j (wpAny_ret_mkInt ?_));rw[Nat.add_zero];show h
def HX(j:(a==sysModules)=false)(g:Td s.heap a W N)(d:(W.size:Int)<2^63)(h:Q (.int W.size (s.toks+1)) { s with toks:=s.toks+1+1}):
 80#(call (.builtin "len") [.ref a]):=by
 have t:s.TypeIs (.ref a) "dict":=let⟨o,ho,hc,_⟩:=g;(ae o ho hc.1);show Calls.call_function_entry kind_len plain_len entry_len (args_len1 _) ?_;show aW (XN ?_);show aW (wpAny_callSpecial?_slot t PySem.F.slot_dict_len
  (call_meetsIn PySem.F.slot_dict_len t PySem.F.entry_dict_len (PySem.F.args_dict_len_1 _) (QA j) (bf W N g ?_)))
 show aW (Ys (XN (aW (wpAny_letGo ?_))));rw[XH (by lia)]
 rw[XH (by lia)]
 show aW (wpAny_mkInt (XN (ae _ rl h)))
end
theorem erase_filter{K m:Type}[DecidableEq K]{k}{p}:∀{xs:List (K×m)} {j},(xs.map (·.1)).Nodup->xs[j]?=some (k,p)->xs.eraseIdx j=xs.filter λx=>9#(x.1≠k)
 | [],j,_,h=>by simp at h
 | x::r,0,nd,h=>by
   simp at h;subst h;rw[Yd,YK]at nd;rw[List.eraseIdx_cons_zero,Yr,XH 21#0]
   show(List.filter_eq_self.mpr λy W=>?_).symm
   have z:y.1≠k:=λz=>nd.1 (XT.mpr (ae y W z))
   simp[z]
 | x::r,j+1,nd,h=>by
   rw[Yd,YK]at nd;have h:r[j]?=some (k,p):=by simpa using h
   have B:x.1≠k:=λz=>nd.1 (by rw[z];show Z7 (fC h))
   rw[W!,Yr,XI (e5 B),erase_filter nd.2 h]
theorem nj{m c:Type}(f:m->c):∀(l:List m) i,(l.map f).eraseIdx i=(l.eraseIdx i).map f
 | [],_=>rfl
 | _::_,0=>rfl
 | x::r,i+1=>by rw[Yd,W!,W!,Yd,nj f r i]
def KT.drop(r:KT H J xs)(k):KT H (fD J k) (xs.filter λx=>9#(x.1≠k)):=by
 unfold fD
 induction r with
 | nil=>show .nil
 | @cons p q i m h t O =>
   rw[Yr,Yr]
   by_cases e:p.1=k
   .rw[XH (by simp[e]),XH (by simp[h.1.symm.trans e])];show O
   .have T : ¬ q.1=k:=λz=>e (h.1.trans z)
    rw[XI (by simp[e]),XI (by simp[T])];show .cons h O
section
variable {P:Program}{w:World}{A:Around}  {s:Shared}{K:Type}[DecidableEq K]{knd:HeapKind P w K}
def QB(r:knd.room A)(c:knd.is s.heap k b)(y:s.heap.DictOfH knd d xs)(t:xs[j]?=some (k,p))(x:33#xs.length)
 (h:∀e h' f T C,e.val=p.2->h'.get? d=some f->f.ExactDict->f.data = .dict T C->T.toList=(xs.eraseIdx j).map (entryOfKey knd)->Heap.SameBut d s.heap h'->Q (some e) { s with heap:=h',toks:=s.toks+knd.draws k}) :
 80#(Builtin.Dict.takeOut d (.ref b)):=by
 revert y;show eR λo W N=>eO λF L q n a g=>?_
 unfold Builtin.Dict.takeOut
 try with_reducible show Ys ?_
 show aW (knd.pyHash r c (aW (wpAny_dictFind_heap r c F q n a g (λv=>absurd t (v j p)) λm R u=>?_)))
 have i:=idxH_unique g u t;subst i;show aW (wpAny_dictEntries F q ?_);rw[entry_at n m,t];show aW (wpAny_updateDictKeys (hz:=by have e:=size_of_entries n;lia) F q (XN (h _ _ _ _ (N+1) rl (YV _ F (Obj.isFreed_of_dict (Obj.data_mapDictKeys q _))) (L.mapDictKeys _) (Obj.data_mapDictKeys q _) ?_ (YF ..))))
 rw[<-nj,<-n];obtain⟨l⟩:=W;simp
def Su(r:knd.room A.in1)(c:knd.is s.heap k b)(l:s.heap.DictOfH knd d xs)(m:xs[j]?=some (k,p))(x:33#xs.length)
 (h:∀h' f T C,h'.get? d=some f->f.ExactDict->f.data = .dict T C->T.toList=(xs.eraseIdx j).map (entryOfKey knd)->Heap.SameBut d s.heap h'->Q p.2 { s with heap:=h',toks:=s.toks+knd.draws k}) :
 80#(call (.builtin "dict.pop") [.ref d,.ref b]):=by
 have t:=l.typeIs;show wpAny_call_entry PySem.F.slot_dict_pop t PySem.F.entry_dict_pop ?_ (PySem.F.args_dict_pop_2 _ _);show aW (aW (wpAny_notOrdered_dict t ?_));show XN ?_;show eR (λo W N=>eO λF L u n a g=>?_) (id l)
 have U:W.isEmpty=false:=by
  have e:=size_of_entries n;have S:=(jc.mp m).1;rw[Array.isEmpty_eq_false_iff_exists_mem];show⟨W[j]'(by lia),Array.getElem_mem _⟩
 have i:(keyPart (Value.ref b)).isSome=false:=rfl;show aW (wpAny_dictEntries F u (aW (XN ?_)));rw[U];show aW (QB r c l m x λe h' f T C J D q y B R=>?_)
 show aW (wpAny_letGo (XN (ae e.val rl ?_)));rw[J];show h h' f T C D q y B R
end
section
variable {X:Cx}{pq:cM}{σ:St}{H:Hp}
def UB:fX X (.builtin "len") (λxs H Q=>∃a J,xs=[.ref a]/\Rd H a (.dT J)/\Q (.int J.length) H):=by
 intro pq s σ H xs g Q I r h
 revert h;show aA λa J U e q=>?_;subst U
 show ah (λu f c=>?_) (vals1 r);subst f
 cases c;show bL (λz j t pr=>bV λC W N d hex b i m=>?_) (e.ok I.hok)
 have x:W.size=J.length:=by
  have:=Yq List.length i;rw[XG,<-pr.length]at this
  simpa using this
 show HX j (au C d hex b) (by rw[x];rw[sizeLine_eq]at z;lia) ?_
 rw[x];show ao (.int J.length) H (I.tok _) 110#0 q
def QC(p l:TE):TE:=λσ H Q=>p σ H λx N=>∃a,x = .ref a/\Us N a/\l σ N λy O=>∃J k b v,O a=some (.dT J)/\y = .ref b/\O b=17#(k.map kV)/\fJ J k=some v/\Q v (η O a (.dT (fD J k)))
def QD{A:Around}{k:List Key}(r:A.units+1<cLine)(I:5#H)(e:H a=some (.dT J))(w:H b=17#(k.map kV))(l:fJ J k=some v)
 (h:∀C G,θ X pq σ (η H a (.dT (fD J k))) G->ο v C->Q C G):wpAny 8#0 A (call (.builtin "dict.pop") [.ref a,.ref b]) Q E s:=by
 show bL (λz L f n i=>?_) (KG I.hok e)
 have u:=n.val k;rw[l]at u;show ah (λC N Z=>?_) (oq.some_of u)
 show ah (λp g O=>?_) (m3.mp N)
 obtain⟨j,o⟩:∃j,f[j]?=some (k,p):=by
  show ah (λy m c=>?_) (m3.mp g)
  have R:=List.find?_some m;have d:=T! m;obtain⟨j,o⟩:=Zd d;have B:=om R;show⟨j,by rw[o,<-B,<-c]⟩
 have m:=let⟨_,_,_,_,_,_,_,_,hn⟩:=i;hn;show Su (tupleKind_room_in1 r) (qB I.hok w) i o (by rw[<-n.length];show z) λM c T y x d S F D=>?_
 rw[O];show h C _ ?_ Z;have U:∀b t,H b=some (.tup t)->η H a (.dT (fD J k)) b=some (.tup t):=λb t q=>by rw[aq (cC q e 26#0)];show q
 rw[erase_filter m o]at F;show oZ I (by rw[e];show True.intro) D ⟨c,x⟩ (bj (XY (KD J k) z) L _ ((n.drop k).keeps U) (bS c T y x d S F ?_))
 show m.sublist (List.filter_sublist.map _)
def Li(r:X.A.units+1<cLine)(F:PE X o p)(n:PE X e G)(m:M1 X o "pop" t e i):PE X (.Call (.Attribute o "pop" t) [e] [] i) (QC p G):=by
 intro pq s σ H Q I h;show wpAny_Call_method m.base m.few m.line PySem.F.plainAttrs_dict PySem.F.slot_dict_pop PySem.F.type_dict_pop (dW (F pq s σ H _ I h) λu w=>aA λx N f c=>az λa g d P=>?_)
 subst g;obtain rfl:u=Value.ref a:=c;show c5 (λD B _=>?_) (KL f d)
 show bh D B ?_;rw[m.trees];show Calls.callWith_builtin rl (Calls.evalArgs_plain (Calls.spliced_cons (dW (n pq w σ N _ f P) λR M=>eu λy=>dI λO Y A J=>bV λk b v L z q l E=>?_)))
 show Calls.spliced_nil ?_;subst z;obtain rfl:R=Value.ref b:=A;show QD r Y L q l λC S j Z=>ao v _ j Z E
def QE(D m:TE):TE:=λσ H Q=>∀p,H p=none->D σ (η H p (.dT [])) λy N=>m σ N λv O=>∃b k,y = .ref b/\O b=17#(k.map kV)/\O p=some (.dT [])/\Q (.ref p) (η O p (.dT [(k,v)]))
end
section
variable {X:Cx}
def Lj(r:X.A.units+1<cLine)(R:PE X k D)(a:PE X v m):PE X (.Dict [some k] [v] l) (QE D m):=by
 intro A s U H Q I q;have g:=I.hok.fresh (23#XJ);have J:=I.laid (t':=s.toks) (λ_ _ q=>XM _ q) (XJ _) (KJ s.heap I.big)
 rw[arm_eval_Dict,zip_pairTrees [some k] [v] X.env l rl rfl,dictDisplay_pairs (pairTrees [some k] [v] X.env l) 26#0 (show 1<17 by decide)]
 show aW (wpAny_standAt (aW ?_));show aW (wpAny_alloc (aW (Ys ?_)));rw[XI (show 27#(pairTrees [some k] [v] X.env l)<=15 from(show 1<=15 by decide))]
 show aW (pairTrees_cons_walk (dW (R A _ U _ _ J (q _ g)) λu w=>aA λy N Y L P=>?_))
 show dW (a A w U N _ Y P) λp M=>aA λc O G rv=>bD λb t B eb ep E=>?_
 show pairTrees_nil_walk ?_;subst B;obtain rfl:u=Value.ref b:=L;show bL (λz j f n i=>?_) (KG G.hok ep)
 cases n;show Ys (aW ?_);rw[List.forIn_cons];show aW (aW (wpAny_dictSet_heap (Nat.lt_of_succ_lt r) (qB G.hok eb) i λh' o W=>XN ?_))
 change wpAny _ _ (forIn [] PUnit.unit _) _ _ _;rw[List.forIn_nil];show XN (XN (XN (XN ?_)))
 revert o;show eR λo' T C=>eO λx d S F h e=>?_
 have Z:η O s.heap.objs.size (.dT [(t,c)]) b=17#(t.map kV):=by
  rwa [aq (cC eb ep 26#0)]
 have new:dO X.prog X.w (η O s.heap.objs.size (.dT [(t,c)])) h' s.heap.objs.size (.dT [(t,c)]):=bj (show 1<=sizeLine by decide) j [(t,b,p)] (.cons (bh rl Z rv) .nil) (bS o' T C x d S F e)
 show ao (23#.ref) _ (oZ G (by rw[ep];show True.intro) W ⟨o',x⟩ new) rl E
end
end L2
namespace HT
open PySem PyProof.Rows
def NK(a b c d:Int):Bool:=if a=c then(if b=d then true else decide (b<=d)) else decide (a<=c)
def zc(a b c d):NK a b c d=true↔a<c\/(a=c/\b<=d):=by
 unfold NK
 by_cases h:a=c
 .rw[XI h]
  by_cases C:b=d
  .rw[XI C];simp[h,C]
  .rw[XH C];simp only[decide_eq_true_eq];lia
 .rw[XH h];simp only[decide_eq_true_eq];lia
def Lk(A)(s)(a)(t)(c)(u)(prog)(w)(E)(Q)(h:Q (.bool (decide (a<=c))) s):
 67#(richCompare .LtE (.int a t) (.int c u)) :=
 (PyProof.Rows.le_int h)
section
open PySem.SeqAt
open PySem.AutoSeq1 (wpAny_loadPart')
open PySem.MeetsSeq PySem.MeetsSeq2 PySem.MeetsSeq3
def HY(l b:Addr)(k Y:Array Value)(n T:Nat)(i a:114#0)(O c:Array (Option Value))(Q z j X:Int)(t1 H q M:Tok)(F:k.toList=[.int Q t1,.int z H])(o:Y.toList=[.int j q,.int X M]):
 Meets (Builtin.«tuple.__le__» ⟨[.ref l,.ref b],[]⟩)
  (λ_ R s=>s.heap.get? l=some { cls:=.type "tuple",dict:=i,data:=.seq k n,slots:=O}/\18#{ cls:=.type "tuple",dict:=a,data:=.seq Y T,slots:=c}/\
   R (.ok (.ret (.bool (NK Q z j X)))) s) :=
 .of_wp λE w A R s h=>by
  obtain⟨L,g,d,D,os⟩:=s;revert h;show c5 λS Z h=>?_
  have a:=AutoSeq1.sub_tuple_tuple;have i:k.size=2:=by rw[<-ZJ,F];rfl
  have I:Y.size=2:=by rw[<-ZJ,o];rfl
  wp_walk using wpAny_loadPart' S,wpAny_loadPart' Z,wpAny_forIn_list _ (λJ b G=>b.1=none/\G=⟨L,g,d,D,os⟩/\
   ((J=[((Value.int Q t1),(Value.int j q)),(.int z H,.int X M)]/\R (.ok (.ret (.bool (NK Q z j X)))) ⟨L,g,d,D,os⟩)\/
    (J=[((Value.int z H),(Value.int X M))]/\R (.ok (.ret (.bool (if z=X then true else decide (z<=X))))) ⟨L,g,d,D,os⟩)\/(J=[]/\R (.ok (.ret (.bool true))) ⟨L,g,d,D,os⟩))) _
  case turn =>
   intro U J b G;show c5 λv f N=>?_;obtain⟨y,x⟩:=U;subst f
   obtain⟨a,c,t,u,b,W,B,p,f⟩:∃(a c:Int) (t u:Tok) (b:Bool),y = .int a t/\x = .int c u/\R (.ok (.ret (.bool (if a=c then b else decide (a<=c))))) ⟨L,g,d,D,os⟩/\
    (R (.ok (.ret (.bool b))) ⟨L,g,d,D,os⟩->(J=[((Value.int z H),(Value.int X M))]/\R (.ok (.ret (.bool (if z=X then true else decide (z<=X))))) ⟨L,g,d,D,os⟩)\/(J=[]/\R (.ok (.ret (.bool true))) ⟨L,g,d,D,os⟩)):=by
    rcases N with⟨m,p⟩|⟨m,p⟩|⟨m,_⟩
    .injection m with C P
     obtain⟨W,B⟩:=Prod.mk.inj C;show dU Q j t1 (aM q _ W B p λe=>.inl ⟨P,e⟩)
    .injection m with C P
     obtain⟨W,B⟩:=Prod.mk.inj C;show dU z X H (aM M true W B p λe=>.inr ⟨P,e⟩)
    .cases m
   subst W B;show ah (λe C r=>?_) (Ar A.in1 ⟨L,g,d,D,os⟩ a t c u)
   show wpAny_bind (C E w _ _ ?_);cases e with
   | true =>
     rw[XI (r.mp rl)]at p
     wp_walk
     show bh rl rl (.inr (f p))
   | false =>
     rw[XH (λq=>absurd (r.mpr q) XZ)]at p
     have m:=Lk A.in1 ⟨L,g,d,D,os⟩ a t c u E w
     wp_walk using m
     show ae _ rl (by simpa using p)
  case fin =>
   intro C G;show c5 λv r N=>?_;obtain⟨y,a⟩:=C;subst r
   subst v;rcases N with⟨m,_⟩|⟨m,_⟩|⟨_,p⟩
   .cases m
   .cases m
   .wp_walk
    show ae _ rl ?_
    simpa[Builtin.Tuple.tupleCompareSizes,i,I]using p
  case h =>
   show bh rl rl (.inl ⟨?_,h⟩);rw[F,o];rfl
end
section
variable   {A:Around}  {s:Shared}
def Ll(S:IsTup s.heap l k)(Z:IsTup s.heap b f)(F:IntsAre k.toList [g,z])(o:IntsAre f.toList [I,X])
 (W:A.units<cLine) (h:Q (.bool (NK g z I X)) s):67#(compareOp .LtE (.ref l) (.ref b)):=by
 show dI (λe N L n j=>?_) (id S);obtain⟨a,i,R,O⟩:=e
 show dI (λa v U T C=>?_) (id Z);obtain⟨c,G,data2,e⟩:=a
 subst L j U C;have y:∀{Y:62#0} {a c:Int},IntsAre Y [a,c]->∃t u,Y=[.int a t,.int c u]:=λ{Y a c} q=>by
  cases q with
  | cons n t r=>cases r with
    | cons m d P=>cases P;show fj t d rfl
 obtain⟨M,H,J⟩:=y F;obtain⟨B,p,D⟩:=y o;show richCompare_meets_room (op:=.LtE) (ae _ N rl) (ae _ v rl) PySem.F.slot_tuple_le PySem.F.entry_tuple_le (PySem.F.args_tuple_le_2 _ _) (HY l b k f n T i G O e g z I X M H B p J D)
  (bh N v (show Value.bool (NK g z I X)≠Value.notImplemented/\Q (.bool (NK g z I X)) s from⟨(λx=>nomatch x),h⟩)) W
end
end HT
namespace L2
open PySem PySem.Spec PyProof.Rows
section
variable {X:Cx}
def UC(K:b7):R2:=λx y H Q=>∃a b g z j X,x = .ref a/\y = .ref b/\aY K H a [.int g,.int z]/\aY K H b [.int j,.int X]/\Q (.bl (HT.NK g z j X)) H
def QF(r:X.A.units<cLine):jz X 115#.LtE (UC X.K):=by
 show 95
 revert h;show eR λa b g=>bV λz j f d t C Z q=>?_;subst d t
 cases c;cases L;show az (λN B e _=>?_) (I.tuple C)
 show az (λk p i _=>?_) (I.tuple Z)
 show HT.Ll e i (intsAre_of B) (intsAre_of p) r (ao (.bl (HT.NK g z j f)) H I rl q)
end
abbrev D0:=List (Addr×Str×Pos)
structure TabsOk(K:b7)(h:Heap)(tb:D0):Prop where
 nd:(tb.map (·.1)).Nodup
 mt:∀p∈tb,h.get? p.1=some (PySem.W.tabObj #[])
 code:∀p∈tb,∃c,PySem.W.CodeHd h c p.1
 out:∀p∈tb,K.lookup p.1=none
def TabsAt(tb:D0)(H:Hp):Prop:=∀p∈tb,H p.1=64#(eE p.2.1 p.2.2)
def D4(tb:D0):Hp:=λb=>(tb.find? λp=>p.1==b).map λp=>.gT (eE p.2.1 p.2.2)
def mR(e:D4 tb b=some u):∃p∈tb,p.1=b/\u = .gT (eE p.2.1 p.2.2):=by
 show ah (λp G C=>?_) (m3.mp e)
 have l:=List.find?_some G;show au p (T! G) (eq_of_beq l) C.symm
theorem zd:∀{tb},(tb.map (·.1)).Nodup->TabsAt tb (D4 tb)
 | [],_=>λp t=>nomatch t
 | q::r,nd=>λp t=>by
   rw[Yd,YK]at nd;show 35
   .unfold D4;rw[List.find?_cons_of_pos 21#0];rfl
   .have T:(q.1==p.1)=false:=beq_eq_false_iff_ne.mpr λz=>nd.1 (by rw[z];show Z7 t)
    unfold D4;rw[List.find?_cons_of_neg (by rw[T];show XZ)]
    show zd nd.2 p t
def HZ{K:b7}{B:Shared}{Y:62#0}
 (KX:K.In B.heap) (X:TabsOk K B.heap tb) (i:B.heap.Ns mainGlobals mg) (Z:B.heap.Ns builtinsNs l) (J:∀x:Str,x≠"__name__"->l x=bootBuiltins x) (U:B.heap.NoLimit)
 (M:∃g ob,mg "__builtins__"=some (.ref g)/\g≠builtinsNs/\B.heap.get? g=some ob/\ob.cls = .type "module"/\ob.dict=some builtinsNs/\ob.data = .plain) (y:B.gens = #[])
 (C:B.heap.get? a=some { cls:=.type "list",data:=.seq Y.toArray}) (b:IntsAre Y ns) (S:33#ns.length) (hr:eB k callerA)
 (F:∀base:Heap,K.In base->base.Ns mainGlobals mg->je P w K mg base CX k Q fd [x] sp) (L:∀s u,BindsTo s fd ⟨[u],[]⟩ [(x,u)])
 (j:∀H:Hp,TabsAt tb H->aH K H a (ns.map V.int)->sp [.ref a] H (λv _=>v = .bl true) λ_ _ _=>False)
 (D:∀H e G,CX [] H B (λ_ _ _=>False) e G->False) :
 codeAny (model P w) callerA (.call (.ref Q) ⟨[.ref a],[]⟩) (λr G=>r = .ok (.ret (.bool true))/\OldK B.heap G.heap/\G.os=B.os/\AllBare G.gens) B:=by
 have O:=wZ b;have UD:=b.length;have aT:∀p∈tb,p.1≠a:=λp t z=>by
  have:=X.mt p t;rw[z,C]at this;cases this
 let fz:HO:=.ou { cls:=.type "list",data:=.seq Y.toArray} 28#(ns.map V.int)
 have x:∀H:Hp,aH K H a (ns.map V.int)->TabsAt tb H->lC P w H B.heap->(∀b u,H b=some u->(b=a/\K.lookup a=none/\u=fz)\/∃p∈tb,p.1=b/\u = .gT (eE p.2.1 p.2.2))->
  codeAny (model P w) callerA (.call (.ref Q) ⟨[.ref a],[]⟩) (λr G=>r = .ok (.ret (.bool true))/\OldK B.heap G.heap/\G.os=B.os/\AllBare G.gens) B:=by
  intro H E I A s;have h:∀{b:Addr} {o:Obj},47#B.heap.get?->(∀f n,o.data≠.seq f n)->(∀f,o.data≠.fields f)->H b=none:=λ{b o} e R T=>by
   cases q:H b with
   | none=>rfl
   | some u =>
     rcases s b u q with⟨z,_⟩|⟨p,t,z,_⟩
     .rw[z,C]at e;cases e;show absurd rl (R _ _)
     .rw[<-z,X.mt p t]at e;cases e;show absurd rl (T _)
  have c:∀{b:Addr} {m:vy},B.heap.Ns b m->(Al B.heap H).Ns b m:=λ{b m}=>cy λo W N e d r=>⟨o,(ao W N (sH e (h e (by intro _ _ z;rw[d]at z;cases z) (by intro _ z;rw[d]at z;cases z))) d r)⟩
  have d:K.In (Al B.heap H):=λb o e=>sH (KX b o e) (by
   cases q:H b with
   | none=>rfl
   | some u =>
     rcases s b u q with⟨z,n,_⟩|⟨p,t,z,_⟩
     .rw[z,n]at e;cases e
     .rw[<-z,X.out p t]at e;cases e)
  have f:Mod K mg (Al B.heap H):=⟨d,c i,ae l (c Z) J,(let⟨mc,h1,h2⟩:=U;(ae mc (c h1) h2)),
   let⟨g,ob,b1,b2,b3,b4,b5,b6⟩:=M;(aQ g ob b1 b2 (sH b3 (h b3 (by intro _ _ z;rw[b6]at z;cases z) (by intro _ z;rw[b6]at z;cases z))) b4 b5 b6)⟩
  have U:yC P w K mg (Al B.heap H) callerA [] B H:=⟨rfl,f,λb o e=>MK e,o! (G0 _ _),trivial,λb Z=>absurd (show b∈([]) from Z) 21#0,A,.of_eq y⟩
  show codeAny_mono ((F _ d (c i)).run callerA [] B H ⟨[.ref a],[]⟩ [.ref a] [.ref a] _ _ hr U (L B (.ref a)) (.cons rl .nil) (j H I E)) λr G h=>?_
  cases r with
  | error e=>show(D H e G h).elim
  | ok c =>
    cases c with
    | next=>show False.elim h
    | brk=>show False.elim h
    | cont=>show False.elim h
    | ret u =>
      revert h;show aR λv M os=>m9 λl un d f q=>?_
      have c:=q;subst c;obtain rfl:u=Value.bool true:=f;have all:∀b o,47#B.heap.get?->47#G.heap.get?\/∃p∈tb,p.1=b/\∃i,G.heap.get? b=some (PySem.W.tabObj i):=λb o e=>by
       cases q:H b with
       | none=>show .inl (un.keep b o e q (by intro z;show absurd (show b∈([]) from z) 21#0) 21#0)
       | some u =>
         rcases s b u q with⟨z,_,I⟩|⟨p,t,z,I⟩
         .rw[I]at q;obtain⟨J,_⟩:=A b _ q;obtain⟨D,_⟩:=d b _ (un.jx b _ _ q);rw[e]at J;cases J;show .inl D
         .rw[I]at q;obtain⟨c,E⟩:=un.lD b _ q;show ah (λi D _=>?_) (d b _ E)
          show .inr (ae p t (b9 z i D))
      show f7 rl ⟨λb o e=>?_,λb o e=>?_⟩ os l
      .rcases all b o e with z|⟨p,t,z,i,D⟩
       .show .inl z
       .obtain⟨c,L⟩:=X.code p t;have J:=X.mt p t;subst z;rw[e]at J;cases J;show .inr (.inl ⟨(L.tab e).isCodeTable,(bg rl (#[]) i rl (by rw[D,Array.empty_append]))⟩)
      .rcases all b o e with z|⟨p,t,z,i,D⟩
       .show⟨o,z⟩
       .show⟨_,D⟩
 have c:∀{H:Hp} {b:Addr} {p},p∈tb->p.1=b->dO P w H B.heap b (.gT (eE p.2.1 p.2.2)):=λ{H b p} t z=>ae (#[]) (by rw[<-z];show X.mt p t) (.inl 25#(.inl rfl))
 cases R:K.lookup a with
 | some o =>
   have e:=KX a o R;rw[C]at e;cases e;show x (D4 tb) (.inr ⟨_,(aQ Y.toArray _ R rl rl rl (by rw[X9,UD];show S) (by simpa using O))⟩) (zd X.nd) (λb u e=>?_) λb u e=>.inr (mR e)
   show az (λp t z U=>?_) (mR e);subst U
   show c t z
 | none =>
   show x (λb=>if b=a then some fz else D4 tb b) (.inl (.inr ⟨{ cls:=.type "list",data:=.seq Y.toArray},XI rfl⟩)) (λp t=>?_) (λb u e=>?_) λb u e=>?_
   .change(if p.1=a then some fz else D4 tb p.1)=_
    rw[XH (aT p t)];show zd X.nd p t
   .by_cases Z:b=a
    .have z:=(XI Z).symm.trans e;cases z;subst Z;show⟨C,(bg (by rw[XG];show S) Y _ O C)⟩
    .have z:=(XH Z).symm.trans e;show az (λp t I f=>?_) (mR z);subst f
     show c t I
   .by_cases Z:b=a
    .have z:=(XI Z).symm.trans e;show .inl (bh Z R ((13#z).symm))
    .show .inr (mR ((XH Z).symm.trans e))
def Lm{l:PySem.W.OpenLaw}{d:DefRec}{K:Params->b7}{CX:World->Jq}{sp:World->D0->Sp}{J:List Addr}
 (g:l.most=some n) (E:n<=sizeLine) (I:d.params.defaults=[]) (hr:eB k callerA)
 (O:∀w h,A w h->(K w.params).In h/\∀P∈J,h.get? P=some (PySem.W.tabObj #[]))
 (F:∀w mg Q h,(K w.params).In h->h.Ns mainGlobals mg->mg d.name=some (.ref Q)->
  ∃fd tb,((tb.map (·.1)).Nodup/\PySem.W.noTabs (K w.params)=true/\∀p∈tb,p.1∈J/\∃c,PySem.W.codeHdIn (K w.params) c p.1=true)/\(∀s u,BindsTo s fd ⟨[u],[]⟩ [(x,u)])/\
    ∀base:Heap,(K w.params).In base->base.Ns mainGlobals mg->je l.prog w (K w.params) mg base (CX w) k Q fd [x] (sp w tb))
 (UE:∀w H a (ns:List Int) tb,ns.length<=n->TabsAt tb H->aH (K w.params) H a (ns.map V.int)->sp w tb [.ref a] H (λv _=>v = .bl true) λ_ _ _=>False)
 (T:∀w H s e s',CX w [] H s (λ_ _ _=>False) e s'->False) :
 PySem.W.WalkO q N U A l.row.toRowW d [] (λf i=>PySem.call f i):=by
 show Att.As g I λw l B mg b Q o X cd d a i ns G Y f j D S W h M y=>?_
 obtain⟨L,b⟩:=O w _ Y;show aA (λfd tb C Z f=>?_) (F w mg Q _ L G.T.g S);obtain⟨i,r,R⟩:=C
 have d:TabsOk (K w.params) B.heap tb:=⟨i,λp t=>b _ (R p t).1,λp t=>let⟨_,c,e⟩:=R p t;⟨c,PySem.W.codeHd_of_K L e⟩,λp t=>by
  cases e:(K w.params).lookup p.1 with
  | none=>rfl
  | some c =>
    have m:=L _ _ e;rw[b _ (R p t).1]at m;cases m;have z:=Zl.mp r (p.1,PySem.W.tabObj #[]) (PySem.W.mem_of_lookupK e);show absurd (z) XZ⟩
 show HZ L d G.T.g G.T.b G.T.builtins G.T.nolimit G.T.bmain y W h (XY M E) hr f Z (λH z m=>UE w H a ns tb M z m) λH e s'=>T w H B e s'
def gV(f:Str):Str:=f ++ ".<locals>." ++ "<lambda>"
structure D5(K:b7)(x qual:Str)(st:Stmt)(f:Addr)(fd:FuncData)(c0 P:Addr):Prop where
 ex:∃(oc:Value) (od:114#0) (kV doc pm:Value) (an:114#0) (ct:Value) (osl:Array (Option Value)),
  fd=PySem.W.fnOf x qual (dZ st) (cg st) (aP st) .none kV doc pm an (.ref c0) ct/\K.lookup f=some ⟨oc,od,.func fd,osl⟩/\PySem.W.codeIn K (.ref c0) qual=true
 kp:55#K
 hd:PySem.W.codeHdIn K c0 P=true
section
variable   {K:b7}    {st:Stmt}
def D5.ok(F:D5 K x B st f fd b y)(S:ez N i (aP st))(len:∀Y H Q E,sp Y H Q E->Y.length=i.length)
 (z:∀A outer s H Y Q E,eB k (A.deeper (envOfC B (aP st) s.heap.objs.size f (.ref b)))->sp Y H Q E->
  ∃t,oj (m4 qg P w K mg base N B (aP st) f (.ref b) A outer s H E).Jx (cg st) t/\t { nx:=λ_ M=>Q .fg M,rt:=Q} (start N Y) H):je P w K mg base qg (k+1) f fd i sp:=by
 show jd (λl m kV c X=>cy λC W n U u D=>?_) F.ex;subst U
 show FD u D S len λA outer s H Y Q E a j=>?_
 show ah (λt h q=>?_) (z A outer s H Y Q E a j)
 show ae t h.Jx q
def D5.binds{i:List Str}(F:D5 K x B st f fd b y)
 (h:∀kV c X C d ct g,g.length=i.length->bindArgs (PySem.W.fnOf x B (dZ st) (cg st) (aP st) .none kV c X C d ct) ⟨g,[]⟩=pure (i.zip g)):Binds K fd i []:=by
 show jd (λl m kV c X=>cy λC ct n a u D=>?_) F.ex;subst a
 show .all (h kV c X C (.ref b) ct)
def NL{kV doc pm ct}(l:K.lookup f=some ⟨oc,m,.func (PySem.W.fnOf x B (dZ st) (cg st) (aP st) .none kV doc pm C (.ref b) ct),n⟩)
 (c:PySem.W.codeIn K (.ref b) B=true) (k:55#K) (j:PySem.W.codeHdIn K b y=true):D5 K x B st f (PySem.W.fnOf x B (dZ st) (cg st) (aP st) .none kV doc pm C (.ref b) ct) b y :=
 ⟨fj oc m (jw kV doc pm C (ao ct n rl l c)),k,j⟩
end
end L2
namespace RM
abbrev OW:=Nat->Bool->Option (Int×Nat)
def jf(F:OW)(x:Nat)(s:Bool)(d:Int×Nat):OW:=λy t=>if y=x/\t=s then some d else F y t
def ze(F:OW)(x:Nat)(s:Bool):OW:=λy t=>if y=x/\t=s then none else F y t
def c8(F)(x)(s)(d):jf F x s d x s=some d:=XI ⟨rfl,rfl⟩
def ck(h : ¬(y=x/\t=s)):jf F x s d y t=F y t:=XH h
def sr(F)(x)(s):ze F x s x s=none:=XI ⟨rfl,rfl⟩
def mS(h : ¬(y=x/\t=s)):ze F x s y t=F y t:=XH h
def Wz(N:Net)(L:Nat->Int)(m u v:Nat)(s:Bool)(z:Int)(e:Nat):Prop:=∃W,Wl N L m u W v s z e
structure Dj(N:Net)(L:Nat->Int)(m u:Nat)(F W:OW)(now:Option (Nat×Bool))(done:Nat->Nat->Prop):Prop where
 fw:∀x s d,F x s=some d->Wz N L m u x s d.1 d.2
 ww:∀x s d,W x s=some d->Wz N L m u x s d.1 d.2
 dj:∀x s d,W x s=some d->F x s=none
 le:∀x s d y t d',F x s=some d->W y t=some d'->d.1<=d'.1
 mx:∀x s d y t d',now=some (x,s)->F x s=some d->F y t=some d'->d'.1<=d.1
 cl:∀x s d k y,F x s=some d->k<N.n->Jn N k x y->(now=some (x,s)->done k y)->∃d',(F y (s^^7#0)=some d'\/W y (s^^7#0)=some d')/\d'.1<=d.1+L k
 st:∃d,(F u false=some d\/W u false=some d)/\d.1<=0
def Dj.start:Dj N L m u (λ_ _=>none) (jf (λ_ _=>none) u false (0,0)) none (40#0):=by
 show⟨λ_ _ _ h=>(nomatch h),λx s d h=>?_,λ_ _ _ _=>rfl,λ_ _ _ _ _ _ h=>(nomatch h),λ_ _ _ _ _ _ h=>(nomatch h),λ_ _ _ _ _ h=>(nomatch h),ae (0,0) (.inr (c8 _ _ _ _)) (Zj _)⟩
 by_cases e:x=u/\s=false
 .obtain⟨rfl,rfl⟩:=e;rw[c8]at h;cases h;show⟨[],.nil⟩
 .rw[ck e]at h;cases h
def Dj.pop(h:Dj N L m u F W none (40#0))(e:W x s=some d)(c:∀y t U,W y t=some U->d.1<=U.1):Dj N L m u (jf F x s d) (ze W x s) (some (x,s)) (40#0):=by
 have l:=h.dj x s d e;have a:∀y t U,jf F x s d y t=some U->(y=x/\t=s/\U=d)\/F y t=some U:=λy t U q=>by
  by_cases z:y=x/\t=s
  .show 107;rw[c8]at q;show .inl (bh rl rl ((13#q).symm))
  .rw[ck z]at q;show .inr q
 have H:∀y t U,ze W x s y t=some U->¬(y=x/\t=s)/\W y t=some U:=λy t U q=>by
  by_cases z:y=x/\t=s
  .show 107;rw[sr]at q;cases q
  .rw[mS z]at q;show⟨z,q⟩
 have f:∀y t U,F y t=some U\/W y t=some U->jf F x s d y t=some U\/ze W x s y t=some U:=λy t U q=>by
  by_cases z:y=x/\t=s
  .show 107;rcases q with q|q
   .rw[l]at q;cases q
   .rw[e]at q;cases q;show .inl (c8 _ _ _ _)
  .rw[ck z,mS z];show q
 show⟨λy t U q=>?_,λy t U q=>h.ww y t U (H y t U q).2,λy t U q=>?_,λy t U X B S q E=>?_,λy t U X B S g q E=>?_,λy t U k X q R o j=>?_,?_⟩
 .rcases a y t U q with⟨rfl,rfl,rfl⟩|q
  .show h.ww _ _ _ e
  .show h.fw y t U q
 .obtain⟨z,q⟩:=H y t U q;rw[ck z];show h.dj y t U q
 .obtain⟨_,E⟩:=H X B S E;rcases a y t U q with⟨_,_,rfl⟩|q
  .show c _ _ _ E
  .show h.le _ _ _ _ _ _ q E
 .cases g;rw[c8]at q;cases q;rcases a X B S E with⟨_,_,rfl⟩|E
  .show Zj _
  .show h.le _ _ _ _ _ _ E e
 .rcases a y t U q with⟨rfl,rfl,rfl⟩|q
  .show(j rl).elim
  .show ah (λS E p=>?_) (h.cl y t U k X q R o (λz=>nomatch z))
   show ae S (f _ _ _ E) p
 .show ah (λS E p=>?_) h.st
  show ae S (f _ _ _ E) p
def Dj.put(h:Dj N L m u F W (some (x,s)) done)(e:F x s=some d)(R:k<N.n)(a:0<=L k)(o:Jn N k x y)(l:F y (s^^7#0)=none)
 (c:∀U,W y (s^^7#0)=some U->d.1+L k<=U.1):Dj N L m u F (jf W y (s^^7#0) (d.1+L k,d.2^^^2^k)) (some (x,s)) (λb n=>done b n\/(b=k/\n=y)):=by
 have H:∀v t U,jf W y (s^^7#0) (d.1+L k,d.2^^^2^k) v t=some U->(v=y/\t=(s^^7#0)/\U=(d.1+L k,d.2^^^2^k))\/W v t=some U:=λv t U q=>by
  by_cases z:v=y/\t=(s^^7#0)
  .show 107;rw[c8]at q;show .inl (bh rl rl ((13#q).symm))
  .rw[ck z]at q;show .inr q
 have f:∀v t U,F v t=some U\/W v t=some U->∃S,(F v t=some S\/jf W y (s^^7#0) (d.1+L k,d.2^^^2^k) v t=some S)/\S.1<=U.1:=λv t U q=>by
  rcases q with q|q
  .show ae U (.inl q) (Zj _)
  .by_cases z:v=y/\t=(s^^7#0)
   .show 107;show ae _ (.inr (c8 _ _ _ _)) (c U q)
   .show ae U (.inr (by rw[ck z];show q)) (Zj _)
 show⟨h.fw,λv t U q=>?_,λv t U q=>?_,λv t U A B S q E=>?_,h.mx,λv t U r X q D i j=>?_,?_⟩
 .rcases H v t U q with⟨rfl,rfl,rfl⟩|q
  .obtain⟨g,w⟩:=h.fw x s d e;show⟨_,w.go R o⟩
  .show h.ww v t U q
 .rcases H v t U q with⟨rfl,rfl,rfl⟩|q
  .show l
  .show h.dj v t U q
 .rcases H A B S E with⟨rfl,rfl,rfl⟩|E
  .have:=h.mx x s d v t U rl e q
   lia
  .show h.le _ _ _ _ _ _ q E
 .by_cases C:some (x,s)=some (v,t)->done r X
  .show ah (λS E p=>?_) (h.cl v t U r X q D i C)
   show ah (λw T z=>?_) (f _ _ _ E)
   show ae w T (p! z p)
  .have g:=YI λz=>C λI=>absurd I z
   rcases j g with z|⟨rfl,rfl⟩
   .show absurd (λ_=>z) C
   .cases g;rw[e]at q;cases q;show ae _ (.inr (c8 _ _ _ _)) (Zj _)
 .show ah (λS E p=>?_) h.st
  show ah (λw T z=>?_) (f _ _ _ E)
  show ae w T (p! z p)
def Dj.skip(h:Dj N L m u F W (some (x,s)) done)(e:F x s=some d)(a:0<=L k)(E:F y (s^^7#0)=some S\/(W y (s^^7#0)=some S/\S.1<=d.1+L k)):
 Dj N L m u F W (some (x,s)) (λb n=>done b n\/(b=k/\n=y)):=by
 show⟨h.fw,h.ww,h.dj,h.le,h.mx,λv t U r X q D i j=>?_,h.st⟩
 by_cases C:some (x,s)=some (v,t)->done r X
 .show h.cl v t U r X q D i C
 .have g:=YI λz=>C λI=>absurd I z
  rcases j g with z|⟨rfl,rfl⟩
  .show absurd (λ_=>z) C
  .cases g;rw[e]at q;cases q;rcases E with E|⟨E,p⟩
   .have:=h.mx x s d _ _ S rl e E;show ae S (.inl E) (by lia)
   .show ae S (.inr E) p
def Dj.all(h:Dj N L m u F W (some (x,s)) done)(C:∀k y,k<N.n->Jn N k x y->done k y):Dj N L m u F W none (40#0) :=
 ⟨h.fw,h.ww,h.dj,h.le,λ_ _ _ _ _ _ z=>(nomatch z),λv t d k y q R o _=>h.cl v t d k y q R o λz=>by cases z;show C k y R o,h.st⟩
def Dj.best(h:Dj N L m u F W none (40#0))(c:∀x s,W x s=none)(x)(s):Qv N L m u x s ((F x s).map (·.1)):=by
 have g:∀{a:List Nat} {v e:Nat} {t:Bool} {z:Int},Wl N L m u a v t z e->∃d,F v t=some d/\d.1<=z:=λ{a v e t z} w=>by
  induction w with
  | nil =>
    show ah (λd q l=>?_) h.st
    rcases q with q|q
    .show ae d q l
    .rw[c]at q;cases q
  | @go a v w k e s z _ R o O =>
    revert O;show ah λd q l=>?_
    show ah (λS E p=>?_) (h.cl _ _ d k _ q R o (λz=>nomatch z))
    rcases E with E|E
    .show ae S E (by lia)
    .rw[c]at E;cases E
 cases q:F x s with
 | none =>
   intro z ⟨_,_,w⟩;show ah (λd E _=>?_) (g w)
   rw[q]at E;cases E
 | some d =>
   obtain⟨a,w⟩:=h.fw x s d q;show⟨fj _ _ w,λz f=>?_⟩
   obtain⟨_,_,k⟩:=f;show ah (λS E p=>?_) (g k)
   rw[q]at E;cases E;show p
end RM
namespace L2
open PySem Ring
abbrev ky(x:Nat)(s:Bool):List Key:=[.inl (x:Int),.inl (s.toNat:Int)]
def D6(h:ky x s=ky y t):x=y/\s=t:=by
 injection h with G C
 injection C with C _
 injection G with G
 injection C with C
 show⟨by lia,?_⟩
 cases s<;>cases t<;>first | rfl | (simp at C)
def wV(H:Hp):Option (Int×Nat)->V->Prop
 | none,v=>v = .fg
 | some d,v=>∃c,v = .ref c/\H c=17#([.int d.1,.int (d.2:Int)])
def wV.tups(h:wV H o v)(s:fh H M):wV M o v:=by
 cases o with
 | none=>show h
 | some d=>revert h;show ah λc e q=>?_;show ae c e (s _ _ q)
structure t8(p:Nat)(H0:Hp)(D wd:Addr)(es:List Addr)(kvs:List (List Key×V))(F W:RM.OW)(H:Hp):Prop where
 same:aj H0 H
 nd:es.Nodup
 ne:D∉es
 fr:∀b∈es,H0 b=none
 Dn:H0 D=none
 wn:H0 wd=none
 wD:wd≠D
 wE:wd∉es
 lst:H D=1#(es.map V.ref)
 at_:∀i b,es[i]?=some b->∃v0 v1,H b=1#([v0,v1])/\wV H (F i false) v0/\wV H (F i true) v1
 dt:H wd=some (.dT kvs)
 kn:(kvs.map (·.1)).Nodup
 keys:∀kv∈kvs,∃x s,x<p/\kv.1=ky x s
 out:∀x s d,W x s=some d->x<p
 val:∀x s,(W x s=none/\fJ kvs (ky x s)=none)\/∃d c,W x s=some d/\fJ kvs (ky x s)=some (.ref c)/\H c=17#([.int d.1,.int (d.2:Int)])
section
variable {p:Nat}{H0 H H' : Hp}{D wd:Addr}{es:List Addr}{kvs:List (List Key×V)}{F W:RM.OW}
def t8.go(h:t8 p H0 D wd es kvs F W H)(s:aj H H'):t8 p H0 D wd es kvs F W H' :=
 ⟨h.same.trans s,h.nd,h.ne,h.fr,h.Dn,h.wn,h.wD,h.wE,s _ _ h.lst,λi b e=>let⟨v0,v1,a,b1,c⟩:=h.at_ i b e;(ao v0 v1 (s _ _ a) (b1.tups s.tups) (c.tups s.tups)),s _ _ h.dt,h.kn,h.keys,h.out,
  λx t=>(h.val x t).imp (λz=>z) <| aA λd c a b e=>ao d c a b (s _ _ e)⟩
def t8.len(h:t8 p H0 D wd es kvs F W H):kvs.length<=2*p:=by
 have g:=h.kn;have R:=h.keys
 let code:List Key->Nat:=λk=>match k with | [.inl x,.inl s]=>2*x.toNat+s.toNat | _=>0
 have w:∀a∈kvs.map (·.1),∀b∈kvs.map (·.1),code a=code b->a=b:=λa j b Z e=>by
  show ah (λu r U=>?_) (XT.mp j);subst U
  show ah (λv i f=>?_) (XT.mp Z);subst f
  show aR (λx s _ q=>?_) (R u r)
  show aR (λy t _ B=>?_) (R v i)
  rw[q,B]at e ⊢;have e:2*((x:Int)).toNat+((s.toNat:Int)).toNat=2*((y:Int)).toNat+((t.toNat:Int)).toNat:=e;rw[X3,X3,X3,X3]at e;have d:s.toNat<2:=by cases s<;>decide
  have l:t.toNat<2:=by cases t<;>decide
  have J:x=y:=by lia
  have c:s.toNat=t.toNat:=by lia
  have E:s=t:=by cases s<;>cases t<;>first | rfl | (simp at c)
  rw[J,E]
 have i:((kvs.map (·.1)).map code).Nodup:=by
  revert w
  generalize kvs.map (·.1)=l at g;intro w
  induction g with
  | nil=>show J'
  | @cons a l G C O =>
    rw[Yd,YK];show⟨λd=>?_,O λa j b Z e=>w a (nc _ j) b (nc _ Z) e⟩
    show ah (λb Z e=>?_) (XT.mp d)
    show G b Z (w a X0 b (nc _ Z) e.symm)
 have sub:∀c∈(kvs.map (·.1)).map code,c∈List.range (2*p):=λc L=>by
  show ah (λa j C=>?_) (XT.mp L);subst C
  show ah (λu r f=>?_) (XT.mp j);subst f
  show aR (λx s B q=>?_) (R u r)
  rw[q,Yk];change 2*((x:Int)).toNat+((s.toNat:Int)).toNat<2*p;rw[X3,X3];have d:s.toNat<2:=by cases s<;>decide
  lia
 have:=i.length_le_of_subset sub
 simpa using this
def t8.row(h:t8 p H0 D wd es kvs F W H)(d:i<es.length):∃b k n,(es.map V.ref)[i]?=some (.ref b)/\es[i]?=some b/\H b=1#([k,n])/\wV H (F i false) k/\wV H (F i true) n:=by
 have e:=XW d;show aA (λk n a b c=>?_) (h.at_ i _ e)
 show bS (es[i]) k n (by rw[XQ,e];rfl) e a b c
theorem qJ [DecidableEq a](k j):∀kvs:List (a×V),fJ (fD kvs k) j=if j=k then none else fJ kvs j
 | []=>by rw[show fD ([]) k=[] from rfl,tN];split<;>rfl
 | q::r=>by
   by_cases e:q.1=k
   .rw[xu e,qJ k j r]
    by_cases D:j=k
    .rw[XI D,XI D]
    .rw[XH D,XH D,dY (λz=>D (z.symm.trans e))]
   .rw[xw e]
    by_cases E:q.1=j
    .rw[ef E,XH (λz=>e (E.trans z)),ef E]
    .rw[dY E,qJ k j r,dY E]
def t8.take(h:t8 p H0 D wd es kvs F W H)(e:W x s=some d)(L:H c=17#([.int d.1,.int (d.2:Int)]))(Z:es[x]?=some b)(B:H b=1#([k,n])):
 t8 p H0 D wd es (fD kvs (ky x s)) (RM.jf F x s d) (RM.ze W x s) (η (η H wd (.dT (fD kvs (ky x s)))) b 28#(([k,n]:List V).set s.toNat (.ref c))):=by
 have A:=fC Z;have u:b≠wd:=λz=>h.wE (z▸A)
 have w:D≠b:=λz=>h.ne (z▸A)
 have r:fh H (η (η H wd (.dT (fD kvs (ky x s)))) b 28#(([k,n]).set s.toNat (.ref c))):=λa J q=>by
  rwa [aq (cC q B 26#0),aq (cC q h.dt 26#0)]
 show⟨(h.same.put h.wn).put (h.fr b A),h.nd,h.ne,h.fr,h.Dn,h.wn,h.wD,h.wE,by rw[aq w,aq (Yy h.wD)];show h.lst,λi g v=>?_,by rw[aq (Yy u),aa],tO h.kn,λR m=>h.keys R (xx m),λy t U q=>?_,λy t=>?_⟩
 .by_cases f:i=x
  .subst f;rw[Z]at v;cases v;show aA (λj o P E T=>?_) (h.at_ _ _ Z)
   rw[B]at P;cases P;cases s with
   | false=>show ao (.ref c) n aa (by rw[RM.c8];show ae c rl (r _ _ L)) (by rw[RM.ck (λz=>by cases z.2)];show T.tups r)
   | true=>show ao k (.ref c) aa (by rw[RM.ck (λz=>by cases z.2)];show E.tups r) (by rw[RM.c8];show ae c rl (r _ _ L))
  .have I:g≠b:=λz=>by
    subst z;obtain⟨G,C⟩:=jc.mp v;obtain⟨l,E⟩:=jc.mp Z;show f ((d! h.nd).mp (C.trans E.symm))
   show aA (λj o P E T=>?_) (h.at_ _ _ v)
   show ao j o (by rw[aq I,aq (show g≠wd from λz=>h.wE (z▸fC v))];show P) (by rw[RM.ck (λz=>f z.1)];show E.tups r) (by rw[RM.ck (λz=>f z.1)];show T.tups r)
 .by_cases z:y=x/\t=s
  .show 107;rw[RM.sr]at q;cases q
  .rw[RM.mS z]at q;show h.out y t U q
 .rw[qJ]
  by_cases z:y=x/\t=s
  .show 107;show .inl ⟨RM.sr _ _ _,XI rfl⟩
  .rw[RM.mS z,XH (λq=>z (D6 q))]
   rcases h.val y t with q|⟨U,O,P,E,T⟩
   .show .inl q
   .show .inr (ao U O P E (r _ _ T))
def t8.wait(h:t8 p H0 D wd es kvs F W H){d:Int×Nat}(B:x<p)(L:H c=17#([.int d.1,.int (d.2:Int)])):
 t8 p H0 D wd es (putK kvs (ky x s) (.ref c)) F (RM.jf W x s d) (η H wd (.dT (putK kvs (ky x s) (.ref c)))):=by
 have r:fh H (η H wd (.dT (putK kvs (ky x s) (.ref c)))):=λa k q=>by
  rwa [aq (cC q h.dt 26#0)]
 have g:(∀R∈putK kvs (ky x s) (.ref c),∃x s,x<p/\R.1=ky x s)/\((putK kvs (ky x s) (.ref c)).map (·.1)).Nodup:=by
  cases q:fJ kvs (ky x s) with
  | none =>
    show⟨λR m=>?_,Nm _ h.kn q⟩
    rw[AQ _ q]at m;rcases Ye.mp m with z|z
    .show h.keys R z
    .rw[XU.mp z];show bf x s B rfl
  | some v =>
    have b:(kvs.any λR=>9#(R.1=ky x s))=true:=by rw[iB,q];rfl
    have e:putK kvs (ky x s) (.ref c)=kvs.map λR=>if R.1=ky x s then(R.1,.ref c) else R:=by unfold putK;rw[XI b]
    have M:(putK kvs (ky x s) (.ref c)).map (·.1)=kvs.map (·.1):=by
     rw[e,YC];show A! λR _=>?_
     change(if R.1=ky x s then(R.1,V.ref c) else R).1=R.1
     split<;>rfl
    show⟨λR m=>?_,by rw[M];show h.kn⟩
    have i:R.1∈kvs.map (·.1):=by rw[<-M];show Z7 m
    show ah (λf G C=>?_) (XT.mp i)
    rw[<-C];show h.keys f G
 show⟨h.same.put h.wn,h.nd,h.ne,h.fr,h.Dn,h.wn,h.wD,h.wE,by rw[aq (Yy h.wD)];show h.lst,λi b Z=>?_,aa,g.2,g.1,λy t U q=>?_,λy t=>?_⟩
 .show aA (λj o P E T=>?_) (h.at_ _ _ Z)
  show ao j o (by rw[aq (show b≠wd from λz=>h.wE (z▸fC Z))];show P) (E.tups r) (T.tups r)
 .by_cases z:y=x/\t=s
  .rw[z.1];show B
  .rw[RM.ck z]at q;show h.out y t U q
 .rw[KC]
  by_cases z:y=x/\t=s
  .show 107;show .inr (ao d c (RM.c8 _ _ _ _) (XI rl) (r _ _ L))
  .rw[RM.ck z,XH (λq=>z (D6 q))]
   rcases h.val y t with q|⟨U,O,P,E,T⟩
   .show .inl q
   .show .inr (ao U O P E (r _ _ T))
end
abbrev jF(m:Nat)(H:Hp)(c:Addr)(a:Nat×Nat):Prop:=H c=17#([.int (a.1:Int),.int (a.2:Int),.int ((m.testBit a.1).toNat:Int)])
structure H8(m:Nat)(H0:Hp)(D:Addr)(es:List Addr)(S:Nat->List (Nat×Nat))(H:Hp):Prop where
 same:aj H0 H
 nd:es.Nodup
 ne:D∉es
 fr:∀b∈es,H0 b=none
 Dn:H0 D=none
 lst:H D=1#(es.map V.ref)
 at_:∀i b,es[i]?=some b->∃cs,H b=1#(cs.map V.ref)/\Paired (jF m H) cs (S i)
section
variable {m:Nat}{H0 H H' : Hp}{D b:Addr}{es:List Addr}{S:Nat->List (Nat×Nat)}{i:Nat}
def H8.go(h:H8 m H0 D es S H)(s:aj H H'):H8 m H0 D es S H' :=
 ⟨h.same.trans s,h.nd,h.ne,h.fr,h.Dn,s _ _ h.lst,λi b e=>let⟨cs,a,q⟩:=h.at_ i b e;(ae cs (s _ _ a) (Paired.Ak q λ_ _ z=>s _ _ z))⟩
def t9(S:Nat->List (Nat×Nat))(x:Nat)(a:Nat×Nat):Nat->List (Nat×Nat):=λi=>if i=x then S i++[a] else S i
def H8.get(h:H8 m H0 D es S H)(F:i<es.length):∃b y,(es.map V.ref)[i]?=some (.ref b)/\es[i]?=some b/\H b=1#(y.map V.ref)/\Paired (jF m H) y (S i):=by
 have e:=XW F;show ah (λy a q=>?_) (h.at_ i _ e)
 show aM (es[i]) y (by rw[XQ,e];rfl) e a q
def H8.put(h:H8 m H0 D es S H){y:List Addr}(Z:es[i]?=some b)(u:H b=1#(y.map V.ref))(q:Paired (jF m H) y (S i))(L:jF m H c a):
 H8 m H0 D es (t9 S i a) (η H b 28#(y.map V.ref++[.ref c])):=by
 have d:=fC Z;have U:D≠b:=λz=>h.ne (z▸d)
 have r:∀c a,jF m H c a->jF m (η H b 28#(y.map V.ref++[.ref c])) c a:=λc a z=>by
  change η H b _ c=_
  rwa [aq (cC z u 26#0)]
 have f:∀x a,jF m H x a->jF m (η H b 28#(y.map V.ref++[.ref c])) x a:=λx a z=>by
  change η H b _ x=_
  rwa [aq (cC z u 26#0)]
 show⟨h.same.put (h.fr b d),h.nd,h.ne,h.fr,h.Dn,by rw[aq U];show h.lst,λj g v=>?_⟩
 by_cases e:j=i
 .subst e;rw[Z]at v;cases v;show ae (y++[c]) (by rw[aa];simp) ?_
  unfold t9;rw[XI rfl];show Paired.snoc (Paired.Ak q λ_ _ z=>f _ _ z) (f _ _ L)
 .have W:g≠b:=λz=>by
   subst z;obtain⟨G,C⟩:=jc.mp v;obtain⟨l,E⟩:=jc.mp Z;show e ((d! h.nd).mp (C.trans E.symm))
  show ah (λn P E=>?_) (h.at_ j g v)
  show ae n (by rw[aq W];show P) ?_
  unfold t9;rw[XH e];show Paired.Ak E λ_ _ z=>f _ _ z
def H8.off(h:H8 m H0 D es S H)(a:H L=none):L∉es:=λz=>by
 obtain⟨j,o⟩:=Zd z;show ah (λ_ q _=>?_) (h.at_ j L o)
 rw[a]at q;cases q
def O1(m:Nat)(H0:Hp)(D:Addr)(i:Nat)(I:List V)(H:Hp):Prop:=∃es,I=es.map V.ref/\es.length=i/\H8 m H0 D es (λ_=>[]) H
def O1.start(u:H0 D=none):O1 m H0 D 0 [] (86#H0) :=
 (au [] rl rl ⟨aj.new u,J',ZF,λ_ h=>(ZF h).elim,u,aa,λi b e=>by cases e⟩)
def O1.len(h:O1 m H0 D i I H):10#H/\I.length<=i:=by
 revert h;show az λes U e r=>?_;subst U
 show⟨r.lst,by rw[XG];lia⟩
def O1.next(h:O1 m H0 D i I H)(Z:H b=none):η H b (.lst []) D=some (.lst I)/\O1 m H0 D (i+1) (I++[.ref b]) (η (η H b (.lst [])) D 28#(I++[.ref b])):=by
 revert h;show az λes f e r=>?_;subst f
 have g:D≠b:=λz=>by
  have:=r.lst;rw[z,Z]at this;cases this
 have F:=r.off Z;have a:=r.same.free Z;show⟨by rw[aq g];show r.lst,(au (es++[b]) 21#0 (by simp[e]) ⟨(r.same.put a).put r.Dn,?_,?_,λc L=>?_,r.Dn,by rw[aa];simp,λj c L=>?_⟩)⟩
 .show F!.mpr (bh r.nd 21#0 (λx B y W=>by rw[XU.mp W];show λz=>F (z▸B)))
 .intro d;rcases Ye.mp d with z|z
  .show r.ne z
  .show g (XU.mp z)
 .rcases Ye.mp L with z|z
  .show r.fr c z
  .rwa [XU.mp z]
 .have k:c≠D:=λz=>by
   subst z;rcases Ye.mp (fC L) with z|z
   .show r.ne z
   .show g (XU.mp z)
  show ae [] ?_ .nil;rw[aq k]
  by_cases d:c=b
  .rw[d,aa];rfl
  .rw[aq d]
   by_cases o:j<es.length
   .rw[Yx o]at L;show ah (λy P E=>?_) (r.at_ j c L)
    cases E;show P
   .rw[YB (by lia)]at L
    have:=fC L;show absurd (XU.mp this) d
end
structure O2(N:RM.Net)(k:Nat)(S:Nat->List (Nat×Nat)):Prop where
 mem:∀i kw,kw∈S i↔(kw.1<k/\RM.Jn N kw.1 i kw.2)
 len:∀i,(S i).length<=2*k
def O2.start:O2 N 0 (λ_=>[]):=⟨λi a=>⟨λh=>(nomatch h),λh=>absurd h.1 (Y5 _)⟩,λ_=>Yo _⟩
def O2.next(h:O2 N k S):O2 N (k+1) (t9 (t9 S (N.a k) (k,N.b k)) (N.b k) (k,N.a k)):=by
 show⟨λi a=>?_,λi=>?_⟩
 .have D:∀(S:Nat->List (Nat×Nat)) (x:Nat) (q:Nat×Nat),a∈t9 S x q i↔a∈S i\/(i=x/\a=q):=λS x q=>by
   unfold t9
   by_cases e:i=x
   .rw[XI e,Ye,XU];simp[e]
   .rw[XH e];simp[e]
  rw[D,D,h.mem];obtain⟨b,w⟩:=a
  constructor
  .rintro((⟨G,C⟩|⟨rfl,C⟩) | ⟨rfl,C⟩)
   .show⟨Zu G,C⟩
   .cases C;show⟨Z1 _,.inl ⟨rfl,rfl⟩⟩
   .cases C;show⟨Z1 _,.inr ⟨rfl,rfl⟩⟩
  .rintro⟨G,C⟩
   by_cases e:b<k
   .show .inl (.inl ⟨e,C⟩)
   .have e:b=k:=by have:b<k+1:=G;lia
    subst e;rcases C with⟨l,E⟩|⟨l,E⟩
    .show .inl (.inr ⟨l.symm,by have E:=E;rw[E]⟩)
    .show .inr ⟨l.symm,by have E:=E;rw[E]⟩
 .have D:∀(S:Nat->List (Nat×Nat)) (x:Nat) (q:Nat×Nat),27#(t9 S x q i)<=(S i).length+1:=λS x q=>by
   unfold t9
   split
   .simp
   .lia
  have G:=D (t9 S (N.a k) (k,N.b k)) (N.b k) (k,N.a k);have C:=D S (N.a k) (k,N.b k);have l:=h.len i
  lia
end L2
namespace RM
def left(F:OW):Nat->Nat
 | 0=>0
 | p+1=>left F p+(if(F p false).isNone then 1 else 0)+(if(F p true).isNone then 1 else 0)
theorem xK:∀{p},(∀x,x<p->∀s,F x s=G x s)->left F p=left G p
 | 0,_=>rfl
 | p+1,h=>by
   unfold left;rw[xK λx B=>h x (by lia),h p (by lia),h p (by lia)]
theorem Bg(g:F x s=none):∀{p},x<p->left (jf F x s d) p<left F p
 | 0,h=>absurd h (Y5 _)
 | p+1,h=>by
   unfold left
   by_cases e:x=p
   .subst e;rw[xK λy W t=>ck λz=>by lia]
    cases s with
    | false=>rw[c8,ck (λz=>by cases z.2),g];simp
    | true=>rw[c8,ck (λz=>by cases z.2),g];simp
   .have O:=Bg (d:=d) g (p:=p) (by lia)
    rw[ck (λz=>e z.1.symm),ck (λz=>e z.1.symm)]
    lia
end RM
namespace L2
open PySem Ring
def Tf(W:RM.OW)(k:List Key):List Int:=match k with
 | [.inl x,.inl s]=>(match W x.toNat (decide (s=1)) with | some d=>[d.1,(d.2:Int)] | none=>[])
 | _=>[]
def Ln(h:W x s=some d):Tf W (ky x s)=[d.1,(d.2:Int)]:=by
 have e:(9#(19#s.toNat=1))=s:=by cases s<;>rfl
 change(match W ((x:Int)).toNat (9#(19#s.toNat=1)) with | some d=>[d.1,d.2] | none=>[])=_
 rw[X3,e,h]
def Lp(W:RM.OW)(J:List (List Key×V))(i:Nat):List Int:=Tf W ((J[i]?.map (·.1)).getD [])
def zf(h:HT.lexLt [a,b] [c,d]=false):c<=a:=by
 rw[HT.eT]at h
 by_cases e:a=c
 .lia
 .rw[XH e]at h;have:=of_decide_eq_false h
  lia
theorem xM [DecidableEq a]:∀{kvs} {k:a} {v:V},(kvs.map (·.1)).Nodup->(k,v)∈kvs->fJ kvs k=some v
 | [],_,_,_,h=>nomatch h
 | q::r,k,v,nd,h=>by
   rw[Yd,YK]at nd;rcases XS.mp h with e|h
   .subst e;show ef rfl
   .have T : ¬ q.1=k:=λz=>nd.1 (by rw[z];show Z7 h)
    rw[dY T];show xM nd.2 h
def t8.entry(h:t8 p t D g f J F W H)(e:J[i]?=some R):
 ∃x s d c,x<p/\R.1=ky x s/\W x s=some d/\fJ J (ky x s)=some (.ref c)/\R.2 = .ref c/\H c=17#([.int d.1,.int (d.2:Int)])/\Lp W J i=[d.1,(d.2:Int)]:=by
 have b:=fC e;show aR (λx s B M=>?_) (h.keys R b)
 have a:fJ J (ky x s)=some R.2:=xM h.kn (by rw[<-M];show b)
 rcases h.val x s with⟨_,z⟩|⟨d,c,G,C,l⟩
 .rw[a]at z;cases z
 .rw[a]at C;show bO x s d c B M G (a.trans C) (bh (13#C) l ?_);unfold Lp;rw[e];change Tf W R.1=_;rw[M];show Ln G
def t8.find(h:t8 p t D g f J F W H)(e:W x s=some d):∃i R,J[i]?=some R/\R.1=ky x s/\Lp W J i=[d.1,(d.2:Int)]:=by
 rcases h.val x s with⟨z,_⟩|⟨U,c,G,C,l⟩
 .rw[e]at z;cases z
 .have b:=Nl C;show ah (λR m M=>?_) (XT.mp b)
  obtain⟨i,a⟩:=Zd m;show ao i R a M ?_;unfold Lp;rw[a];change Tf W R.1=_;rw[M];show Ln e
def t8.start(f:DX t D W (λ_ _=>none) H)(r:u<p)(k:H g=some (.dT []))(l:t g=none)(L:H c=17#([.int 0,.int 0])):
 t8 p t D g W [(ky u false,.ref c)] (λ_ _=>none) (RM.jf (λ_ _=>none) u false (0,0)) (η H g (.dT [(ky u false,.ref c)])):=by
 have a:g≠D:=λz=>by rw[z,f.lst]at k;cases k
 have h:g∉W:=λz=>by
  obtain⟨j,o⟩:=Zd z;have:=f.at_ j g o;rw[k]at this;cases this
 show⟨f.same.put l,f.nd,f.ne,f.fr,f.Dn,l,a,h,by rw[aq (Yy a)];show f.lst,λi b Z=>?_,aa,by simp,λR m=>?_,λx s d e=>?_,λx s=>?_⟩
 .have j:b≠g:=λz=>h (z▸fC Z)
  show ao .fg .fg (by rw[aq j];show f.at_ i b Z) rl rfl
 .rw[XU.mp m];show bf u false r rfl
 .by_cases z:x=u/\s=false
  .rw[z.1];show r
  .rw[RM.ck z]at e;cases e
 .by_cases z:x=u/\s=false
  .show 107;show .inr (ao (0,0) c (RM.c8 _ _ _ _) (ef rl) (by rw[aq (cC L k 26#0)];show L))
  .show .inl ⟨RM.ck z,?_⟩;rw[dY (λq=>z ?_),tN]
   obtain⟨J,j⟩:=D6 q;show⟨J.symm,j.symm⟩
open PySem PySem.Spec PyProof.Rows
section
variable   {A:Around}  {s:Shared}
def Lq(N:A.handled=none)(S:s.heap.IsList l #[J,H])
 (O:∀h' D,(∀b o,18#o->47#h'.get?)->Q [J,H] { s with heap:=h',toks:=D}):80#(unpackItems (.ref l) 2 none):=by
 show dI (λq f h v d=>?_) (id S)
 have t:s.TypeIs (.ref l) "list":=ae q f h;have U:=Yj (XX f);show aW ?_;show aW (wpAny_specialOf t PySem.F.slot_list_iter.lookup (XN ?_));show aW (Ys (wpAny_pyIter_list S ?_));have W:=Walks.list (prog:=P) (w:=w) N s.heap.objs.size l U #[J,H];generalize y:s.heap.push { cls:=.type "list_iterator",data:=.fields #[.ref l,.int 0 0]}=m;have k:∀b o,18#o->47#m.get?:=λb o e=>by rw[<-y];show XM _ e
 have F:m.IsListIter s.heap.objs.size l 0:=by rw[<-y];show au _ (X6 _ rl) rl rfl
 have u:m.IsList l #[J,H]:=by rw[<-y];show ae q (XM _ f) (b9 h v d)
 have i:∀b o,18#o->b∉[s.heap.objs.size]:=λb o e z=>Yj (XX e) (XU.mp z)
 show aW (Ys ?_);show aW (W.item 0 _ _ _ 21#0 ⟨F,u⟩ λn G L B g p=>?_)
 obtain rfl:J=n:=by simpa using B
 show aW (Ys ?_);show aW (W.item 1 _ _ _ 21#0 g λX C I x c r=>?_)
 obtain rfl:H=X:=by simpa using x
 show aW (Ys ?_);show XN (XN (XN ?_));rw[XH 21#0]
 show aW (Ys (W.done _ _ _ c λM j a=>?_))
 show XN (O M j λb o e=>a b o (i b o e) (r b o (i b o e) (p b o (i b o e) (k b o e))))
def Lr{x1}(N:A.handled=none)(S:s.heap.IsList l #[J,H])
 (g:27#(assignEach a env)=2) (c:(assignEach a env).findIdx? (·.1)=none)
 (h:∀h' D,(∀b o,18#o->47#h'.get?)->wpAny (model P w) A (assignInOrder ((assignEach a env).map (·.2)) [J,H]) Q E { s with heap:=h',toks:=D}) :
 80#(assign (.Tuple a x1 d) env (.ref l)):=by
 rw[arm_assign_Tuple];show aW (wpAny_standAt ?_);unfold unpack;rw[g,c];show aW (Ys (Lq N S h))
end
section
variable {X:Cx}{es:List Expr}{pos:Pos}
def Sv(K:b7)(t:ME):TG:=λv U H Q=>∃a x y,v = .ref a/\aH K H a [x,y]/\t [x,y] U H Q
def UG(K:b7){k:Nat}{t:ME}(L:X.calm=true)(h:Rj X es t)
 (g:27#(assignEach es X.env)=2:=by rfl) (w:(assignEach es X.env).findIdx? (·.1)=none:=by rfl) (c:X.K=K:=by rfl):PG X (.Tuple es k pos) (Sv K t):=by
 subst c;intro A s U H v u Q I r j
 revert j;show cy λa x y J T j=>?_
 subst J;cases r;show 108#(λN O R m=>?_)
 cases O with
 | cons d F=>cases F with
   | cons p b =>
     cases b;show Lr (I.ok.hd L) R.isList g w λM D B=>?_
     show h A _ U H [x,y] _ Q (I.kept B) (.cons d (.cons p .nil)) j
end
end L2
namespace RM
section
variable {N:Net}
theorem q8:∀{n},(∀k,k<n->0<L k)->(∀k,k<n->f k=true->g k=true)->∀k,k<n->f k=false->g k=true->lsum L f n<lsum L g n
 | 0,_,_,k,R,_,_=>absurd R (Y5 _)
 | n+1,a,h,k,R,Y,y=>by
   unfold lsum;have b:=h n (by lia)
   have J:=a n (by lia)
   by_cases e:k=n
   .subst e;have:=qG (n:=k) (λj o=>Ξ (a j (by lia))) λj o=>h j (by lia)
    rw[Y,y];simp only[Bool.false_eq_true,if_false,if_true]
    lia
   .have O:=q8 (n:=n) (λj o=>a j (by lia)) (λj o=>h j (by lia)) k (by lia) Y y
    cases w:f n with
    | false=>cases g n<;>simp<;>lia
    | true=>rw[b w];simp;lia
def D7(a:∀k,k<N.n->0<L k)(t:u<N.p)(h:Wz N L m u u true z e)(c:∀x y,x<N.p->Wy N L m x x true y->z<=y):
 N.Ring e/\e<2^N.n/\N.par e m=true/\lsum L (λk=>e.testBit k) N.n=z:=by
 have i:∀k,k<N.n->0<=L k:=λk R=>Ξ (a k R)
 obtain⟨W,h⟩:=h;show eO (λ_ C l E F _=>?_) (lW i t h)
 show az (λr q p s=>?_) (DW _ e rl C (λx _=>by rw[l,Bool.xor_self]) E)
 have d:=fH λk R=>qH C (p k R)
 show ah (λx B j=>?_) (tX i m q d)
 rw[s]at j;have v:=c x _ B j;have o:=qG (f:=λk=>r.testBit k) (g:=λk=>e.testBit k) i λk _ R=>p k R
 have b:e=r:=YR λk=>by
  cases P:r.testBit k with
  | true=>show p k P
  | false =>
    cases n:e.testBit k with
    | false=>rfl
    | true =>
      have:=q8 (f:=λk=>r.testBit k) (g:=λk=>e.testBit k) a (λk _ R=>p k R) k (qH C n) P n
      lia
 rw[b];show f7 q d s (by lia)
def Bh(a:∀k,k<N.n->0<=L k)(v:∀x y,x<N.p->¬ Wy N L m x x true y)(P:N.Ring r)(d:r<2^N.n):N.par r m=false:=by
 cases t:N.par r m with
 | false=>rfl
 | true =>
   show ah (λx B j=>?_) (tX a m P d)
   rw[t]at j;show absurd j (v x _ B)
end
end RM
namespace L2
open PySem PySem.Spec PyProof.Rows
section
variable {X:Cx}{pq:cM}{σ:St}  {l It S:Addr}{cs:List Addr}{ks:Nat->List Int}
def kN(I:θ X L σ H s)(b:aH X.K H l (cs.map V.ref)):s.heap.IsList l (cs.map Value.ref).toArray:=by
 show az (λN a p m=>?_) (I.list b)
 have e:N=cs.map Value.ref:=by
  clear b p m
  induction cs generalizing N with
  | nil=>cases a;rfl
  | cons c r O =>
    rw[Yd]at a;cases a with
    | cons h t=>cases h;rw[O _ t];rfl
 rw[e]at p;show p.isList
def H9(N:X.A.handled=none)(un:X.A.in1.units<cLine)(C:aH X.K H l (cs.map V.ref))(E:∀(i:Nat) c,cs[i]?=some c->aY X.K H c ((ks i).map V.int))(d:DY X S)(k:DY X It)(D:S≠It)(b:l≠It)
 (T:∀p∈pq,p.1≠It) (y:∀p∈pq,p.1≠S)
 (a:∀(i:Nat) c s',cs[i]?=some c->(∀j,j<cs.length->HT.lexLt (ks j) (ks i)=false)->θ X pq σ H s'->R (.ok (.ret (.ref c))) s') :
 ∀r j i c s n h,cs.length-j=r->j<=cs.length->i<j->cs[i]?=some c->θ X ((S,seqObj "list" #[.ref c,.ref c] n)::(It,h)::pq) σ H s->s.heap.IsListIter It l j->
   (∀m,m<j->HT.lexLt (ks m) (ks i)=false)->codeAny 8#0 X.A (.builtin "min.loop" ⟨[.ref It,.none,.ref S],[]⟩) R s:=by
 have F:(toString "min" ++ toString ".loop")="min.loop":=by decide
 have W:=Walks.list (prog:=X.prog) (w:=X.w) (A:=X.A.in1) N It l b (cs.map Value.ref).toArray;have x:(cs.map Value.ref).toArray.size=cs.length:=by simp
 intro r
 induction r with
 | zero =>
   intro j i c s n h P o q L I z N;have g:j=cs.length:=by lia
   have Q:=I.pin (S,_) 54#iX;show codeAny_builtin Zz ?_;rw[Around.under_plainId YD _];show aW (wpAny_seqItems Q.1 rl ?_);show aW (Zs (W.done _ _ _ ⟨by rw[x,<-g];show z,kN I C⟩ λM G B=>?_))
   have J:=I.jr (t':=G) k 54#List.Mem.tail (λb u Z e=>B b u (85#0) e) (λp t=>by
    show 35
    .show .inr ⟨.head _,D⟩
    .show .inr ⟨.tail _ (.tail _ t),T p t⟩)
   have v:=J.pin (S,_) 54#iX;show aW (wpAny_updateSeq v.1 rl (aW (wpAny_letGo (XN ?_))));have s1:=YF M S 98#(#[])
   show a i c _ L (λm f=>N m (by lia)) (J.jr d (.head _) (λb u Z e=>(s1.2 b Z).trans e) λp t=>.inr ⟨.tail _ t,y p t⟩)
 | succ r O =>
   intro j i c s n h P o q L I z N;have g:j<cs.length:=by lia
   have Q:=I.pin (S,_) 54#iX;show codeAny_builtin Zz ?_;rw[Around.under_plainId YD _];show aW (wpAny_seqItems Q.1 rl ?_);show aW (Zs (W.item j _ _ _ (by rw[x];show g) ⟨z,kN I C⟩ λv M G a q B=>?_))
   have U:=XW g;obtain rfl:v = .ref cs[j]:=by
    have:(cs.map Value.ref)[j]?=some v:=by simpa using a
    rw[XQ,U]at this;show(13#this).symm
   show az (λY g o h=>?_) (id q.1)
   have J:=I.jr (t':=G) (pb:=(S,seqObj "list" #[.ref c,.ref c] n)::(It,Y)::pq) k 54#List.Mem.tail (λb u Z e=>B b u (85#0) e) (λp t=>by
    show 35
    .show .inr ⟨.head _,D⟩
    .show 35
     .show .inl (bh rl g (λv z=>by rw[h]at z;cases z))
     .show .inr ⟨.tail _ (.tail _ t),T p t⟩)
   have C:=J.pin (S,_) 54#iX;change wpAny _ X.A.in1 (tryCatch (holding [.ref cs[j],.ref cs[j]] (richCompare .Lt (.ref cs[j]) (.ref c) >>= _)) _ >>= _) _ _ _;show aW (Zs (Ys (aW (Lg J (E j _ U) (E i c L) un ?_))));show aW (Ys (wpAny_truthy_bool (aW (wpAny_letGo (XN ?_)))));cases a:HT.lexLt (ks j) (ks i) with
   | true =>
     have s1:=YF M S 98#(#[.ref cs[j],.ref cs[j]])
     obtain⟨T,E⟩:∃T,(M.update S 98#(#[.ref cs[j],.ref cs[j]])).get? S=some (seqObj "list" #[.ref cs[j],.ref cs[j]] T):=⟨_,get?_update_seq C.1 λ_=>#[.ref cs[j],.ref cs[j]]⟩
     show aW (wpAny_updateSeq C.1 rfl (aW (wpAny_letGo ?_)));rw[F];have k:=J.jr (t':=G) (pb:=(S,seqObj "list" #[.ref cs[j],.ref cs[j]] T)::(It,Y)::pq) d (.head _) (λb u Z e=>(s1.2 b Z).trans e) (λp t=>by
      show 35
      .show .inl (bh rl E (λv z=>by cases z))
      .show 35
       .show .inr ⟨.tail _ (.head _),D.symm⟩
       .show .inr ⟨.tail _ (.tail _ t),y p t⟩)
     show XN ⟨plainId_quiet YD _,O (j+1) j cs[j] _ T Y (by lia) (by lia) (by lia) U k (au Y ((s1.2 It D.symm).trans g) o h) λm f=>?_⟩
     by_cases e:m=j
     .rw[e];show HT.fR _
     .show HT.t6 (N m (by lia)) a
   | false =>
     show aW (wpAny_letGo ?_);rw[F];show XN ⟨plainId_quiet YD _,O (j+1) i c _ n Y (by lia) (by lia) (by lia) L J q.1 λm f=>?_⟩
     by_cases e:m=j
     .rw[e];show a
     .show N m (by lia)
def UH(P:X.A.handled=none)(un:X.A.in1.units<cLine):fX X (.builtin "min") (λxs H Q=>∃(l:Addr) (cs:List Addr) (ks:Nat->List Int),xs=[.ref l]/\aH X.K H l (cs.map V.ref)/\0<cs.length/\(∀(i:Nat) c,cs[i]?=some c->aY X.K H c ((ks i).map V.int))/\
 ∀(i:Nat) c,cs[i]?=some c->(∀j,j<cs.length->HT.lexLt (ks j) (ks i)=false)->Q (.ref c) H):=by
 intro pq s σ H xs g Q I r h
 revert h;show bV λl cs ks U S Q R q=>?_;subst U
 show ah (λu f a=>?_) (vals1 r);subst f
 cases a;have F:(toString "min" ++ toString ".loop")="min.loop":=by decide
 have n:=kN I S;show ah (λb a _=>?_) (id n)
 have r:=XX a;show call_function_tree PySem.F.kind_min PySem.F.plain_min PySem.F.entry_min (PySem.F.args_min1 _) ?_;show aW (wpAny_of_eq (rfl) ?_);show aW (XN (aW (wpAny_pyIter_list n (aW (wpAny_newList ?_ (Yo _))))));rw[F];show XN ⟨plainId_quiet YD _,?_⟩;generalize g:({ cls:=.type "list_iterator",data:=.fields #[.ref l,.int 0 0]}:Obj)=k;have m:36#k=96#0:=size_push' ..;have D:∀b o,18#o->47#((s.heap.push k).push (seqObj "list" #[] 0)).get?:=λb o e=>XM _ (XM _ e)
 have h:23#((s.heap.push k).push (seqObj "list" #[] 0)).get?=some k:=XM _ (X6 _ (by rw[<-g];rfl))
 have a:((s.heap.push k).push (seqObj "list" #[] 0)).get? 36#k=some (seqObj "list" #[] 0):=X6 _ rfl;have x:∀p∈pq,p.1<s.heap.objs.size:=λp t=>XX (I.pin p (iX _ t)).1
 have O:=I.Lf (23#XJ);have d:=I.Lf (b:=36#k) (by rw[m];show Y6 _)
 have f:36#k≠s.heap.objs.size:=by rw[m];show e! _
 have n:=Yj r;have N:∀p∈pq,p.1≠s.heap.objs.size:=λp t=>Yj (x p t)
 have y:∀p∈pq,p.1≠36#k:=λp t=>by rw[m];show Yj (Zu (x p t))
 have J:θ X ((36#k,seqObj "list" #[] 0)::(s.heap.objs.size,k)::pq) σ H { s with heap:=(s.heap.push k).push (seqObj "list" #[] 0)}:=by
  have K:=I.kept (t':=s.toks) D;show K.gF λp t=>?_
  show 35
  .show fE a (I.hok.fresh (by rw[m];show Y6 _)) d.2.1 d.2.2.1 λv z=>by cases z
  .show 35
   .show fE h (I.hok.fresh (XJ _)) O.2.1 O.2.2.1 λv z=>by rw[<-g]at z;cases z
   .show K.pin p (iX _ t)
 have W:=Walks.list (prog:=X.prog) (w:=X.w) (A:=X.A.in1) P s.heap.objs.size l n (cs.map Value.ref).toArray;have a:=J.pin (36#k,seqObj "list" #[] 0) 54#iX;show codeAny_builtin Zz ?_;rw[Around.under_plainId YD _];show aW (wpAny_seqItems a.1 rfl ?_);show aW (Zs (W.item 0 _ _ _ (by simpa using Q) ⟨au k h (by rw[<-g]) (by rw[<-g];rfl),kN J S⟩ λv M r a o B=>?_))
 have g:=XW Q;obtain rfl:v = .ref cs[0]:=by
  have:(cs.map Value.ref)[0]?=some v:=by simpa using a
  rw[XQ,g]at this;show(13#this).symm
 show az (λY h D m=>?_) (id o.1)
 have a:=J.jr (t':=r) (pb:=(36#k,seqObj "list" #[] 0)::(s.heap.objs.size,Y)::pq) O 54#List.Mem.tail (λb u Z e=>B b u (85#0) e) (λp t=>by
  show 35
  .show .inr ⟨.head _,f⟩
  .show 35
   .show .inl (bh rl h (λv z=>by rw[m]at z;cases z))
   .show .inr ⟨.tail _ (.tail _ t),N p t⟩)
 have C:=a.pin (36#k,_) 54#iX;have o:=YF M 36#k 98#(#[.ref cs[0],.ref cs[0]])
 obtain⟨T,E⟩:∃T,(M.update 36#k 98#(#[.ref cs[0],.ref cs[0]])).get? 36#k=some (seqObj "list" #[.ref cs[0],.ref cs[0]] T):=⟨_,get?_update_seq C.1 λ_=>#[.ref cs[0],.ref cs[0]]⟩
 change wpAny _ X.A.in1 (updateSeq 36#k (λ_=>#[.ref cs[0],.ref cs[0]]) >>= _) _ _ _
 show aW (wpAny_updateSeq C.1 rfl ?_);rw[F];have x:=a.jr (t':=r) (pb:=(36#k,seqObj "list" #[.ref cs[0],.ref cs[0]] T)::(s.heap.objs.size,Y)::pq) d (.head _) (λb u Z e=>(o.2 b Z).trans e) (λp t=>by
  show 35
  .show .inl (bh rl E (λv z=>by cases z))
  .show 35
   .show .inr ⟨.tail _ (.head _),f.symm⟩
   .show .inr ⟨.tail _ (.tail _ t),y p t⟩)
 show XN ⟨plainId_quiet YD _,H9 P un S R d O f n N y (λi c G L z a=>ao (.ref c) H a rl (q i c L z)) _ 1 0 cs[0] _ T Y rl Q (Z1 _) g x (au Y ((o.2 _ f.symm).trans h) D m) λj b=>?_⟩
 have e:j=0:=by lia
 rw[e];show HT.fR _
end
end L2
namespace RM
def lx(a b:Int×Nat):Prop:=a.1<b.1\/(a.1=b.1/\a.2<=b.2)
def lx.anti(G:lx a b)(C:lx b a):a=b:=by
 obtain⟨m,E⟩:=a;obtain⟨y,S⟩:=b;unfold lx at G C;have J:m=y:=by lia
 have D:E=S:=by lia
 rw[J,D]
def stp(L:Nat->Int)(d:Int×Nat)(k:Nat):Int×Nat:=(d.1+L k,d.2^^^2^k)
structure Fx(N:Net)(L:Nat->Int)(m u:Nat)(F:OW):Prop where
 st:F u false=some (0,0)
 cx:∀x s d k y,F x s=some d->k<N.n->Jn N k x y->∃d',F y (s^^7#0)=some d'/\lx d' (stp L d k)
 WK:∀y t d,F y t=some d->(y=u/\t=false/\d=(0,0))\/∃x s d0 k,F x s=some d0/\k<N.n/\Jn N k x y/\t=(s^^7#0)/\d=stp L d0 k
 nn:∀y t d,F y t=some d->0<=d.1
section
variable {N:Net}{L:Nat->Int}{m u:Nat}{F G:OW}
def Fx.part(a:∀k,k<N.n->0<L k)(f:Fx N L m u F)(g:Fx N L m u G):∀(n:Nat),(∀y t d,d.1<(n:Int)->(F y t=some d↔G y t=some d)):=by
 intro n
 induction n with
 | zero =>
   intro y t d j;have j:=j;show⟨λh=>absurd (f.nn y t d h) (by lia),λh=>absurd (g.nn y t d h) (by lia)⟩
 | succ n O =>
   have D:∀{F G:OW},Fx N L m u F->Fx N L m u G->(∀y t d,d.1<(n:Int)->(F y t=some d↔G y t=some d))->∀y t d,d.1<19#(n+1)->F y t=some d->∃U,G y t=some U/\lx U d:=λ{F G} f g O y t d j h=>by
    rcases f.WK y t d h with⟨rfl,rfl,rfl⟩|⟨x,s,b,k,J,R,o,rfl,rfl⟩
    .show ae _ g.st (.inr 25#(XJ _))
    .have e:=a k R;have c:b.1<n:=by
      have j:b.1+L k<((n+1:Nat)):=j
      lia
     show g.cx x s b k y ((O x s b c).mp J) R o
   have b:∀{F G:OW},Fx N L m u F->Fx N L m u G->(∀y t d,d.1<(n:Int)->(F y t=some d↔G y t=some d))->∀y t d,d.1<19#(n+1)->F y t=some d->G y t=some d:=λ{F G} f g O y t d j h=>by
    show ah (λU M c=>?_) (D f g O y t d j h)
    have B:U.1<((n+1:Nat)):=by
     rcases c with z|z<;>lia
    show ah (λS C p=>?_) (D g f (λy t d j=>(O y t d j).symm) y t U B M)
    rw[h]at C;cases C;rw[c.anti p]at M;show M
   intro y t d j;show⟨b f g O y t d j,b g f (λy t d j=>(O y t d j).symm) y t d j⟩
def Fx.uniq(a:∀k,k<N.n->0<L k)(f:Fx N L m u F)(g:Fx N L m u G):F=G:=by
 have W:∀{F G:OW},Fx N L m u F->Fx N L m u G->∀y t d,F y t=some d->G y t=some d:=λ{F G} f g y t d h=>by
  have b:=f.nn y t d h;show(Fx.part a f g (d.1.toNat+1) y t d (by lia)).mp h
 funext y t
 cases h:F y t with
 | some d=>show(W f g y t d h).symm
 | none =>
   cases M:G y t with
   | none=>rfl
   | some d=>rw[W g f y t d M]at h;cases h
end
def Sw(N:Net)(L:Nat->Int)(m u:Nat)(F:OW)(y:Nat)(t:Bool)(d:Int×Nat):Prop:=(y=u/\t=false/\d=(0,0))\/∃x s b k,F x s=some b/\k<N.n/\Jn N k x y/\t=(s^^7#0)/\d=stp L b k
structure Dx(N:Net)(L:Nat->Int)(m u:Nat)(F W:OW)(now:Option (Nat×Bool))(done:Nat->Nat->Prop):Prop where
 dj:Dj N L m u F W now done
 cx:∀x s d k y,F x s=some d->k<N.n->Jn N k x y->(now=some (x,s)->done k y)->∃d',(F y (s^^7#0)=some d'\/W y (s^^7#0)=some d')/\lx d' (stp L d k)
 fo:∀y t d,F y t=some d->Sw N L m u F y t d
 wo:∀y t d,W y t=some d->Sw N L m u F y t d
 s0:F u false=some (0,0)\/W u false=some (0,0)
section
variable {N:Net}{L:Nat->Int}{m u:Nat}{F W:OW}
def Sw.grow(h:Sw N L m u F y t d)(l:F x s=none):Sw N L m u (jf F x s e) y t d:=by
 rcases h with h|⟨a,G,b,k,J,r⟩
 .show .inl h
 .show .inr ⟨a,(eV G b k ?_ r)⟩
  rwa [ck (λz=>by rw[z.1,z.2,l]at J;cases J)]
def Dx.start:Dx N L m u (λ_ _=>none) (jf (λ_ _=>none) u false (0,0)) none (40#0):=by
 show⟨.start,λ_ _ _ _ _ h=>(nomatch h),λ_ _ _ h=>(nomatch h),λy t d h=>?_,.inr (c8 _ _ _ _)⟩
 by_cases e:y=u/\t=false
 .obtain⟨rfl,rfl⟩:=e;rw[c8]at h;show .inl (bh rl rl ((13#h).symm))
 .rw[ck e]at h;cases h
def Dx.pop(h:Dx N L m u F W none (40#0))(e:W x s=some d)(c:∀y t U,W y t=some U->d.1<=U.1):Dx N L m u (jf F x s d) (ze W x s) (some (x,s)) (40#0):=by
 have l:=h.dj.dj x s d e;have f:∀y t U,F y t=some U\/W y t=some U->jf F x s d y t=some U\/ze W x s y t=some U:=λy t U q=>by
  by_cases z:y=x/\t=s
  .show 107;rcases q with q|q
   .rw[l]at q;cases q
   .rw[e]at q;cases q;show .inl (c8 _ _ _ _)
  .rw[ck z,mS z];show q
 show⟨h.dj.pop e c,λy t U k X q R o j=>?_,λy t U q=>?_,λy t U q=>?_,f _ _ _ h.s0⟩
 .by_cases z:y=x/\t=s
  .show 107;show(j rl).elim
  .rw[ck z]at q;show ah (λS E p=>?_) (h.cx y t U k X q R o (λz=>nomatch z))
   show ae S (f _ _ _ E) p
 .by_cases z:y=x/\t=s
  .show 107;rw[c8]at q;cases q;show(h.wo _ _ _ e).grow l
  .rw[ck z]at q;show(h.fo y t U q).grow l
 .by_cases z:y=x/\t=s
  .show 107;rw[sr]at q;cases q
  .rw[mS z]at q;show(h.wo y t U q).grow l
def lx.trans(G:lx a b)(C:lx b c):lx a c:=by
 unfold lx at *
 lia
def Dx.put(h:Dx N L m u F W (some (x,s)) done)(e:F x s=some d)(J:0<=d.1)(R:k<N.n)(a:0<L k)(o:Jn N k x y)(l:F y (s^^7#0)=none)
 (c:∀U,W y (s^^7#0)=some U->lx (stp L d k) U):Dx N L m u F (jf W y (s^^7#0) (stp L d k)) (some (x,s)) (λb n=>done b n\/(b=k/\n=y)):=by
 have f:∀v t U,F v t=some U\/W v t=some U->∃S,(F v t=some S\/jf W y (s^^7#0) (stp L d k) v t=some S)/\lx S U:=λv t U q=>by
  rcases q with q|q
  .show ae U (.inl q) (.inr 25#(XJ _))
  .by_cases z:v=y/\t=(s^^7#0)
   .show 107;show ae _ (.inr (c8 _ _ _ _)) (c U q)
   .show ae U (.inr (by rw[ck z];show q)) (.inr 25#(XJ _))
 show⟨h.dj.put e R (Ξ a) o l λU q=>?_,λv t U r X q D i j=>?_,h.fo,λv t U q=>?_,?_⟩
 .have:=c U q;unfold lx stp at this
  lia
 .by_cases C:some (x,s)=some (v,t)->done r X
  .show ah (λS E p=>?_) (h.cx v t U r X q D i C)
   show ah (λw T z=>?_) (f _ _ _ E)
   show ae w T (z.trans p)
  .have g:=YI λz=>C λI=>absurd I z
   rcases j g with z|⟨rfl,rfl⟩
   .show absurd (λ_=>z) C
   .cases g;rw[e]at q;cases q;show ae _ (.inr (c8 _ _ _ _)) (.inr 25#(XJ _))
 .by_cases z:v=y/\t=(s^^7#0)
  .show 107;rw[c8]at q;cases q;show .inr (bO x s d k e R o rl rl)
  .rw[ck z]at q;show h.wo v t U q
 .rcases h.s0 with q|q
  .show .inl q
  .right
   rw[ck (λz=>?_)]
   .show q
   .obtain⟨p,I⟩:=z;have g:=q;rw[p,I]at g;have:=c _ g;unfold lx stp at this
    lia
def Dx.skip(h:Dx N L m u F W (some (x,s)) done)(e:F x s=some d)(a:0<L k)(E:F y (s^^7#0)=some S\/(W y (s^^7#0)=some S/\lx S (stp L d k))):
 Dx N L m u F W (some (x,s)) (λb n=>done b n\/(b=k/\n=y)):=by
 have T:F y (s^^7#0)=some S\/(W y (s^^7#0)=some S/\S.1<=d.1+L k):=by
  rcases E with E|⟨E,p⟩
  .show .inl E
  .show .inr ⟨E,?_⟩;unfold lx stp at p
   lia
 show⟨h.dj.skip e (Ξ a) T,λv t U r X q D i j=>?_,h.fo,h.wo,h.s0⟩
 by_cases C:some (x,s)=some (v,t)->done r X
 .show h.cx v t U r X q D i C
 .have g:=YI λz=>C λI=>absurd I z
  rcases j g with z|⟨rfl,rfl⟩
  .show absurd (λ_=>z) C
  .cases g;rw[e]at q;cases q;rcases E with E|⟨E,p⟩
   .have:=h.dj.mx x s d _ _ S rl e E;show ae S (.inl E) (.inl ?_);change S.1<d.1+L r
    lia
   .show ae S (.inr E) p
def Dx.all(h:Dx N L m u F W (some (x,s)) done)(C:∀k y,k<N.n->Jn N k x y->done k y):Dx N L m u F W none (40#0) :=
 ⟨h.dj.all C,λv t d k y q R o _=>h.cx v t d k y q R o λz=>by cases z;show C k y R o,h.fo,h.wo,h.s0⟩
def Dj.less(h:Dj N L m u F W b done)(j:∀k y,a k y->done k y):Dj N L m u F W b a :=
 ⟨h.fw,h.ww,h.dj,h.le,h.mx,λv t d k y q R o z=>h.cl v t d k y q R o λI=>j _ _ (z I),h.st⟩
def Dx.less(h:Dx N L m u F W b done)(j:∀k y,a k y->done k y):Dx N L m u F W b a :=
 ⟨h.dj.less j,λv t d k y q R o z=>h.cx v t d k y q R o λI=>j _ _ (z I),h.fo,h.wo,h.s0⟩
def Dx.fin(a:∀k,k<N.n->0<L k)(r:u<N.p)(h:Dx N L m u F W none (40#0))(c:∀x s,W x s=none):Fx N L m u F:=by
 show⟨?_,λx s d k y e R o=>?_,h.fo,λy t d e=>?_⟩
 .rcases h.s0 with q|q
  .show q
  .rw[c]at q;cases q
 .show ah (λU q l=>?_) (h.cx x s d k y e R o (λz=>nomatch z))
  rcases q with q|q
  .show ae U q l
  .rw[c]at q;cases q
 .obtain⟨b,w⟩:=h.dj.fw y t d e;show(lW (λk R=>Ξ (a k R)) r w).2.2.2.2.2
end
section
variable {N:Net}{L:Nat->Int}{m:Nat}
def Lo(N:Net)(L:Nat->Int)(m:Nat)(z:Int)(e:Nat):Prop:=∃c:Nat->OW,(∀i,i<N.p->Fx N L m i (c i))/\(∃i,i<N.p/\c i i true=some (z,e))/\∀j d,j<N.p->c j j true=some d->lx (z,e) d
def Lo.uniq(a:∀k,k<N.n->0<L k)(h:Lo N L m z e)(h' : Lo N L m y T):z=y/\e=T:=by
 revert h;show az λF R U c=>?_;obtain⟨i,b,l⟩:=U
 revert h';show az λG x f S=>?_;obtain⟨j,o,d⟩:=f
 have J:F j=G j:=Fx.uniq a (R j o) (x j o);have D:F i=G i:=Fx.uniq a (R i b) (x i b);have:=(c j (y,T) o (by rw[J];show d)).anti (S i (z,e) b (by rw[<-D];show l))
 show⟨Yq Prod.fst this,Yq Prod.snd this⟩
end
end RM
namespace L2
open PySem PySem.Spec PyProof.Rows PySem.W
def χ(r:Nat->Int):KasT m->m
 | .ret a=>a
 | .ask i j k=>χ r (k (9#(r i<r j)))
theorem iT{f:m->KasT c}:∀(t:KasT m),χ r (t.bind f)=χ r (f (χ r t))
 | .ret a=>by rw[KasT.bind.eq_1];rfl
 | .ask i j k=>by
   rw[KasT.bind.eq_2];show iT (k _)
theorem Gm(L:∀i j C,i<n->j<n->C (9#(r i<r j)) s->b i j C s):∀{t:KasT m},xA n R t->(R (χ r t)->Q (χ r t) s)->KasT.kasWp b t Q s
 | .ret a,h,q=>q h
 | .ask i j k,h,q=>L i j _ h.1 h.2.1 (Gm L (h.2.2 _) q)
def Kr(r:Nat->Int)(p:Array Nat)(i:Nat):Int:=r (p.getD i 0)
def ua{m:Type}{p:Array Nat}{i j:Nat}{a d:KasT m}(c:Kr r p i<Kr r p j):χ r (.ask (p.getD i 0) (p.getD j 0) λb=>if b=true then a else d)=χ r a:=by
 change χ r (if 9#(Kr r p i<Kr r p j)=true then a else d)=_
 rw[XI (e5 c)]
def uc{m:Type}{p:Array Nat}{i j:Nat}{a d:KasT m}(c : ¬Kr r p i<Kr r p j):χ r (.ask (p.getD i 0) (p.getD j 0) λb=>if b=true then a else d)=χ r d:=by
 change χ r (if 9#(Kr r p i<Kr r p j)=true then a else d)=_
 rw[XH (by simpa using c)]
def ud(p)(i):Kr r p i=r ((p[i]?).getD 0):=by
 unfold Kr;rw[Array.getD_eq_getD_getElem?]
def zg{p:Array Nat}(o:j<=p.size)(k:Nat):Kr r (kas_rev p i j) k=if i<=k/\k<j then Kr r p (i+j-1-k) else Kr r p k:=by
 have e:=getElem?_mirror_all (i:=i) o k;unfold kas_rev;rw[ud,e]
 split
 .rw[ud]
 .rw[ud]
def Ls{p:Array Nat}(W:a<p.size)(j:d<=a)(k:Nat):Kr r (bubble p a d) k=if k=a-d then Kr r p a else if a-d<k/\k<=a then Kr r p (k-1) else Kr r p k:=by
 have e:=getElem?_bubble W d j k;rw[ud,e]
 split
 .rw[ud]
 .split
  .rw[ud]
  .rw[ud]
def lY(p:Array Nat)(i j:Nat):(kas_rev p i j).size=p.size:=mirror_size _ _ _ _
def Up(r:Nat->Int)(p:Array Nat)(n:Nat):Prop:=∀i,1<=i->i<n->Kr r p (i-1)<=Kr r p i
def Up.le(h:Up r p n):∀{i j:Nat},i<=j->j<n->Kr r p i<=Kr r p j:=by
 intro i j H;obtain⟨d,rfl⟩:=V! H;clear H
 induction d with
 | zero=>intro _;show Zj _
 | succ d O =>
   intro o;have G:=O (by lia)
   have C:=h (i+(d+1)) (by lia) o
   rw[73#(i+(d+1)-1=i+d)]at C
   lia
theorem D8{r:Nat->Int}:∀(f n:Nat),1<=n->Up r p n->n<=χ r (kas_asc p f n)/\χ r (kas_asc p f n)<=n+f/\Up r p (χ r (kas_asc p f n))/\(χ r (kas_asc p f n)<n+f->Kr r p (χ r (kas_asc p f n))<Kr r p (χ r (kas_asc p f n)-1))
 | 0,n,_,h=>by
   rw[kas_asc.eq_1];show f7 (XJ n) (XJ n) h λz=>absurd z (YZ n)
 | f+1,n,G,h=>by
   rw[kas_asc.eq_2]
   by_cases c:Kr r p n<Kr r p (n-1)
   .rw[ua c];show f7 (XJ n) (Z3 _ _) h λ_=>c
   .rw[uc c];have O:=D8 (r:=r) (p:=p) f (n+1) (by omega) (λi F g=>by
     by_cases e:i=n
     .rw[e];omega
     .show h i F (by omega))
    show f7 (by omega) (by omega) O.2.2.1 λz=>O.2.2.2 (by omega)
def Down(r:Nat->Int)(p:Array Nat)(n q:Nat):Prop:=(∀i,1<=i->i<n->Kr r p i<=Kr r p (i-1))/\q+1<=n/\∀i,n-(q+1)<=i->i<n->Kr r p i=Kr r p (n-1)
def Down.rev(h:Down r p n q)(g:n<=p.size)(k):Kr r (kas_rev p (n-(q+1)) n) k=Kr r p k:=by
 rw[zg g]
 split
 .rename_i R
  rw[h.2.2 _ (by lia) (119#h.2.1),h.2.2 k R.1 R.2]
 .rfl
theorem mT{r:Nat->Int}:∀(f:Nat) {p:Array Nat} {n q:Nat},n+f<=p.size->Down r p n q->
 (χ r (kas_desc f p n q)).1.size=p.size/\n<=(χ r (kas_desc f p n q)).2.1/\(χ r (kas_desc f p n q)).2.1<=n+f/\Down r (χ r (kas_desc f p n q)).1 (χ r (kas_desc f p n q)).2.1 (χ r (kas_desc f p n q)).2.2
 | 0,p,n,q,_,h=>by
   rw[kas_desc.eq_1];show f7 rl (XJ n) (XJ n) h
 | f+1,p,n,q,W,h=>by
   rw[kas_desc.eq_2];show c5 (λG C l=>?_) (id h)
   by_cases c:Kr r p n<Kr r p (n-1)
   .have d:∀R:Array Nat,(∀k,Kr r R k=Kr r p k)->Down r R (n+1) 0:=λR e=>by
     show bh (λi F g=>?_) (by omega) λi F g=>by rw[show i=n+1-1 by omega]
     rw[e,e]
     by_cases z:i=n
     .rw[z];omega
     .show G i F (by omega)
    rw[ua c]
    by_cases T:q > 0
    .rw[XI T];have O:=mT f (by rw[lY];omega) (d _ (h.rev (by omega)))
     rw[lY]at O;show f7 O.1 (by omega) (by omega) O.2.2.2
    .rw[XH T];have O:=mT f (by omega) (d _ λ_=>rfl)
     show f7 O.1 (by omega) (by omega) O.2.2.2
   .rw[uc c]
    by_cases d:Kr r p (n-1)<Kr r p n
    .rw[ua d];show f7 rl (XJ n) (Z3 _ _) h
    .rw[uc d];have O:=mT (r:=r) f (p:=p) (n:=n+1) (q:=q+1) (by omega) (bh (λi F g=>by
      by_cases z:i=n
      .rw[z];omega
      .show G i F (by omega)) (by omega) (λi F g=>by
      rw[show n+1-1=n by omega]
      by_cases z:i=n
      .rw[z]
      .have:=l i (by omega) (by omega)
       omega))
     show f7 O.1 (by omega) (by omega) O.2.2.2
def Lu(r:Nat->Int)(n:Nat)(x:Nat×Array Nat):Prop:=x.2.size=n/\1<=x.1/\x.1<=n/\Up r x.2 x.1
def Bj(h:Down r p n q)(g:1<=n)(o:n<=f)(W:p.size=f):Lu r f (χ r (kas_tail3 n f p)):=by
 have y:Up r (kas_rev p 0 n) n:=λi F k=>by
  rw[zg (by lia),zg (by lia),XI (by lia),XI (by lia)]
  have:=h.1 (0+n-1-(i-1)) (by lia) (by lia)
  rw[73#(0+n-1-(i-1)-1=0+n-1-i)]at this
  show this
 have a:=D8 (f-n) n g y;unfold kas_tail3;rw[iT];show f7 (by change(kas_rev p 0 n).size=f;rw[lY,W]) (by change 1<=χ r _;lia) (by change χ r _<=f;lia) a.2.2.1
def Down.congr(h:Down r p n q)(e:∀k,Kr r R k=Kr r p k):Down r R n q:=bh (λi G C=>by rw[e,e];show h.1 i G C) h.2.1 λi G C=>by rw[e,e];show h.2.2 i G C
def Bk{p:Array Nat}(g:1<=n)(o:n+1<=f)(W:p.size=f)(c:∀i,i<n->Kr r p i=Kr r p (n-1))(Z:Kr r p n<Kr r p (n-1)):Lu r f (χ r (kas_descPart n f p)):=by
 have b:Down r p (n+1) 0:=bh (λi G C=>by
  by_cases z:i=n
  .rw[z];lia
  .rw[c i (by lia),c (i-1) (by lia)]
   show Zj _) (by lia) λi G C=>by rw[73#(i=n+1-1)]
 have d:=mT (f-(n+1)) (by lia) b
 unfold kas_descPart;rw[iT];generalize χ r (kas_desc (f-(n+1)) p (n+1) 0)=x at d
 revert d;show mF λv S w a=>?_
 by_cases T:x.2.2 > 0
 .rw[XI T];show Bj (a.congr (a.rev (by lia))) (by lia) (by lia) (by rw[lY,v,W])
 .rw[XH T];show Bj a (by lia) (by lia) (by rw[v,W])
def Ia{p:Array Nat}(G:1<=f)(W:p.size=f):Lu r f (χ r (kas_count f p)):=by
 have a:=D8 (r:=r) (p:=p) (f-1) 1 (XJ 1) (λi F g=>by lia)
 unfold kas_count;rw[iT];generalize χ r (kas_asc p (f-1) 1)=n at a
 revert a;show mF λm E v h=>?_
 by_cases e:(n==f)=true
 .rw[XI e];show f7 W m (by change n<=f;lia) v
 .rw[XH e];have e:n≠f:=by simpa using e
  have Z:=h (by lia)
  by_cases C:n > 1
  .rw[XI C]
   by_cases c:Kr r p 0<Kr r p (n-1)
   .rw[ua c];show f7 W m (by change n<=f;lia) v
   .rw[uc c];have all:∀i,i<n->Kr r p i=Kr r p (n-1):=λi F=>by
     have d:=v.le (73#(0<=i)) F
     have b:=v.le (73#(i<=n-1)) (by lia)
     lia
    have b:∀k,Kr r (kas_rev p 0 n) k=Kr r p k:=λk=>by
     rw[zg (by lia)]
     split
     .rw[all _ (by lia),all k (by lia)]
     .rfl
    show Bk m (by lia) (by rw[lY,W]) (λi F=>by rw[b,b];show all i F) (by rw[b,b];show Z)
  .rw[XH C];have J:n=1:=by lia
   subst J;show Bk m (by lia) W (λi F=>by rw[73#(i=1-1)]) Z
theorem ue(y:Up r p k):∀(f l u:Nat),u-l<=f->l<=u->u<=k->(∀i,i<l->Kr r p i<=Kr r p k)->(∀i,u<=i->i<k->Kr r p k<Kr r p i)->
 χ r (kas_place p k f l u)<=k/\(∀i,i<χ r (kas_place p k f l u)->Kr r p i<=Kr r p k)/\∀i,χ r (kas_place p k f l u)<=i->i<k->Kr r p k<Kr r p i
 | 0,l,u,Y,b,a,G,C=>by
   rw[kas_place.eq_1];have e:l=u:=by lia
   subst e;show bh a G C
 | f+1,l,u,Y,b,a,G,C=>by
   rw[kas_place.eq_2]
   by_cases B:l ≥ u
   .rw[XI B];have e:l=u:=by lia
    subst e;show bh a G C
   .rw[XH B]
    by_cases c:Kr r p k<Kr r p ((l+u)/2)
    .rw[ua c];show ue y f l ((l+u)/2) (by lia) (by lia) (by lia) G λi F R=>by
      have:=y.le F R
      lia
    .rw[uc c];show ue y f ((l+u)/2+1) u (by lia) (by lia) a (λi F=>by
      have:=y.le (73#(i<=(l+u)/2)) (by lia)
      lia) C
theorem Lv:∀(f:Nat) {p:Array Nat} {k:Nat},k+f<=p.size->Up r p k->Up r (χ r (kas_bin f p k)) (k+f)
 | 0,p,k,_,h=>by
   rwa [kas_bin.eq_1]
 | f+1,p,k,W,h=>by
   rw[kas_bin.eq_2,iT];have D:=ue h k 0 k (by lia) (by lia) (XJ k) (λi F=>by lia) (λi G C=>by lia)
   generalize χ r (kas_place p k k 0 k)=l at D
   revert D;show c5 λe b a=>?_
   have y:Up r (bubble p k (k-l)) (k+1):=λi F R=>by
    rw[Ls (by lia) (by lia),Ls (by lia) (by lia),73#(k-(k-l)=l)]
    by_cases Z:i=l
    .rw[XH (by lia),XH (by lia),XI Z]
     show b (i-1) (by lia)
    .rw[XH Z]
     by_cases X:l<i/\i<=k
     .rw[XI X]
      by_cases z:i-1=l
      .rw[XI z];show Ξ (a (i-1) (by lia) (by lia))
      .rw[XH z,XI (by lia)]
       show h (i-1) (by lia) (by lia)
     .rw[XH X,XH (by lia),XH (by lia)]
      show h i F (by lia)
   have:=Lv f (by rw[bubble_size];lia) y
   rwa [73#(k+(f+1)=k+1+f)]
def NN(g:1<=n):Up r (χ r (kas_sort n)) n:=by
 unfold kas_sort;rw[iT];have c:=Ia (r:=r) (p:=List.toArray 16#n) g 21#0
 generalize χ r (kas_count n (List.toArray 16#n))=x at c
 revert c;show mF λZ X z l=>?_
 by_cases B:x.1<n
 .rw[XI B];have:=Lv (n-max x.1 1) (p:=x.2) (k:=max x.1 1) (by lia) (by rw[73#(max x.1 1=x.1)];show l)
  rw[73#(max x.1 1+(n-max x.1 1)=n)]at this
  show this
 .rw[XH B];have e:x.1=n:=by lia
  rw[e]at l;show l
def zh:bootBuiltins "sorted"=some (.builtin "sorted"):=by kernel_rfl
def kx(z:Int×Int):Int:=z.1*1073741824+z.2
def Sx(z:Int×Int):Prop:=0<=z.2/\z.2<1073741824
section
variable  {pq:cM}{σ:St}
def θ.NO(I:5#H)(e:H a=1#xs)(F:s.heap.get? a=some ob):5#(η H a (.ou ob (.lst xs))) :=
 I.swap e (by intro _ z;cases z) (by intro _ z;cases z) (by intro _ z;cases z) (λb o u q=>cC (I.base.jx b o u q) e 26#0) λp r=>⟨F,(I.hok a _ e).stay (λ_ _ _ q=>q) p r⟩
def θ.Sy{F:St}(h:θ X M F H N)(U:H a=1#xs)(I:5#O)(e:O a=some (.ou ob (.lst xs))):5#(η O a (.lst xs)) :=
 I.swap e (by intro _ z;cases z) (by intro _ z;cases z) (by intro _ z;cases z) (λb o u q=>cC (h.base.jx b o u q) U 26#0) λp r=>(I.hok a _ e).2.stay (λ_ _ _ q=>q) p r
end
def QG(P:Addr)(q:Str)(e:Pos)(z:TA)(f:TE)(js:List Nat):TE:=λU H Q=>z U H λY N=>∃(a:Addr) (o:List Int) (g:Int->Int×Int),Y=[.ref a]/\N a=1#(o.map V.int)/\o.length<64/\(∀n∈o,Sx (g n))/\N P=64#(eE q e)/\
 (∀X,(∀b u,N b=some u->(∀y,u≠.own y)->(∀m,u≠.gT m)->X b=some u)->∀n∈o,f (some (.int n)::fZ U js) X λv c=>aj X c/\∃d,v = .ref d/\c d=17#([.int (g n).1,.int (g n).2]))/\
 ∀(l:Addr) (k:List Int) c,N l=none->aj N c->c l=1#(k.map V.int)->k.Perm o->k.Pairwise (λx y=>kx (g x)<=kx (g y))->Q (.ref l) c
theorem Bl:∀{a b:List Int},HT.lexLt a b=false->HT.lexLt b a=false->a=b
 | [],[],_,_=>rfl
 | [],_::_,h,_=>by cases h
 | _::_,[],_,h=>by cases h
 | x::xs,y::ys,h,h'=>by
   rw[HT.eT]at h h'
   by_cases e:x=y
   .subst e;rw[XI rfl]at h h';rw[Bl h h']
   .rw[XH e]at h;rw[XH (Yy e)]at h';have:=of_decide_eq_false h;have:=of_decide_eq_false h'
    lia
theorem Lw{m:Type}{p q}(h:∀a,p a=true->q a=true){x}(T:q x=true)(t:p x=false):∀{l:List m},x∈l->l.countP p<l.countP q
 | a::l,d=>by
   have C:l.countP p<=l.countP q:=List.countP_mono_left λa _=>h a
   rw[G!,G!];rcases XS.mp d with rfl|d
   .rw[T,t,XI rfl,XH XZ]
    lia
   .have O:=Lw h T t d;have G:=h a
    split
    .rw[XI (G ‹_›)]
     lia
    .split<;>lia
def Rr(l:List (List Int))(x:List Int):Int:=19#(l.countP λy=>HT.lexLt y x)
def Lx(B:x∈l):9#(Rr l x<Rr l y)=HT.lexLt x y:=by
 unfold Rr;cases e:HT.lexLt x y with
 | true =>
   have:=Lw (q:=λz=>HT.lexLt z y) (λz m=>HT.jq m e) e (HT.fR x) B
   show e5 (by lia)
 | false =>
   have:(l.countP λz=>HT.lexLt z y)<=l.countP λz=>HT.lexLt z x:=List.countP_mono_left λz _ m=>by
    cases T:HT.lexLt y x with
    | true=>show HT.jq m T
    | false=>rw[Bl e T];show m
   show fW (by lia)
def Ly(h:Heap)(v:Value)(xs:List Int):Prop:=∃(a:Addr) (o:Obj) (J:62#0) (k:Nat),v = .ref a/\118#o/\o.cls = .type "tuple"/\o.data = .seq J.toArray k/\ξ (xs.map V.int) J
section
variable    {s:Shared}{vs:62#0}
def Lz:∀{xs ys:List Int} {J g:62#0} (i:Nat),ξ (xs.map V.int) J->ξ (ys.map V.int) g->C (HT.lexLt xs ys) s->KatLex prog w A true (9#(J.length<g.length)) C (J.zip g) i s:=by
 intro xs
 induction xs with
 | nil =>
   intro ys J g i a b h;cases a;cases ys<;>cases b<;>show h
 | cons x xs O =>
   intro ys J g i a b h;cases ys with
   | nil =>
     cases a;cases b;show h
   | cons y ys =>
     obtain _|⟨⟨t,rfl⟩,r⟩:=a
     obtain _|⟨⟨u,rfl⟩,P⟩:=b
     rw[HT.eT]at h;rw[X7,X7,YN.mpr Nat.succ_lt_succ_iff];show kat_cons (wpAny_eqBool_int ?_)
     by_cases e:x=y
     .rw[XI e]at h;rw[show(x==y)=true by simpa using e]
      show kat_yes (O (i+1) r P h)
     .rw[XH e]at h;rw[show(x==y)=false by simpa using e]
      change wpAny 22#w A (oneLt' (true&&i==0) _ _) C _ s;cases(true&&i==0) with
      | true=>show oneLt_int h
      | false=>show kat_one _ _ (lt_int h)
def LA{c:Nat->List Int}(hz:∀i,i<n->c i∈l)(h:∀i,i<n->Ly s.heap (vs.getD i Value.none) (c i)):
 ∀i j C,i<n->j<n->C (9#(Rr l (c i)<Rr l (c j))) s->kas_ask prog w A (tuples' true) vs i j C s:=by
 intro i j C F p d;rw[Lx (hz i F)]at d;unfold kas_ask;show eu (λa=>bV λo J k e t _ m r=>?_) (h i F)
 show eu (λu=>bV λf g b T q _ B P=>?_) (h j p)
 rw[e,T];show kat_lt t m q B (Lz 0 r P d)
def Ib(g:0<vs.length)(b:∀v∈vs,∃xs,xs≠[]/\Ly s.heap v xs)(q:Q (tuples' true) s):67#(keyKind' vs.toArray):=by
 obtain⟨M,S,Y,R⟩:∃M:62#0,M.length=vs.length/\(∀v∈M,∃x t,v=Value.int x t)/\KatTups s.heap vs M:=by
  clear q g
  induction vs with
  | nil=>show au [] rfl nofun .nil
  | cons v vs O =>
    show az (λM G C l=>?_) (O λv e=>b v (nc _ e))
    show ah (λxs B=>eu λa=>bV λo J k U F L j r=>?_) (b v X0);subst U
    cases xs with
    | nil=>show absurd rfl B
    | cons x xs =>
      cases r with
      | cons z r =>
        obtain⟨t,rfl⟩:=z;show au (.int x t::M) (Yq (· + 1) G) (λm e=>?_) (.cons F L j rl l)
        rcases XS.mp e with rfl|e
        .show fj x t rfl
        .show C m e
 show kat_kind (T:=.type "int") R (by lia) (λv b=>?_) 4#0 q
 obtain⟨x,t,rfl⟩:=Y v b;intro A Q E s _ q;show XN q
end
section
variable {β:Type}{ps:List β}
def Ic{r:β->Int}(S:n=ps.length)(g:1<=n)(L:∀i j C,i<n->j<n->C (9#(r (ps.getD i d)<r (ps.getD j d))) s->b i j C s)
 (q:∀p:Array Nat,e7 n p->(∀i∈p.toList,i<n)->(p.toList.map λi=>ps.getD i d).Perm ps->(p.toList.map λi=>ps.getD i d).Pairwise (λx y=>r x<=r y)->Q p s):KasT.kasWp b (kas_sort n) Q s:=by
 show Gm L (Nr g) λt=>?_
 have a:=NN (r:=λi=>r (ps.getD i d)) g
 generalize χ (λi=>r (ps.getD i d)) (kas_sort n)=p at t a ⊢
 have c:p.toList.length=n:=by have:=t.length_eq;rw[Yh]at this;show this
 show q p t (λi F=>Yk.mp (t.mem_iff.mp F)) ?_ ?_
 .have G:=List.Perm.map (λi=>ps.getD i d) t
  rw[show(16#n).map (λi=>ps.getD i d)=ps from by
   rw[S];show List.ext_getElem 21#0 λi G e=>?_
   simp[XO,XW e]]at G
  show G
 .rw[List.pairwise_map,List.pairwise_iff_getElem];intro i j F o H;have:=a.le (Za H) (by lia)
  have v:∀i (F:i<p.toList.length),p.getD i 0=p.toList[i]:=λi F=>by
   rw[Array.getD_eq_getD_getElem?,<-i?,XW F];rfl
  unfold Kr at this;rw[v i F,v j o]at this;show this
def NP(O:ξ (ps.map f) N)(F:i<ps.length):ο (f (ps.getD i d)) (N.getD i Value.none)/\ps.getD i d∈ps:=by
 have e:=XW F;rw[XO,e];obtain⟨u,r,k⟩:=O.get (by rw[XQ,e];rfl)
 rw[XO,r];show⟨k,Z2 F⟩
theorem q9(O:ξ (ps.map f) N):∀{l:List Nat},(∀i∈l,i<ps.length)->ξ ((l.map λi=>ps.getD i d).map f) (l.map λi=>N.getD i Value.none)
 | [],_=>.nil
 | i::_,h=>.cons (NP O (h i X0)).1 (q9 O λj o=>h j (nc _ o))
end
section
variable  {pq:cM}    {β:Type}{g:β->List Int}(ne:∀b,g b≠[])
include ne
end
def Sz(B:Sx x)(W:Sx y)(h:HT.lexLt [y.1,y.2] [x.1,x.2]=false):kx x<=kx y:=by
 unfold Sx at B W;unfold kx;rw[HT.eT,HT.eT]at h
 split at h
 .split at h
  .lia
  .have:=of_decide_eq_false h
   lia
 .have:=of_decide_eq_false h
  lia
section
variable  {pq:cM}{σ:St}
def Ie{ns:List Int}{ds:List Addr}{H:Int->Int×Int}
 (I:θ X ((kS,seqObj "list" (ds.map Value.ref).toArray e)::pq) σ H3 s) (oK:DY X kS) (pK:∀p∈pq,p.1≠kS) (hD:H3 D=some (.ou (seqObj "list" #[] e1) (.lst []))) (O:ξ (ns.map V.int) N) (g:ns.length<64) (hdl:ds.length=ns.length)
 (R:∀(j:Nat) d n,ds[j]?=some d->ns[j]?=some n->H3 d=17#([.int (H n).1,.int (H n).2])) (hok:∀n∈ns,Sx (H n))
 {σ0:St} (I0:θ X pins0 σ0 H0 s0) (e0:H0 D=1#([]))
  (fin:∀(s' : Shared) (k:List Int),k.Perm ns->k.Pairwise (λx y=>kx (H x)<=kx (H y))->θ X pq σ (η (86#H3) D 28#(k.map V.int)) s'->P (.done (.ret .none)) s') :
  wpAny 8#0 A (ksk_end D false N.toArray e1 (.ref kS) ((ds.map Value.ref).toArray)) P E s:=by
  have S:N.length=ns.length:=by have:=O.length;rw[XG]at this;lia
  obtain⟨WL,_⟩:=(I.hok D _ hD);have D9:=I.pin (kS,seqObj "list" (ds.map Value.ref).toArray e) 54#iX;have WM:D≠kS:=λz=>by
   have:=D9.2.1;rw[<-z,hD]at this;cases this
  have tail:∀(st:SortSt) (k:List Int) (out:62#0),(arrOf st).map (·.2)=out.toArray->out.length<64->failedOf st=none->k.Perm ns->k.Pairwise (λx y=>kx (H x)<=kx (H y))->ξ (k.map V.int) out->wpAny 8#0 A (ksk_tail D false e1 (.ref kS) st) P E s:=by
   intro st k out hout hz Y t W a;have w:=YF s.heap kS 98#(#[])
   have UI:=(w.2 D WM).trans WL;have M:=YF (s.heap.update kS 98#(#[])) D (Obj.mapSeq λ_=>out.toArray)
   obtain⟨c2,hc2⟩:∃c2,((s.heap.update kS 98#(#[])).update D (Obj.mapSeq λ_=>out.toArray)).get? D=some (seqObj "list" out.toArray c2):=⟨_,get?_update_seq UI λ_=>out.toArray⟩
   unfold ksk_tail
   try dsimp only
   rw[hout];show aW (listUpdate_at D9.1 rl ?_ (by rw[X9,XG,sizeLine_eq];lia) (Yo _))
   show aW (wpAny_letGo ?_);show aW (seqEpoch_at UI rl ?_);show aW (listUpdate_at UI rl ?_ (Yo _) (by change out.toArray.size<=_;rw[X9,sizeLine_eq];lia))
   rw[Y];simp only[bne_self_eq_false,Bool.false_eq_true,if_false];have J1:=I.jr (t':=s.toks) oK (.head _) (λc u T e=>(w.2 c T).trans e) (λp t=>.inr ⟨.tail _ t,pK p t⟩)
   have J2:=θ.Sy I0 e0 J1 hD;have J3:=J2.write (o:=.lst (k.map V.int)) (t':=s.toks) (by rw[aa];trivial) (.inl rl) (λb u nb q=>(M.2 b nb).trans q) ⟨_,hc2⟩
    (bg (by rw[XG,t.length_eq,sizeLine_eq];lia) out c2 a hc2)
   show XN (fin _ k t W J3)
  by_cases C:2<=ns.length
  .have at_:∀i,i<N.length->∃d n,ds[i]?=some d/\ns[i]?=some n/\ns.getD i 0=n:=λi F=>by
    have e:ns[i]?=some (ns[i]'(by lia)):=XW _
    show ao (ds[i]'(by lia)) _ (XW _) e (by rw[XO,e];rfl)
   have kv:∀i,i<N.length->Ly s.heap ((ds.map Value.ref).getD i Value.none) [(H (ns.getD i 0)).1,(H (ns.getD i 0)).2]:=λi F=>by
    show aA (λd n e1 e2 e3=>?_) (at_ i F)
    show az (λJ rt U _=>?_) (I.tuple 79#(R i _ _ e1 e2));obtain⟨o,eo,L,m,hdt⟩:=U
    rw[e3,XO,XQ,e1];show bO d o J m rl eo L hdt rt
   have hlk:27#(ds.map Value.ref)=N.length:=by rw[XG];lia
   have hn2 : ¬ N.toArray.size<2:=by rw[X9];lia
   unfold ksk_end
   try dsimp only
   rw[XH XZ,XH hn2,XH hn2,XH XZ];show aW (Ib (by lia) (λv a=>?_) ?_)
   .obtain⟨i,F,rfl⟩:=List.mem_iff_getElem.mp a;have:=kv i (by lia)
    rw[XO,XW F]at this;show ae (_::_) (List.cons_ne_nil _ _) this
   show aW (Yn (kat_run (Q:=λst' s'=>s' = s/\∃(p:Array Nat) (k:List Int),k.Perm ns/\k.Pairwise (λx y=>kx (H x)<=kx (H y))/\ξ (k.map V.int) (p.toList.map λi=>N.getD i Value.none)/\(arrOf st').map (·.2)=(p.toList.map λi=>N.getD i Value.none).toArray/\failedOf st' = none)
    (G:=λp s'=>s' = s/\∃k:List Int,k.Perm ns/\k.Pairwise (λx y=>kx (H x)<=kx (H y))/\ξ (k.map V.int) (p.toList.map λi=>N.getD i Value.none))
    hlk (by lia) (by lia) (by intro p st' s' a1 a2 a3;show rX λa4=>az λk b1 b2 b3=>?_;show⟨a4,(cL p k b1 b2 b3 (kat_snds hlk a2) a3)⟩) ?_) ?_ λ_ _ x=>x)
   .show Ic (r:=λn=>Rr (ns.map λn=>[(H n).1,(H n).2]) [(H n).1,(H n).2]) S (by lia) (LA (λi F=>?_) kv) λp _ Z h1 C=>25#(au _ h1 (C.imp_of_mem λ{x y} B hy h=>?_) (q9 O (S▸Z)))
    .show aA (λd n e1 e2 e3=>?_) (at_ i F)
     rw[e3];show XT.mpr (ae n (fC e2) rl)
    .have hy:=h1.mem_iff.mp hy;show Sz (hok _ (h1.mem_iff.mp B)) (hok _ hy) ?_;rw[<-Lx (l:=ns.map λn=>[(H n).1,(H n).2]) (XT.mpr (ae y hy rl))]
     show fW (Int.not_lt.mpr h)
   .intro f s';show rX λP9=>eX λp k h1 C h3 har Y=>?_;obtain⟨⟨⟩,st'⟩:=f;subst P9
    try dsimp only
    show tail st' k _ har ?_ Y h1 C h3;have:=h3.length;rw[XG,h1.length_eq]at this
    lia
  .have hn2:N.toArray.size<2:=by rw[X9];lia
   unfold ksk_end
   try dsimp only
   rw[XH XZ,XI hn2,XI hn2,XH XZ];show aW (XN ?_);show aW (XN ?_);show tail _ ns N ?_ (by lia) rl (List.Perm.refl _) ?_ O
   .apply H!.mp;simp;show List.map_snd_zip (by rw[XG];lia)
   .cases ns with
    | nil=>show .nil
    | cons x ns =>
      cases ns with
      | nil=>show List.pairwise_singleton _ _
      | cons=>show absurd (by simp:2<=_) C
end
section
variable {X:Cx}{params:Arguments}{body e:Expr}{scope:Scope}{lp p pos kp:Pos}{fq:List Str}{js:List Nat}{x:Str}{ta:TA}{te:TE}{c0 P:Addr}{k:Nat}
def LB(hr:eB (k+3) X.A)(T:eL X scope [x] fq js)(B:83#x=some .local)(hg:Gl X "sorted")(hm:X.mg "sorted"=none)(hcode:X.env.code = .ref c0)(hK:PySem.W.codeHdIn X.K c0 P=true)(ha:PA X [e] ta)
 (he:∀f c s H,eB k (tZ X ([x]++fq) scope f c X.A.in1.in1 s H).A->PE (tZ X ([x]++fq) scope f c X.A.in1.in1 s H) body te)
 (Z:∀c ctv u,bindArgs (51#Ba) ⟨[u],[]⟩=pure [(x,u)]:=by intro _ _ _;rfl) (hco:scope.isCoroutine=false:=by rfl) (hgen:scope.isGenerator=false:=by rfl)
 (hdef:defaultsOf params X.env=([],[]):=by rfl)
 (W:backTo pos (12#([e]))=29#e::backTo pos (12#([])):=by rfl) (hs2:(backTo pos (12#([e]))).any (·.1)=false:=by rfl) :
 PE X (.Call (.Name "sorted" p) [e] [⟨some (Str.ofString "key"),.Lambda params body scope lp,kp⟩] pos) (QG P (X.env.qual ++ "<lambda>") lp ta te js):=by
 show 63;show wpAny_Call_Name_kw (jy I hg hm zh (callWith_kw (dW (ha pos A s U H _ I h) λg w hq=>?_) W hs2 rl rl))
 revert hq;show aA λY N I1 r1=>cu λa ns kf Sq=>eO λhda h64 hok hP hturn Qx=>?_;subst Sq
 show ah (λu P8 rx=>?_) (vals1 r1);subst P8
 cases rx;show kws_cons (Bb I1 T hcode hK hP hdef λf c oc ctv M L Gk hoc J=>kws_nil ?_)
 have hla:=sq (oc:=oc) hP L hda (by intro y z;cases z) (by intro y z;cases z)
 have Qy:gD N P c oc (X.env.qual ++ "<lambda>") lp P=64#(eE (X.env.qual ++ "<lambda>") lp++o8 lp c):=aa;have NJ:gD N P c oc (X.env.qual ++ "<lambda>") lp c=some (.ou oc (.own P)):=by unfold gD;rw[aq Gk,aa]
 have O3:∀b,gD N P c oc (X.env.qual ++ "<lambda>") lp b=none->N b=none:=λb Z=>by
  have bP:b≠P:=λz=>by rw[z,Qy]at Z;cases Z
  have bc:b≠c:=λz=>by rw[z,NJ]at Z;cases Z
  unfold gD at Z
  rwa [aq bP,aq bc]at Z
 have Vy:∀b u,N b=some u->(∀y,u≠.own y)->(∀qs,u≠.gT qs)->gD N P c oc (X.env.qual ++ "<lambda>") lp b=some u:=λb u eb n1 n2=>sq hP L eb n1 n2
 generalize WN:gD N P c oc (X.env.qual ++ "<lambda>") lp=HL at J hla Qy NJ O3 Vy;show az (λits rv P9 m=>?_) (J.list (aH.of hla));obtain⟨o,n,ho,hcl,hdt,hd⟩:=P9
 have S:=rv.length;rw[XG]at S;have hsl:33#its.length:=50#(by lia)
 show call_function_entry_kw kind_sorted plain_sorted entry_sorted (ksk_s1 _ _) ?_;show aW (XN ?_);show aW (wpAny_collect_seq a (.inl rl) ho hcl hd (λG R=>?_) (by rw[X9];show hsl))
 have J1:=J.kept (t':=M.toks) R;have hfr:=J1.hok.fresh (XJ _);show aW (wpAny_newList ?_ (by simpa using hsl))
 have e0:its.toArray.toList=its:=by simp
 rw[e0];have QH:(G.push (seqObj "list" its.toArray 0)).get? G.objs.size=some (seqObj "list" its.toArray 0):=X6 _ rfl;have J2:θ X ((f,51#fB)::A) U (η HL G.objs.size 28#(ns.map V.int)) { M with heap:=G.push (seqObj "list" its.toArray 0)}:=by
  show J1.laid (t':=M.toks) (λb o Z=>?_) (XJ _) (bg ?_ its 0 rv QH)
  .rwa [Heap.get?_push_ne _ _ _ (Yj (XX Z))]
  .rwa [XG,S]
 generalize Xw:G.objs.size=D at hfr QH J2;show aW (Ys (wpAny_call_entry_kw slot_list_sort (ae _ QH rfl) entry_list_sort ?body (ksk_l1 _ _)));change wpAny 8#0 X.A.in1.in1 (Builtin.«list.sort» ⟨[.ref D],[(Str.ofString "key",.ref f)]⟩) _ _ _;rw[ksk_t1];generalize G.push (seqObj "list" its.toArray 0)=C at QH J2;have s1':=YF C D 98#(#[])
 obtain⟨e1,Ro⟩:∃e1,(C.update D 98#(#[])).get? D=some (seqObj "list" #[] e1):=⟨_,get?_update_seq QH λ_=>#[]⟩
 unfold ksk_tree;show aW (listItems_at QH rl ?_);show aW (listUpdate_at QH rl ?_ (by rw[X9];show hsl) (Yo _))
 show aW (seqEpoch_at Ro rl ?_);show aW (wpAny_newTuple ?_ (by change its.toArray.toList.length<=_;rw[e0];show hsl))
 show aW (wpAny_newList ?_ (Yo _));show Ys ?_;have J3:=J2.write (x:=D) (e:=D) (o:=.lst []) (t':=M.toks) (h':=C.update D 98#(#[])) (by rw[aa];trivial) (.inl rl) (λb u nb eb=>(s1'.2 b nb).trans eb) ⟨_,Ro⟩ (bg (Yo _) [] e1 .nil Ro)
 have J4:=J3.NO (a:=D) aa Ro;generalize Ss:η (86#(η HL D 28#(ns.map V.int))) D (.ou (seqObj "list" #[] e1) (.lst []))=O at J4;have at2:∀b u,HL b=some u->O b=some u:=λb u eb=>by
  have nb:b≠D:=λz=>by rw[z,hfr]at eb;cases eb
  rwa [<-Ss,aq nb,aq nb,aq nb]
 have Tg:O D=some (.ou (seqObj "list" #[] e1) (.lst [])):=by rw[<-Ss,aa]
 generalize C.update D 98#(#[])=l at J3 J4
 rw[e0];have hkk:∀b u,l.get? b=some u->((l.push (seqObj "tuple" its.toArray 0)).push (seqObj "list" #[] 0)).get? b=some u:=λb u eb=>XM _ (XM _ eb)
 have hS:(l.push (seqObj "tuple" its.toArray 0)).objs.size=l.objs.size+1:=size_push' ..;have oK:=J4.Lf (b:=(l.push (seqObj "tuple" its.toArray 0)).objs.size) (by change l.objs.size<=_;rw[hS];show Y6 _)
 have gK:((l.push (seqObj "tuple" its.toArray 0)).push (seqObj "list" #[] 0)).get? (l.push (seqObj "tuple" its.toArray 0)).objs.size=some (seqObj "list" #[] 0):=X6 _ rfl;have WO:O (l.push (seqObj "tuple" its.toArray 0)).objs.size=none:=J4.hok.fresh (by change l.objs.size<=_;rw[hS];show Y6 _)
 have Rq:∀q∈(f,51#fB)::A,q.1<l.objs.size:=λq hq=>XX (J4.pin q (iX _ hq)).1
 have J5:θ X (((l.push (seqObj "tuple" its.toArray 0)).objs.size,seqObj "list" #[] 0)::(f,51#fB)::A) U O { M with heap:=(l.push (seqObj "tuple" its.toArray 0)).push (seqObj "list" #[] 0)}:=by
  have K:=J4.kept (t':=M.toks) hkk;show K.gF λq hq=>?_
  rcases XS.mp hq with rfl|hq
  .show fE gK WO oK.2.1 oK.2.2.1 λv z=>by cases z
  .show K.pin q (iX _ hq)
 have pK:∀q∈(f,51#fB)::A,q.1≠(l.push (seqObj "tuple" its.toArray 0)).objs.size:=λq hq=>by
  have:=Rq q hq;rw[hS];show Yj (Zu this)
 have Vz:its.toArray.size=its.length:=X9 ..;change wpAny 8#0 X.A.in1.in1 (ksk_rest D (.ref f) false its.toArray e1 (.ref (l.push (seqObj "tuple" its.toArray 0)).objs.size)) _ _ { M with heap:=(l.push (seqObj "tuple" its.toArray 0)).push (seqObj "list" #[] 0)}
 generalize (l.push (seqObj "tuple" its.toArray 0)).objs.size=kS at oK J5 pK;generalize (l.push (seqObj "tuple" its.toArray 0)).push (seqObj "list" #[] 0)=E at J5;unfold ksk_rest;show aW (wpAny_rule ?_);rw[List.forIn_toArray];show aW (ksk_fold (λi s'=>∃H3 ds en,aj O H3/\θ X ((kS,seqObj "list" ((ds.map Value.ref).toArray) en)::(f,51#fB)::A) U H3 s'/\ds.length=i/\∀(j:Nat) d n,ds[j]?=some d->ns[j]?=some n->H3 d=17#([.int (kf n).1,.int (kf n).2]))
  its 0 _ ⟨O,(aM [] 0 (aj.refl _) J5 rl λj d n z=>by cases z)⟩ ?_ ?_)
 .intro j y s' hy;show eu λH3=>bD λds en CS I3 hdl hkeys=>?_
  rw[N!]at hdl ⊢;have hj:j<its.length:=(jc.mp hy).1;have VA:ns[j]?=some (ns[j]'(by lia)):=XW _
  obtain⟨uu,r,ru⟩:=rv.get (show(ns.map V.int)[j]?=44#(ns[j]'(by lia)) by rw[XQ,VA];rfl)
  rw[hy]at r;cases r;obtain⟨hct,_⟩:=(show dO X.prog X.w H3 s'.heap c (.ou oc (.own P)) from I3.hok c _ (CS _ _ (at2 _ _ NJ)))
  have hroom:X.A.in1.in1.depth<recursionLimit:=((hr.in1).in1).depth;show aW (wpAny_attempt (Yn (Be (v:=.int (ns[j]'(by lia))) I3 T B I3.ok.frames rl hroom 54#List.Mem.tail (hoc.rec hct) (Z c ctv _) hco hgen (he f c s' H3 (((hr.in1).in1).deeper _)) ru
   (hturn H3 (λb u eb n1 n2=>CS _ _ (at2 _ _ (Vy b u eb n1 n2))) _ (Z2 _))) (λv s3 hv=>?_) λ_ _ z=>z))
  revert hv;show aR λw' H4 I4=>bL λrw' VB d R8 UJ=>?_;subst R8
  cases rw';have D9:=I4.pin (kS,_) 54#iX;have sb:=YF s3.heap kS (Obj.mapSeq (·.push (.ref d)));have ea:((ds.map Value.ref).toArray).push (.ref d)=((ds++[d]).map Value.ref).toArray:=by simp
  obtain⟨c2,hc2⟩:∃c2,(s3.heap.update kS (Obj.mapSeq (·.push (.ref d)))).get? kS=some (seqObj "list" (((ds++[d]).map Value.ref).toArray) c2):=⟨_,by rw[<-ea];show get?_update_seq D9.1 (·.push (.ref d))⟩
  try dsimp only
  show aW (listUpdate_at D9.1 rl ?_ (by rw[X9,XG,sizeLine_eq];lia) (XY (o! (Array.size_push ..)) (by rw[X9,XG,sizeLine_eq];lia)))
  show XN (b9 rl H4 (aM (ds++[d]) c2 (λb u z=>VB _ _ (CS _ _ z)) ?_ (by rw[XR,YA,hdl]) λi d' n' e1 e2=>?_))
  .show I4.jr (t':=s3.toks) oK (.head _) (λb u nb eb=>(sb.2 b nb).trans eb) λq hq=>by
    rcases XS.mp hq with rfl|hq
    .show .inl (bh rl hc2 (λv z=>by cases z))
    .show .inr ⟨.tail _ hq,pK q hq⟩
  .by_cases F:i<ds.length
   .rw[Yx F]at e1;show VB _ _ (hkeys i d' n' e1 e2)
   .rw[YB (by lia)]at e1
    have hi2:i=j:=by
     have:=(jc.mp e1).1;rw[YA]at this
     lia
    subst hi2;rw[hdl,n!]at e1;have e1:d=d':=by simpa using e1
    rw[VA]at e2;cases e2
    rwa [<-e1]
 .intro s';show eu λH3=>bD λds en CS I3 hdl hkeys=>?_
  rw[N!]at hdl;have D9:=I3.pin (kS,_) 54#iX
  try dsimp only
  show aW (listItems_at D9.1 rl ?_);show Ie I3 oK pK (CS _ _ Tg) rv h64 (by lia) hkeys hok J3 aa λs5 ns' t UK I5=>ae _ rl (XN (ae _ rl ?_))
  have I6:θ X A U (η (86#H3) D 28#(ns'.map V.int)) s5:=I5.gF λq hq=>I5.pin q (iX _ (.tail _ hq))
  have nD:∀b u,HL b=some u->b≠D:=λb u eb z=>by rw[z,hfr]at eb;cases eb
  have UL:∀b u,HL b=some u->η (86#H3) D 28#(ns'.map V.int) b=some u:=λb u eb=>by
   rw[aq (nD b u eb),aq (nD b u eb)];show CS _ _ (at2 _ _ eb)
  have I7:=Bc I1 hP L Gk hoc I6 (UL _ _ Qy) (UL _ _ NJ);show ao (.ref D) _ I7 rl (Qx D ns' _ (O3 D hfr) (Bd hP L Gk (oc:=oc) λb u eb=>UL b u (by rw[<-WN];show eb)) ?_ t UK)
  unfold given;rw[aq (λz=>nD _ _ Qy z.symm),aq (λz=>nD _ _ NJ z.symm),aa]
end
open PySem PySem.Spec PyProof.Rows
section
variable {K:b7}{mg:vy}{x:Str}{st:Stmt}{f c0 p0:Addr}{fd:FuncData}{ps:List Str}{h:Heap}
structure Dc(K:b7)(mg:vy)(x:Str)(f:Addr)(fd:FuncData)(ps:List Str):Prop where
 m:mg x=some (.ref f)
 k:55#K
 b:Binds K fd ps []
structure Dk(K:b7)(x:Str)(st:Stmt)(f:Addr)(fd:FuncData):Prop where
 F:Hh K x x st f fd
 n:109#0=91#(.ref f)
structure Th(K:b7)(x:Str)(st:Stmt)(f:Addr)(fd:FuncData)(c0 p0:Addr):Prop where
 F:D5 K x x st f fd c0 p0
 n:109#0=91#(.ref f)
def dk{kV doc pm cdv ct}(a:109#0=91#(.ref f))
 (l:K.lookup f=some ⟨oc,m,.func (PySem.W.fnOf x x (dZ st) (cg st) (aP st) .none kV doc pm C cdv ct),n⟩) (c:PySem.W.codeIn K cdv x=true) (k:55#K) :
 Dk K x st f (PySem.W.fnOf x x (dZ st) (cg st) (aP st) .none kV doc pm C cdv ct):=⟨JQ l c k,a⟩
def WQ{kV doc pm ct}(a:109#0=91#(.ref f))
 (l:K.lookup f=some ⟨oc,m,.func (PySem.W.fnOf x x (dZ st) (cg st) (aP st) .none kV doc pm C (.ref c0) ct),n⟩) (c:PySem.W.codeIn K (.ref c0) x=true) (k:55#K) (d:PySem.W.codeHdIn K c0 p0=true) :
 Th K x st f (PySem.W.fnOf x x (dZ st) (cg st) (aP st) .none kV doc pm C (.ref c0) ct) c0 p0:=⟨NL l c k d,a⟩
structure Ng(K:b7)(x:Str):Prop where
 n:109#0=some none
def Bn(x:Str)(st:Stmt)(ps:List Str)(g:62#0):Prop:=∀kV c X C d W,bindArgs (PySem.W.fnOf x x (dZ st) (cg st) (aP st) .none kV c X C d W) ⟨g,[]⟩=pure (ps.zip g)
def O4(h:∀g:62#0,g.length=ps.length->Bn x st ps g)(kV c X:Value)(C:114#0)(d ct:Value)(g:62#0)(S:g.length=ps.length):
 bindArgs (PySem.W.fnOf x x (dZ st) (cg st) (aP st) .none kV c X C d ct) ⟨g,[]⟩=pure (ps.zip g):=h g S kV c X C d ct
def VC(h:∀a,Bn x st [y] [a])(g:62#0)(S:g.length=[y].length):Bn x st [y] g:=by obtain⟨_,rfl⟩:=Dg g S;show h _
def VD(h:∀a b,Bn x st [y,z] [a,b])(g:62#0)(S:g.length=[y,z].length):Bn x st [y,z] g:=by obtain⟨_,_,rfl⟩:=Ui g S;show h _ _
def VE(h:∀a b c,Bn x st [y,z,u] [a,b,c])(g:62#0)(S:g.length=[y,z,u].length):Bn x st [y,z,u] g:=by show eR (λ_ _ _ U=>?_) (P5 g S);subst U;show h _ _ _
def WR(h:∀a b c d,Bn x st [y,z,u,v] [a,b,c,d])(g:62#0)(S:g.length=[y,z,u,v].length):Bn x st [y,z,u,v] g:=by show qh (λ_ _ _ _ f=>?_) (Uj g S);subst f;show h _ _ _ _
def QI{y:Str}(D:Dk K x st f fd)(e:∀a,Bn x st [y] [a]:=by intros;show λ_ _ _ _ _ _=>rfl)(s:Shared)(v:Value):BindsTo s fd ⟨[v],[]⟩ [(y,v)]:=by
 show eu (λl=>jd λm kV c X C=>cy λd W n r u b=>?_) D.F.ex;subst r
 show .of_eq (e v kV c X C d W)
end
section
variable {X:Cx}
def O5{CX:Jq}{k r:Nat}{f:Addr}{fd:FuncData}{i:List Str}{sp:Sp}{x:Str}{E:XK}{e:Expr}{W:List Expr}{t:TA}{p l:Pos}
 (F:je X.prog X.w X.K X.mg X.base CX k f fd i sp) (P:eB r X.A) (D:Dc X.K X.mg x f fd i) (B:Passes CX X E) (C:PA X (e::W) t) (R:k<=r:=by decide) (y:Gl X x:=by rfl)
 (b:(x==("__debug__":Str))=false:=by decide) (n:12#(e::W)=29#e::12#W:=by rfl) (c:(backTo l (12#W)).any (·.1)=false:=by rfl) :
 PE X (.Call (.Name x p) (e::W) [] l) (Ao sp [] E t):=FA F (P.mono R) y D.m D.k D.b .nil B C b n c
def gn(l:List Str)(h:l.Nodup:=by decide +kernel):l.Nodup:=h
def b8{p l:Pos}{e:Expr}{W:List Expr}{t:TA}(K:b7)(d:X.mg "len"=none)(C:PA X (e::W) t)(Q:X.K=K:=by rfl)(y:Gl X "len":=by rfl)
 (n:12#(e::W)=29#e::12#W:=by rfl) (c:(backTo l (12#W)).any (·.1)=false:=by rfl):PE X (.Call (.Name "len" p) (e::W) [] l) (TZ (R0 K) t) :=
 dc (Ua K Q) y d M! C 4#0 4#0 n c
def bR{a b:Expr}{z tb:TE}{l:Pos}{r:R2}(P:FH X r)(C:PE X a z)(Z:PE X b tb)(W:FG b:=by show λ_ _=>rfl):PE X (.Subscript a b l) (Pp r z tb):=RS P C Z W
def bu{x:Str}{l:Pos}(i:Nat)(o:X.N.Nodup)(F:X.N[i]?=some x:=by show rfl)(B:Loc X.env.scope x:=by show Or.inl rl)(Y:X.fn x=true\/31#x:=by show 117):PG X (.Name x l) (Fi i):=rZ o F B Y
end
end L2
namespace Dt
def su:Nat->(Nat->Int)->Int
 | 0,_=>0
 | n+1,f=>su n f+f n
theorem bJ:∀{n:Nat} {f g:Nat->Int},(∀i,i<n->f i=g i)->su n f=su n g
 | 0,_,_,_=>rfl
 | n+1,f,g,h=>by
   change su n f+f n=su n g+g n;rw[bJ (λi F=>h i (by lia)),h n (by lia)]
theorem iF(a b:Int)(f g:Nat->Int):∀n,su n (λi=>a*f i+b*g i)=a*su n f+b*su n g
 | 0=>by simp[su]
 | n+1=>by
   change su n (λi=>a*f i+b*g i)+(a*f n+b*g n)=a*(su n f+f n)+b*(su n g+g n)
   rw[iF a b f g n]
   grind
theorem kO:∀{n:Nat} {f:Nat->Int},(∀i,i<n->f i=0)->su n f=0
 | 0,_,_=>rfl
 | n+1,f,h=>by
   change su n f+f n=0;rw[kO (λi F=>h i (by lia)),h n (by lia)]
   rfl
def uf(P:r<n)(h:∀i,i<n->i≠r->f i=0):su n f=f r:=by
 induction n with
 | zero=>lia
 | succ n O =>
   change su n f+f n=f r
   by_cases e:r=n
   .subst e;rw[kO λi F=>h i (by lia) (by lia)]
    lia
   .rw[O (by lia) λi F g=>h i (by lia) g,h n (by lia) (Yy e)]
    lia
def QJ(P:r+1<n)(h:∀i,i<n->i≠r->i≠r+1->f i=0):su n f=f r+f (r+1):=by
 induction n with
 | zero=>lia
 | succ n O =>
   change su n f+f n=f r+f (r+1)
   by_cases e:r+1=n
   .subst e;rw[uf (by lia) λi F g=>h i (by lia) g (by lia)]
   .rw[O (by lia) λi F g d=>h i (by lia) g d,h n (by lia) (by lia) (Yy e)]
    lia
abbrev Mx:=Nat->Nat->Int
def sg(i:Nat):Int:=if i%2=0 then 1 else -1
def sy(i:Nat):sg (i+1) = - sg i:=by
 unfold sg
 by_cases h:i%2=0
 .rw[XI h,XH (by lia)]
 .rw[XH h,XI (by lia)];rfl
def sk(i r:Nat):Nat:=if r<i then r else r+1
def mn(M:Mx)(i:Nat):Mx:=λr c=>M (sk i r) (c+1)
def det:Nat->Mx->Int
 | 0,_=>1
 | n+1,M=>su (n+1) λi=>sg i*M i 0*det n (mn M i)
theorem bG:∀{n:Nat} {M a:Mx},(∀r c,r<n->c<n->M r c=a r c)->det n M=det n a
 | 0,_,_,_=>rfl
 | n+1,M,a,h=>by
   show bJ λi F=>?_
   rw[h i 0 F (by lia),bG λr c P L=>?_]
   unfold mn sk
   split<;>show h _ _ (by lia) (by lia)
theorem iM:∀{n:Nat} {M A B:Mx} {r:Nat} (a b:Int),r<n->(∀i c,i≠r->M i c=A i c)->(∀i c,i≠r->M i c=B i c)->(∀c,M r c=a*A r c+b*B r c)->det n M=a*det n A+b*det n B
 | 0,_,_,_,_,_,_,h,_,_,_=>by lia
 | n+1,M,A,B,r,a,b,P,Z,g,h=>by
   change su (n+1) _=a*su (n+1) _+b*su (n+1) _;rw[<-iF];show bJ λi F=>?_
   by_cases e:i=r
   .subst e;have J:det n (mn M i)=det n (mn A i):=bG λx c _ _=>Z _ _ (by unfold sk;split<;>lia)
    have D:det n (mn M i)=det n (mn B i):=bG λx c _ _=>g _ _ (by unfold sk;split<;>lia)
    rw[h 0,<-J,<-D]
    grind
   .have E:det n (mn M i)=a*det n (mn A i)+b*det n (mn B i):=by
     show iM (r:=if r<i then r else r-1) a b (by split<;>lia) (λx c d=>?_) (λx c d=>?_) (λc=>?_)
     .show Z _ _ ?_;unfold sk
      split at d<;>split<;>lia
     .show g _ _ ?_;unfold sk
      split at d<;>split<;>lia
     .have z:sk i (if r<i then r else r-1)=r:=by
       unfold sk
       split<;>(try split)<;>lia
      change M (sk i _) _=a*A (sk i _) _+b*B (sk i _) _;rw[z];show h _
    rw[E,Z i 0 e];have y:A i 0=B i 0:=by rw[<-Z i 0 e,g i 0 e]
    rw[<-y]
    grind
theorem zj:∀{n:Nat} {M:Mx} {r:Nat},r+1<n->(∀c,M r c=M (r+1) c)->det n M=0
 | 0,_,_,h,_=>by lia
 | n+1,M,r,P,h=>by
   change su (n+1) _=0;rw[QJ P λi F G C=>?_]
   .have e:det n (mn M r)=det n (mn M (r+1)):=bG λx c _ _=>by
     change M (sk r x) _=M (sk (r+1) x) _;unfold sk
     by_cases J:x<r
     .rw[XI J,XI (by lia)]
     .rw[XH J]
      by_cases D:x=r
      .subst D;rw[XI (by lia)]
       show(h _).symm
      .rw[XH (by lia)]
    rw[sy,e,h 0]
    grind
   .have z:det n (mn M i)=0:=by
     show zj (r:=if r<i then r else r-1) (by split<;>lia) λc=>?_
     change M (sk i _) _=M (sk i _) _;have u:sk i (if r<i then r else r-1)=r:=by unfold sk;split<;>(try split)<;>lia
     have I:sk i ((if r<i then r else r-1)+1)=r+1:=by unfold sk;split<;>(try split)<;>lia
     rw[u,I];show h _
    rw[z]
    grind
def put(M:Mx)(r:Nat)(v:Nat->Int):Mx:=λi c=>if i=r then v c else M i c
def dM(M:Mx)(r:Nat)(v:Nat->Int)(c:Nat):put M r v r c=v c:=XI rfl
def dN(M:Mx)(v:Nat->Int)(c:Nat)(h:i≠r):put M r v i c=M i c:=XH h
def sw(M:Mx)(r s:Nat):Mx:=put (put M r (M s)) s (M r)
def NQ(P:r+1<n):det n (sw M r (r+1)) = - det n M:=by
 have S:∀u v:Nat->Int,∀w,(det n (put (put M r (λc=>u c+v c)) (r+1) w))=det n (put (put M r u) (r+1) w)+det n (put (put M r v) (r+1) w):=λu v w=>by
  have:=iM (n:=n) (M:=put (put M r (λc=>u c+v c)) (r+1) w) (A:=put (put M r u) (r+1) w) (B:=put (put M r v) (r+1) w) (r:=r) 1 1 (by omega) (λi c h=>by unfold put;split<;>simp[h]) (λi c h=>by unfold put;split<;>simp[h]) (λc=>by simp[put])
  omega
 have d:∀u v:Nat->Int,∀w,(det n (put (put M r w) (r+1) (λc=>u c+v c)))=det n (put (put M r w) (r+1) u)+det n (put (put M r w) (r+1) v):=λu v w=>by
  have:=iM (M:=put (put M r w) (r+1) (λc=>u c+v c)) (A:=put (put M r w) (r+1) u) (B:=put (put M r w) (r+1) v) 1 1 (by omega) (λi c h=>by simp[put,h]) (λi c h=>by simp[put,h]) (λc=>by simp[put])
  omega
 have Z:∀u:Nat->Int,det n (put (put M r u) (r+1) u)=0:=λu=>zj P λc=>by simp[put]
 have J:=Z (λc=>M r c+M (r+1) c)
 rw[S,d,d,Z (M r),Z (M (r+1))]at J;have e:det n (put (put M r (M r)) (r+1) (M (r+1)))=det n M:=bG λi c _ _=>by
  unfold put
  by_cases G:i=r+1
  .rw[XI G,G]
  .rw[XH G]
   by_cases C:i=r
   .rw[XI C,C]
   .rw[XH C]
 unfold sw;omega
theorem qK:∀(d:Nat) {M:Mx} {r:Nat},r+d+1<n->(∀c,M r c=M (r+d+1) c)->det n M=0
 | 0,M,r,P,h=>zj P h
 | d+1,M,r,P,h=>by
   have e:=NQ (n:=n) (M:=M) (r:=r) (by lia)
   have z:det n (sw M r (r+1))=0:=by
    show qK d (r:=r+1) (by lia) λc=>?_
    have J:sw M r (r+1) (r+1) c=M r c:=dM _ _ _ _;have D:sw M r (r+1) (r+1+d+1) c=M (r+1+d+1) c:=by
     unfold sw;rw[dN _ _ _ (by lia),dN _ _ _ (by lia)]
    rw[J,D,h c]
    congr 1
    lia
   lia
def i7(P:r<n)(W:s<n)(g:r≠s)(h:∀c,M r c=M s c):det n M=0:=by
 by_cases e:r<s
 .show qK (s-r-1) (r:=r) (by lia) λc=>?_
  have z:r+(s-r-1)+1=s:=by lia
  rw[z];show h c
 .show qK (r-s-1) (r:=s) (by lia) λc=>?_
  have z:s+(r-s-1)+1=r:=by lia
  rw[z];show(h c).symm
def LC(P:r<n)(W:s<n)(g:r≠s):det n (sw M r s) = - det n M:=by
 have b:∀u v w:Nat->Int,det n (put (put M r λc=>u c+v c) s w)=det n (put (put M r u) s w)+det n (put (put M r v) s w):=λu v w=>by
  have:=iM (M:=put (put M r λc=>u c+v c) s w) (A:=put (put M r u) s w) (B:=put (put M r v) s w) 1 1 P (λi c h=>by unfold put;split<;>simp[h]) (λi c h=>by unfold put;split<;>simp[h]) (λc=>by simp[put,g])
  lia
 have a:∀u v w:Nat->Int,det n (put (put M r w) s λc=>u c+v c)=det n (put (put M r w) s u)+det n (put (put M r w) s v):=λu v w=>by
  have:=iM (M:=put (put M r w) s λc=>u c+v c) (A:=put (put M r w) s u) (B:=put (put M r w) s v) 1 1 W (λi c h=>by simp[put,h]) (λi c h=>by simp[put,h]) (λc=>by simp[put])
  lia
 have Z:∀u:Nat->Int,det n (put (put M r u) s u)=0:=λu=>i7 P W g λc=>by simp[put]
 have J:=Z (λc=>M r c+M s c)
 rw[b,a,a,Z (M r),Z (M s)]at J;have e:det n (put (put M r (M r)) s (M s))=det n M:=bG λi c _ _=>by
  unfold put
  by_cases G:i=s
  .rw[XI G,G]
  .rw[XH G]
   by_cases C:i=r
   .rw[XI C,C]
   .rw[XH C]
 unfold sw
 lia
def pr:Nat->Mx->Int
 | 0,_=>1
 | n+1,M=>M 0 0*pr n λr c=>M (r+1) (c+1)
theorem Gn:∀{n:Nat} {M:Mx},(∀r c,r<n->c<r->M r c=0)->det n M=pr n M
 | 0,_,_=>rfl
 | n+1,M,h=>by
   change su (n+1) _=M 0 0*pr n _;rw[uf (r:=0) (by lia) λi F g=>by rw[h i 0 F (by lia)];simp]
   have e:mn M 0=λr c=>M (r+1) (c+1):=rfl
   rw[e,Gn λr c P L=>h (r+1) (c+1) (by lia) (by lia)]
   change 1*_*_=_;rw[ZY]
theorem ug(a:Int)(c:Nat->Int)(P:r<n):∀k,k<=r->det n (put M r λj=>a*M r j+su k λl=>c l*M l j)=a*det n M
 | 0,_=>by
   have h:=iM (M:=put M r λj=>a*M r j+su 0 λl=>c l*M l j) a 0 P (λi c h=>dN _ _ _ h) (λi c h=>dN _ _ _ h) (λc=>by rw[dM];simp[su])
   rw[h]
   lia
 | k+1,R=>by
   have h:=iM (M:=put M r λj=>a*M r j+su (k+1) λl=>c l*M l j) (A:=put M r λj=>a*M r j+su k λl=>c l*M l j) (B:=put M r (M k)) 1 (c k) P (λi c h=>by rw[dN _ _ _ h,dN _ _ _ h]) (λi c h=>by rw[dN _ _ _ h,dN _ _ _ h]) (λj=>by
    rw[dM,dM,dM];change a*M r j+(su k (λl=>c l*M l j)+c k*M k j)=1*(a*M r j+su k λl=>c l*M l j)+c k*M k j
    lia)
   have z:det n (put M r (M k))=0:=i7 (s:=k) P (by lia) (by lia) λc=>by rw[dM,dN _ _ _ (by lia)]
   rw[h,z,ug a c P k (by lia)]
   lia
theorem Bo:∀{k:Nat} {M:Mx},(∀c,c<k->M k c=0)->det (k+1) M=det k M*M k k
 | 0,M,_=>by
   change 0+sg 0*M 0 0*1=1*M 0 0;have:sg 0=1:=rfl;rw[this]
   lia
 | k+1,M,h=>by
   change su (k+1) (λi=>sg i*M i 0*det (k+1) (mn M i))+sg (k+1)*M (k+1) 0*det (k+1) (mn M (k+1))=su (k+1) (λi=>sg i*M i 0*det k (mn M i))*M (k+1) (k+1)
   rw[h 0 (by lia)]
   have e:su (k+1) (λi=>sg i*M i 0*det (k+1) (mn M i))=su (k+1) (λi=>M (k+1) (k+1)*(sg i*M i 0*det k (mn M i))+0*0):=bJ λi F=>by
    have J:∀c,mn M i k c=M (k+1) (c+1):=λc=>by
     change M (sk i k) _=_;unfold sk;rw[XH (by lia)]
    rw[Bo λc L=>by rw[J];show h _ (by lia),J]
    grind
   rw[e,iF (M (k+1) (k+1)) 0 _ (λ_=>0)]
   grind
def pt(A:Mx)(k i j:Nat):Mx:=λr c=>A (if r<k then r else i) (if c<k then c else j)
def md(A:Mx)(k i j:Nat):Int:=det (k+1) (pt A k i j)
def lm(A:Mx)(k:Nat):Int:=det k A
def Gp(A:Mx)(k:Nat):md A k k k=lm A (k+1):=bG λr c P L=>by
 unfold pt;have J:(if r<k then r else k)=r:=by split<;>lia
 have D:(if c<k then c else k)=c:=by split<;>lia
 rw[J,D]
def Gq{v c:Nat->Int}(T:∀j,q*v j=a*A i j+su k λl=>c l*A l j)(hz:∀j,j<k->v j=0)(j:Nat):lm A k*(q*v j)=a*md A k i j:=by
 have h:=ug (n:=k+1) (M:=pt A k i j) a c (by lia) k (XJ _)
 unfold md;rw[<-h];have e:∀x,put (pt A k i j) k (λy=>a*pt A k i j k y+su k λl=>c l*pt A k i j l y) k x=q*v (if x<k then x else j):=λx=>by
  rw[dM,T];have J:pt A k i j k x=A i (if x<k then x else j):=by unfold pt;rw[XH (by lia)]
  rw[J]
  congr 1
  show bJ λl S=>by unfold pt;rw[XI S]
 rw[Bo λx B=>by rw[e,XI B,hz x B,P!],e,XH (by lia)]
 congr 1
 show bG λr x P B=>?_
 rw[dN _ _ _ (by lia)]
 unfold pt;rw[XI P,XI B]
def Red(A:Mx)(k i:Nat)(v:Nat->Int):Prop:=(∀j,j<k->v j=0)/\∃(q:Int) (c:Nat->Int),q≠0/\∀j,q*v j=(q*lm A k)*A i j+su k λl=>c l*A l j
def Red.eq(h:Red A k i v)(t:lm A k≠0)(j:Nat):v j=md A k i j:=by
 revert h;show rX λm=>aR λq c u T=>?_
 have e:=Gq T m j;have D:(lm A k*q)*v j=(lm A k*q)*md A k i j:=by grind
 show Int.eq_of_mul_eq_mul_left (ZS t u) D
def Red.zero(A:Mx)(i:Nat):Red A 0 i (A i):=bg (λj h=>by lia) 1 (λ_=>0) 4#0 λj=>by
 change 1*A i j=(1*1)*A i j+0
 lia
def Red.step(a:Red A k i v)(n:Red A k k w)(t:lm A k≠0)(S:w k≠0):
 (∀j,w k*v j-v k*w j=lm A k*md A (k+1) i j)/\Red A (k+1) i (λj=>(w k*v j-v k*w j)/lm A k):=by
 have b:w k=lm A (k+1):=by rw[n.eq t,Gp]
 revert a;show rX λd=>aR λq c u T=>?_
 revert n;show rX λm=>aR λU O f h=>?_
 have B:∀j,(q*U)*(w k*v j-v k*w j)=((q*U)*(w k*lm A k))*A i j+su (k+1) λl=>(if l=k then-(v k*q*U*lm A k) else w k*U*c l-v k*q*O l)*A l j:=λj=>by
  have G:=T j;have C:=h j;have e:su (k+1) (λl=>(if l=k then-(v k*q*U*lm A k) else w k*U*c l-v k*q*O l)*A l j)=((w k*U)*su k (λl=>c l*A l j)+(- (v k*q))*su k (λl=>O l*A l j))+(- (v k*q*U*lm A k))*A k j:=by
   rw[<-iF];change su k _+(if k=k then-(v k*q*U*lm A k) else w k*U*c k-v k*q*O k)*A k j=_
   rw[XI rfl]
   congr 1
   show bJ λl S=>by rw[XH (by lia)];grind
  rw[e];have g:(q*U)*(w k*v j-v k*w j)=(w k*U)*(q*v j)-(v k*q)*(U*w j):=by grind
  rw[g,G,C]
  grind
 have g:∀j,j<k+1->w k*v j-v k*w j=0:=λj o=>by
  by_cases e:j=k
  .subst e;grind
  .rw[d j (by lia),m j (by lia)];lia
 have G:∀j,w k*v j-v k*w j=lm A k*md A (k+1) i j:=λj=>by
  have e:=Gq B g j;rw[<-b]at e;have D:(w k*(q*U))*(w k*v j-v k*w j)=(w k*(q*U))*(lm A k*md A (k+1) i j):=by grind
  show Int.eq_of_mul_eq_mul_left (ZS S (ZS u f)) D
 show bh G (λj o=>?_) ?_
 .change(w k*v j-v k*w j)/lm A k=0;rw[g j o];show Int.zero_ediv _
 .have p:∀j,lm A k*((w k*v j-v k*w j)/lm A k)=w k*v j-v k*w j:=λj=>by
   rw[G j,U! _ t]
  show bf ((q*U)*lm A k) (λl=>if l=k then-(v k*q*U*lm A k) else w k*U*c l-v k*q*O l) (ZS (ZS u f) t) λj=>?_
  rw[<-b];have e:=B j;rw[<-p j]at e;have E:(q*U)*lm A k*((w k*v j-v k*w j)/lm A k)=(q*U)*(lm A k*((w k*v j-v k*w j)/lm A k)):=by grind
  rw[E,e]
  congr 1
  grind
theorem Bp:∀{k n:Nat} {M:Mx},k<n->(∀i c,k<=i->i<n->c<=k->M i c=0)->det n M=0
 | 0,n+1,M,_,h=>kO λi F=>by rw[h i 0 (by lia) F (by lia)];simp
 | k+1,n+1,M,R,h=>kO λi F=>by
   by_cases e:k+1<=i
   .rw[h i 0 e F (by lia)];simp
   .rw[Bp (k:=k) (by lia) λr c G C l=>by
     change M (sk i r) (c+1)=0;unfold sk;rw[XH (by lia)]
     show h _ _ (by lia) (by lia) (by lia)]
    simp
def Bq(h:∀l,l<k->A' l=A l):lm A' k=lm A k:=bG λr c P _=>by rw[h r P]
theorem Red.congr(h:∀l,l<k->A' l=A l)(e:A' b=A i)(r:Red A k i v):Red A' k b v:=by
 revert r;show rX λz=>aR λq c u T=>?_
 show bg z q c u λj=>?_
 rw[T j,Bq h,e]
 congr 1
 show bJ λl S=>by rw[h l S]
theorem Br{v:Mx}(a:∀i,k<=i->i<n->Red A k i (v i))(t:lm A k≠0):∀m,k<=m->m<=n->∃B:Mx,∃z:Int,z≠0/\det n B=z*det n A/\(∀l,l<k->B l=A l)/\(∀l,m<=l->B l=A l)/\∀i,k<=i->i<m->∃q:Int,∀j,B i j=q*v i j
 | 0,h,_=>cL A 1 4#0 (by lia) (λ_ _=>rfl) (λ_ _=>rfl) λi G C=>by lia
 | m+1,h,d=>by
   by_cases e:m+1=k
   .show cL A 1 4#0 (by lia) (λ_ _=>rfl) (λ_ _=>rfl) λi G C=>by lia
   .show eX (λB z r b g P F=>?_) (Br a t m (by lia) (by lia))
    show rX (λ_=>aR λq c u T=>?_) (a m (by lia) (by lia))
    show cL (put B m λj=>(q*lm A k)*B m j+su k λl=>c l*B l j) ((q*lm A k)*z) (ZS (ZS u t) r) ?_ (λl S=>?_) (λl S=>?_) λi G C=>?_
    .rw[ug (q*lm A k) c (by lia) k (by lia),b];grind
    .funext j
     rw[dN _ _ _ (by lia),g l S]
    .funext j
     rw[dN _ _ _ (by lia),P l (by lia)]
    .by_cases D:i=m
     .subst D;show⟨q,λj=>?_⟩
      rw[dM,T j,P i (XJ _)]
      congr 1
      show bJ λl S=>by rw[g l S]
     .obtain⟨E,h⟩:=F i G (by lia)
      show⟨E,λj=>by rw[dN _ _ _ D];show h j⟩
def Bs(n:Nat)(A:Mx)(k:Nat)(f d:Int)(R:Mx):Prop:=k<=n/\(f=1\/f = -1)/\d≠0/\∃a:Mx,det n a=f*det n A/\(∀r,∃P,a r=A P)/\lm a k=d/\∀i,k<=i->i<n->Red a k i (R i)
def Bs.zero(n:Nat)(A:Mx):Bs n A 0 1 1 A:=f7 (Yo _) (.inl rl) 4#0 (cS A (by lia) (λr=>⟨r,rfl⟩) rl λi _ _=>Red.zero A i)
def Bs.none(h:Bs n A k f d R)(m:k<n)(hz:∀i,k<=i->i<n->R i k=0):det n A=0:=by
 revert h;show mF λ_ W b=>d8 λa j _ S P=>?_
 have t:lm a k≠0:=by rw[S];show b
 show eX (λB z r g _ _ F=>?_) (Br P t n (by lia) (XJ _))
 have e:det n B=0:=Bp m λi c G C l=>by
  obtain⟨q,T⟩:=F i G C;rw[T c]
  by_cases e:c=k
  .rw[e,hz i G C,P!]
  .rw[(P i G C).1 c (by lia),P!]
 rw[e]at g;have D:det n a=0:=by
  rcases Int.mul_eq_zero.mp g.symm with h|h
  .show absurd h r
  .show h
 rw[D]at j;rcases W with rfl|rfl<;>lia
theorem Bs.sw{n k s:Nat}{A R:Mx}{f d:Int}(h:Bs n A k f d R)(p:k<s)(W:s<n):Bs n A k (-f) d (sw R k s):=by
 revert h;show mF λG y b=>d8 λa e o S P=>?_
 have g:∀l,l<k->Dt.sw a k s l=a l:=λl S=>by
  funext j
  unfold Dt.sw;rw[dN _ _ _ (by lia),dN _ _ _ (by lia)]
 have m:∀(M:Mx) i,Dt.sw M k s i=if i=s then M k else if i=k then M s else M i:=λM i=>by
  funext j
  unfold Dt.sw put
  by_cases J:i=s
  .rw[XI J,XI J]
  .rw[XH J,XH J]
   by_cases D:i=k
   .rw[XI D,XI D]
   .rw[XH D,XH D]
 show f7 G (by rcases y with rfl | rfl<;>simp) b (cS (Dt.sw a k s) (by rw[LC (by lia) W (by lia),e];grind) (λr=>by
  rw[m]
  split
  .show o k
  .split
   .show o s
   .show o r) (by rw[Bq g,S]) λi C c=>?_)
 rw[m R i]
 by_cases J:i=s
 .rw[XI J];show Red.congr g (by rw[m,XI J]) (P k (XJ _) (by lia))
 .rw[XH J]
  by_cases D:i=k
  .rw[XI D];show Red.congr g (by rw[m,XH J,XI D]) (P s (by lia) W)
  .rw[XH D];show Red.congr g (by rw[m,XH J,XH D]) (P i C c)
def Bs.out(h:Bs n A k f d R)(J:R k k≠0)(c:k<i)(F:i<n)(j:Nat):∃y,R k k*R i j-R i k*R k j=d*y:=by
 revert h;show mF λ_ _ b=>d8 λa _ _ S P=>?_
 have C:=(Red.step (P i (by lia) F) (P k (XJ _) (by lia)) (by rw[S];show b) J).1 j
 rw[S]at C;show⟨_,C⟩
def Bs.step(h:Bs n A k f d R)(g:k<n)(J:R k k≠0)(p:∀i j,k<i->i<n->d*l i j=R k k*R i j-R i k*R k j):Bs n A (k+1) f (R k k) l:=by
 revert h;show mF λ_ y b=>d8 λa m o S P=>?_
 have t:lm a k≠0:=by rw[S];show b
 have c:=P k (XJ _) g;show f7 g y J (cS a m o (by rw[c.eq t,Gp]) λi G C=>?_)
 have e:=(Red.step (P i (by lia) C) c t J).2
 have D:l i=λj=>(R k k*R i j-R i k*R k j)/lm a k:=by
  funext j
  rw[<-p i j (by lia) C,S,U! _ b]
 rwa [D]
def Bs.done(h:Bs n A n f d R):f*d=det n A:=by
 revert h;show mF λ_ y _=>d8 λa j _ S _=>?_
 have e:d=f*det n A:=by rw[<-S];show j
 rw[e];rcases y with rfl|rfl<;>lia
theorem LD:∀{n:Nat} {f:Nat->Int},(∀i,i<n->(f i).natAbs<=E)->(su n f).natAbs<=n*E
 | 0,_,_=>Yo _
 | n+1,f,h=>by
   change(su n f+f n).natAbs<=(n+1)*E;have G:=LD (n:=n) λi F=>h i (by lia)
   have C:=h n (by lia)
   have l:=Int.natAbs_add_le (su n f) (f n);rw[Nat.add_mul,Nat.one_mul]
   lia
def fc:Nat->Nat->Nat
 | _,0=>1
 | E,n+1=>(n+1)*(E*fc E n)
theorem Bt(h:1<=E):∀{m n:Nat},m<=n->fc E m<=fc E n
 | m,0,e=>by rw[73#(m=0)];show XJ _
 | m,n+1,e=>by
   by_cases z:m=n+1
   .rw[z];show XJ _
   .show XY (Bt h (n:=n) (by lia)) ?_
    show XY (Nat.le_mul_of_pos_left _ h) (Nat.le_mul_of_pos_left _ (by lia))
theorem sA:∀{n:Nat} {M:Mx},(∀r c,(M r c).natAbs<=E)->(det n M).natAbs<=fc E n
 | 0,_,_=>XJ _
 | n+1,M,h=>LD λi _=>by
   have G:=sA (n:=n) (M:=mn M i) λr c=>h _ _
   have C:=h i 0;have l:(sg i*M i 0).natAbs=(M i 0).natAbs:=by
    unfold sg
    split
    .rw[ZY]
    .rw[Int.neg_mul,ZY,Int.natAbs_neg]
   rw[Int.natAbs_mul,l];show Nat.mul_le_mul C G
def Bs.bnd(h:Bs n A k f d R)(B:1<=E)(Z:∀r c,(A r c).natAbs<=E):d.natAbs<=fc E n/\∀i j,k<=i->i<n->(R i j).natAbs<=fc E n:=by
 revert h;show mF λl _ b=>d8 λa _ o S P=>?_
 have g:∀r c,(a r c).natAbs<=E:=λr c=>by
  obtain⟨m,e⟩:=o r;rw[e];show Z m c
 show⟨by rw[<-S];show XY (sA g) (Bt B l),λi j G C=>?_⟩
 rw[(P i G C).eq (by rw[S];show b) j]
 show XY (sA λr c=>g _ _) (Bt B (by lia))
theorem Ea{n:Nat}{M:Mx}{r:Nat}(P:r<n)(a:Nat->Int)(E:Nat->Nat->Int):∀m,det n (put M r λc=>su m λl=>a l*E l c)=su m λl=>a l*det n (put M r (E l))
 | 0=>by
   have h:=iM (M:=put M r λc=>su 0 λl=>a l*E l c) 0 0 P (λi c h=>dN _ _ _ h) (λi c h=>dN _ _ _ h) (λc=>by rw[dM];simp[su])
   rw[h];change 0*det n M+0*det n M=0
   lia
 | m+1=>by
   have h:=iM (M:=put M r λc=>su (m+1) λl=>a l*E l c) (A:=put M r λc=>su m λl=>a l*E l c) (B:=put M r (E m)) 1 (a m) P (λi c h=>by rw[dN _ _ _ h,dN _ _ _ h]) (λi c h=>by rw[dN _ _ _ h,dN _ _ _ h]) (λc=>by
    rw[dM,dM,dM];change su m (λl=>a l*E l c)+a m*E m c=1*su m (λl=>a l*E l c)+a m*E m c
    lia)
   rw[h,Ea P a E m];change 1*su m _+a m*_=su m _+a m*_
   lia
def un(l c:Nat):Int:=if c=l then 1 else 0
def mul(n:Nat)(A B:Mx):Mx:=λr c=>su n λl=>A r l*B l c
def LF{n l:Nat}(S:l<n)(f:Nat->Int):su n (λc=>un l c*f c)=f l:=by
 rw[uf S λi _ g=>by unfold un;rw[XH g,Q!]]
 unfold un;rw[XI rfl,ZY]
def QK{n c:Nat}(L:c<n)(f:Nat->Int):su n (λl=>f l*un l c)=f c:=by
 rw[uf L λi _ g=>by unfold un;rw[XH (Yy g),P!]]
 unfold un;rw[XI rfl,Int.mul_one]
theorem LG:∀n,pr n un=1
 | 0=>rfl
 | n+1=>by
   change un 0 0*pr n (λr c=>un (r+1) (c+1))=1
   have e:(λr c=>un (r+1) (c+1))=un:=by
    funext r c
    unfold un
    by_cases h:c=r
    .rw[XI h,XI (by lia)]
    .rw[XH h,XH (by lia)]
   rw[e,LG n];rfl
def Gr(n:Nat):det n un=1:=by
 rw[Gn λr c _ L=>by unfold un;rw[XH (by lia)],LG]
def off(f:Nat->Nat):Nat->Nat
 | 0=>0
 | n+1=>off f n+if f n=n then 0 else 1
theorem Bu{f:Nat->Nat}:∀{n:Nat},off f n=0->∀i,i<n->f i=i
 | 0,_,i,h=>by lia
 | n+1,h,i,F=>by
   have M:off f n+(if f n=n then 0 else 1)=0:=h
   by_cases e:f n=n
   .by_cases D:i=n
    .rw[D,e]
    .show Bu (n:=n) (by lia) i (by lia)
   .rw[XH e]at M;lia
def DV{f g:Nat->Nat}{n k:Nat}(R:k<n)(G:f k≠k)(C:g k=k)(h:∀i,i<n->f i=i->g i=i):off g n<off f n:=by
 have a:∀m,m<=n->off g m<=off f m:=λm=>by
  induction m with
  | zero=>show λ_=>XJ _
  | succ m O =>
    intro d;change off g m+_<=off f m+_;have:=O (by lia)
    by_cases e:f m=m
    .rw[XI e,XI (h m (by lia) e)];lia
    .rw[XH e];split<;>lia
 have J:∀m,m<=n->k<m->off g m<off f m:=λm=>by
  induction m with
  | zero=>lia
  | succ m O =>
    intro d b;change off g m+_<off f m+_
    by_cases e:k=m
    .subst e;rw[XI C,XH G];have:=a k (by lia)
     lia
    .have:=O (by lia) (by lia)
     by_cases E:f m=m
     .rw[XI E,XI (h m (by lia) E)];lia
     .rw[XH E];split<;>lia
 show J n (XJ _) R
theorem qL{n:Nat}(B:Mx):∀(d:Nat) (f:Nat->Nat),off f n<=d->(∀i,i<n->f i<n)->det n (λr c=>B (f r) c)=det n (λr c=>un (f r) c)*det n B
 | 0,f,h,Y=>by
   have e:=Bu (n:=n) (f:=f) (by lia)
   rw[bG λr c P _=>by rw[e r P],bG (M:=λr c=>un (f r) c) λr c P _=>by rw[e r P],Gr]
   lia
 | d+1,f,h,Y=>by
   by_cases U:off f n=0
   .show qL B 0 f (by lia) Y |>.trans rfl
   by_cases w:∃i j,i<n/\j<n/\i≠j/\f i=f j
   .revert w;show bD λi j F o g e=>?_
    rw[i7 F o g λc=>by rw[e],i7 F o g λc=>by rw[e]]
    lia
   .have q:∃k,k<n/\f k≠k:=YI λz=>U (by
     have e:∀i,i<n->f i=i:=λi F=>YI λy=>z (ae i F y)
     have W:∀m,m<=n->off f m=0:=λm=>by
      induction m with
      | zero=>show λ_=>rfl
      | succ m O=>show λa=>by change off f m+_=0;rw[O (by lia),XI (e m (by lia))]
     show W n (XJ _))
    revert q;show ah λk R b=>?_
    have a:=Y k R;have N:f (f k)≠f k:=λz=>w (aM (f k) k a R b z)
    let g:Nat->Nat:=λi=>if i=f k then f k else if i=k then f (f k) else f i
    have m:g (f k)=f k:=XI rfl;have o:=DV a N m λi F e=>by
     change(if i=f k then f k else if i=k then f (f k) else f i)=i
     by_cases G:i=f k
     .rw[XI G,G]
     .rw[XH G]
      by_cases C:i=k
      .rw[C]at e;show absurd e b
      .rw[XH C,e]
    have y:∀i,i<n->g i<n:=λi F=>by
     change(if i=f k then f k else if i=k then f (f k) else f i)<n
     split
     .show a
     .split
      .show Y _ a
      .show Y i F
    have O:=qL B d g (by lia) y
    have l:∀X:Mx,det n (λr c=>X (g r) c) = - det n (λr c=>X (f r) c):=λX=>by
     rw[<-LC R a (Yy b)];show bG λr c _ _=>?_
     change X (if r=f k then f k else if r=k then f (f k) else f r) c=_
     unfold sw put
     by_cases G:r=f k
     .rw[XI G,XI G]
     .rw[XH G,XH G]
      by_cases C:r=k
      .rw[XI C,XI C]
      .rw[XH C,XH C]
    rw[l B,l un]at O
    grind
theorem Bv{n:Nat}(B:Mx):∀(k:Nat) (A:Mx) (f:Nat->Nat),k<=n->(∀i,i<n->f i<n)->(∀i,k<=i->i<n->A i=un (f i))->det n (mul n A B)=det n A*det n B
 | 0,A,f,_,Y,Z=>by
   have e:=qL B (off f n) f (XJ _) Y;rw[bG (M:=A) λr c P _=>by rw[Z r (by lia) P],<-e]
   show bG λr c P _=>?_
   change su n (λl=>A r l*B l c)=B (f r) c
   rw[Z r (by lia) P]
   show LF (Y r P) λl=>B l c
 | k+1,A,f,R,Y,Z=>by
   have J:det n A=su n λl=>A k l*det n (put A k (un l)):=by
    rw[<-Ea (by lia) (A k) un n]
    show bG λr c _ L=>?_
    by_cases h:r=k
    .subst h;rw[dM,QK L]
    .rw[dN _ _ _ h]
   have D:det n (mul n A B)=su n λl=>A k l*det n (put (mul n A B) k (B l)):=by
    rw[<-Ea (by lia) (A k) B n]
    show bG λr c _ L=>?_
    by_cases h:r=k
    .subst h;rw[dM];rfl
    .rw[dN _ _ _ h]
   have E:su n (λl=>A k l*det n (put (mul n A B) k (B l)))=su n (λl=>det n B*(A k l*det n (put A k (un l)))+0*0):=bJ λl S=>by
    have t:k<=n:=by lia
    have O:=Bv B k (put A k (un l)) (λi=>if i=k then l else f i) t (λi F=>by change(if i=k then l else f i)<n;split;show S;show Y i F) (λi G C=>by
     funext c
     by_cases h:i=k
     .subst h;rw[dM,XI rfl]
     .rw[dN _ _ _ h,XH h,Z i (Nat.lt_of_le_of_ne G (Yy h)) C])
    have y:det n (put (mul n A B) k (B l))=det n (mul n (put A k (un l)) B):=bG λr c _ _=>by
     by_cases h:r=k
     .subst h;rw[dM];change _=su n λx=>put A r (un l) r x*B x c
      rw[show(λx=>put A r (un l) r x*B x c)=λx=>un l x*B x c from by funext x;rw[dM]]
      show(LF S λx=>B x c).symm
     .rw[dN _ _ _ h];show bJ λx _=>by rw[dN _ _ _ h]
    rw[y,O]
    grind
   rw[D,E,iF (det n B) 0 _ (λ_=>0),J]
   grind
def Gs(n:Nat)(A B:Mx):det n (mul n A B)=det n A*det n B:=Bv B n A id (XJ _) (λ_ h=>h) (λi G C=>by lia)
end Dt
namespace L2
open PySem PySem.Spec PyProof.Rows
abbrev VF(N:List Str)(k:Nat)(s:Stmt):=ez N (N.take k) (aP s)
section
variable {X:Cx}{e e' : Expr}{te VG:TE}
def bq(C:PE X e te)(W:12#([e])=29#e::12#([]):=by rfl):PA X [e] (Fz te Pw):=bU C eF W
def bT(C:PE X e te)(Z:PE X e' VG)(W:12#([e,e'])=29#e::12#([e']):=by rfl)(R:12#([e'])=29#e'::12#([]):=by rfl):PA X [e,e'] (Fz te (Fz VG Pw)):=bU C (bU Z eF R) W
def dm{i j pos q}(K:b7)(C:PE X e te)(h:X.K=K:=by rfl):PE X (.Subscript e (.Constant (.int i) j q) pos) (Pp (MR K) te (tC (.int i))):=bR (MW K h) C av
def qM{i j pos q}(K:b7)(C:PE X e te)(h:X.K=K:=by rfl):PE X (.Subscript e (.Constant (.int i) j q) pos) (Pp (MQ K) te (tC (.int i))):=bR (gA K h) C av
def bH{x:Str}{l Q:Pos}(i:Nat)(o:X.N.Nodup)(n:PE X e te)(F:X.N[i]?=some x:=by show rfl)(B:Loc X.env.scope x:=by show Or.inl rl)(W:swapsWith e (some (.Name x Q)) l.line X.env=pure false:=by rfl)(Y:X.fn x=true\/31#x:=by show 117):
 PS X (.Assign [.Name x Q] e l) (Po te (Fi i)):=e9 o F B n W Y
def dF{scope g:Scope}{own fq N i:List Str}{js:List Nat}(S:ez N i g)(G:X.env.scope=g:=by rfl)(C:X.N=N:=by rfl)(h:sX scope g N fq js=true:=by decide +kernel):eL X scope own fq js:=Av g N G C h
end
def fY:vC (a::l) 0=some a:=aG rfl
def fT:vC (a::b::l) 1=some b:=aG rfl
def zk:isSubtype (.type "str") (.type "str")=pure true:=by rw[isSubtype_type];kernel_rfl
def zl:fX X (.type "str") (λxs H Q=>∃x,xs=[.str x]/\Q (.str x) H):=by
 intro b s U H xs g Q I r h
 revert h;show ah λx a q=>?_;subst a
 show ah (λu f=>eu λt C=>?_) (vals1 r);subst f C
 show callType_newIn F.called_str 4#0 (F.typeCall_str_1 _) (F.newCall_str_1 _) (λi=>F.args_object_init_2 i _) F.entry_str_new (S:=λA R s=>R (.ok (.ret (.str x t))) s) (.of_wp λA R s h=>?_) 25#(ao (.str x) _ I 110#0 q)
 have Z:=zk
 show 93
 show ae _ rl h
def o9:fX X (.type "str") (λxs H Q=>(∃i,xs=[.int i]/\i.natAbs.log2<1920/\Q (.str (toString i)) H)\/∃x,xs=[.str x]/\Q (.str x) H):=by
 intro A s U H xs g Q I r h;rcases h with h|h
 .show gG A s U H xs g Q I r h
 .show zl A s U H xs g Q I r h
def LH(P:Program)(w:World)(K:b7)(d:Addr)(J:List (Str×Addr)):Prop :=
 ∃o N,K.lookup d=some o/\PySem.W.KdkAt (strKind P w) o (J.map λp=>(p.1,Value.ref p.2)) N
theorem pe(x)(f):∀J:List (Str×Addr),J.lookup x=some f->valueAt (J.map λp=>(p.1,Value.ref p.2)) x=some (Value.ref f)
 | (k,g)::r,h=>by
   unfold valueAt;rw[Yd,Zv]
   by_cases e:k=x
   .subst e;rw[r!]at h;cases h;simp
   .have D:=beq_false_of_ne λz=>e z.symm
    rw[Y0,D]at h;simp only[e,decide_false];show pe x f r h
def LI{w:World}{K:b7}{l:List (Str×Tok×Addr)}(h:K.lookup d=some ⟨.type "dict",none,.dict (l.map λp=>⟨PyData.keyHash w.params p.1,.str p.1 p.2.1,.ref p.2.2⟩).toArray N,#[]⟩)(i:(l.map (·.1)).Nodup):
 LH P w K d (l.map λp=>(p.1,p.2.2)):=by
 show fj _ N (b9 h _ (fE (bh rl rl rl) rl (λe n=>?_) ?_ ?_))
 .simp only[List.mem_toArray,XT]at n
  revert n;show ah λp _ U=>?_;subst U
  show ae p.1 (show Value.isStrOf p.1 (.str p.1 p.2.1)=true by simp[Value.isStrOf]) rfl
 .clear h i
  induction l with
  | nil=>show .nil
  | cons p r O=>show .cons (show Value.isStrOf p.1 (.str p.1 p.2.1)=true by simp[Value.isStrOf]) rfl O
 .rwa [YC,YC]
def SA(J:List (Str×Addr))(l:TE):TE:=λU H Q=>l U H λy N=>∃x f,y = .str x/\J.lookup x=some f/\Q (.ref f) N
def QL(C:Addr->Sp->Prop)(E:XK)(b:TE)(t:TA):TE:=λU H Q=>b U H λy N=>∃f a,y = .ref f/\C f a/\t U N λY O=>a Y O Q E
section
variable {X:Cx}{d:Addr}{kvs:List (Str×Addr)}{a b e:Expr}{es:List Expr}{ty tf:TE}{t:TA}{pos p:Pos}{C:Addr->Sp->Prop}{E:XK}
def QM(j:LH X.prog X.w X.K d kvs)(g:PE X a (tC (.ref d)))(Z:PE X b ty)(W:Ni b:=by show λ_ _=>rfl):PE X (.Subscript a b pos) (SA kvs ty):=by
 show 63;show za S!.lookup W (dW (g A s U H (λx N=>x = .ref d/\SA kvs ty U N Q) I ⟨rfl,h⟩) λu w=>bD λx N J c q P=>?_)
 show dW (Z A w U N _ J P) λR M=>aA λy O e L=>aA λz f B Y E=>?_
 subst q B;obtain rfl:u=Value.ref d:=c;obtain⟨k,rfl⟩:=L
 revert j;show aR λo l S p=>?_
 have i:=(p.dictAt (e.sI d o S)).dictOf;show⟨i.typeIs,wpAny_getItem_of (show Value.isStrOf z (.str z k)=true by simp[Value.isStrOf]) i.mapOf (pe z f kvs Y) (ao (.ref f) O (e.tok _) rl E)⟩
def LJ{r:Nat}(P:eB r X.A)(l:∀f sp,C f sp->∃k fd i,k<=r/\je X.prog X.w X.K X.mg X.base qg k f fd i sp/\55#X.K/\Binds X.K fd i [])(B:Passes qg X E)
 (x:PE X (.Subscript a b p) tf) (v:PA X (e::es) t) (n:12#(e::es)=29#e::12#es:=by rfl) (c:(backTo pos (12#es)).any (·.1)=false:=by rfl) :
 PE X (.Call (.Subscript a b p) (e::es) [] pos) (QL C E tf t):=by
 show 63;show aW (dW 37#x λu w=>aA λy N J L=>aA λf sp m o z=>?_)
 subst m;obtain rfl:u=Value.ref f:=L;show eu (λk=>bD λfd i d F R Z=>?_) (l f sp o)
 show C! J.ok.mod.Pe R (dW (v pos A w U N _ J z) λg M=>aA λY O j r q=>⟨j.sI,?_⟩) n c
 show JG F (P.mono d) Z .nil B j r (by rw[YU];show q)
end
def lZ(P:Program)(w:World)(h:Heap)(k:Str×List Int)(a:Addr):Prop :=
 ∃o n t b,118#o/\o.cls = .type "tuple"/\o.data = .seq #[.str k.1 t,.ref b] n/\78#k.1/\IsTupleKey (intKind P w) h k.2 b
def NR(B:lZ P w h x a)(W:lZ P w h y a):x=y:=by
 revert B;show eu λo=>bV λn t b g _ d _ i=>?_
 revert W;show eu λf=>bV λm k j M _ U _ c=>?_
 rw[g]at M;cases M;rw[d]at U;injection U with U _
 simp only[Array.mk.injEq,List.cons.injEq,Value.str.injEq,Value.ref.injEq,and_true]at U;obtain⟨⟨e,_⟩,rfl⟩:=U;show Prod.ext e ((tupleKind (intKind P w)).inj i c)
def Ig(R:lZ P w h k a)(g:h.get? d=some o)(j:o.data = .dict W N)(D:Heap.SameBut d h h'):lZ P w h' k a:=by
 revert R;show eu λf=>bV λn t b M c U B i=>?_
 show bO f n t b ?_ c U B ((tupleKind (intKind P w)).keeps i g j D);have T:a≠d:=λz=>by rw[z,g]at M;cases M;rw[j]at U;cases U
 show(D.2 a T).trans M
def xN{s:Shared}(g:s.heap.get? a=some o)(c:o.cls = .type "tuple")(d:o.data = .seq k m)
 (h:∀y∈k.toList,∀Q:Bool->Shared->Prop,Q true s->80#(eqIsQuiet n y)) (q:Q true s):80#(eqIsQuiet (n+1) (.ref a)):=by
 have l:s.TypeIs (.ref a) "tuple":=ae o g c;unfold eqIsQuiet;show aW (wpAny_specialOf l PySem.F.slot_tuple_eq.lookup ?_);show aW (wpAny_isInstance l sub_tuple_self ?_);show aW (wpAny_seqItems g d ?_);show aW (wpAny_forIn_array' _ (λJ b G=>G=s/\b=(none,())/\∀y∈J,y∈k.toList) _ (λy J b G e=>?_) (λb G e=>?_) _ _ (bh rfl rfl (λy W=>W)))
 .revert e;show c5 λU f i=>?_;subst U f
  show aW (h y (i y (.head _)) _ (XN (bh rl rl (λz j=>i z (.tail _ j)))))
 .revert e;show c5 λC r _=>?_;subst C r
  show XN q
def xO(h:carriedByValue v=true)(q:Q true s):80#(eqIsQuiet n v):=by
 rw[eqIsQuiet_byValue _ h];show XN q
def Ih{s:Shared}(R:lZ P w s.heap k a)(q:Q true s):80#(eqIsQuiet 8 (.ref a)):=by
 revert R;show eu λo=>bV λn t b g c d _ i=>?_
 show xN g c d (λy W Q q=>?_) q
 rcases XS.mp W with rfl|W
 .show xO rl q
 obtain rfl:=XU.mp W
 revert i;show eu λF=>bD λN m e X S p=>?_
 show xN e X S (λy W Q q=>?_) q
 clear S;generalize N.toList=l at p W;generalize k.2=Z at p
 induction p with
 | nil=>cases W
 | cons h _ O =>
   rcases XS.mp W with rfl|W
   .show xO ((intKind P w).byValue _ _ h) q
   .show O W
def LK{A:Around}{s:Shared}(r:A.units+1<cLine)(p:lZ P w s.heap k a)
 (q:Q (reduceHash (Builtin.Tuple.tupleHashOf [hashStr w k.1,tupleKeyHash (intKind P w) k.2])) { s with toks:=s.toks+(1+(k.2.length+1)+1)}):80#(pyHash (.ref a)):=by
 rw[73#(s.toks+(1+(k.2.length+1)+1)=s.toks+1+(k.2.length+1)+1)]at q
 revert p;show eu λo=>bV λn t b g c d _ i=>?_
 have l:s.TypeIs (.ref a) "tuple":=ae o g c;show aW (wpAny_cRoomFor (by lia) ?_)
 show aW (wpAny_specialOf l Z8.lookup ?_);rw[XH 4#0]
 show aW (wpAny_specialOf l Z8.lookup ?_);rw[XH 4#0]
 show aW (wpAny_callSpecialIfBoundUnlessNone?_slot l Z8 (call_meetsIn (S:=λA R j=>A.units+1<cLine/\j=s/\R (.ok (.ret (.int (Builtin.Tuple.tupleHashOf [hashStr w k.1,tupleKeyHash (intKind P w) k.2]) (s.toks+1+(k.2.length+1))))) { s with toks:=s.toks+1+(k.2.length+1)+1}) Z8 l PySem.F.entry_tuple_hash (PySem.F.args_tuple_hash_1 _) (.of_wp λA R j h=>?_) (bh r rl ?_)))
 .revert h;show c5 λf u h=>?_;subst u
  show 93
  rw[d];show XN (XN (aW (wpAny_forIn_array' _ (λJ W G=>(J=[.str k.1 t,.ref b]/\W = #[]/\G=j)\/(J=[.ref b]/\W = #[hashStr w k.1]/\G={ j with toks:=j.toks+1})\/
   (J=[]/\W = #[hashStr w k.1,tupleKeyHash (intKind P w) k.2]/\G={ j with toks:=j.toks+1+(k.2.length+1)})) _ (λy J W G m=>?_) (λW G m=>?_) _ _ (.inl (bh rl rl rl)))))
  .rcases m with⟨e,rfl,rfl⟩|⟨e,rfl,rfl⟩|⟨e,_⟩
   .cases e;show aW ((strKind P w).pyHash (show Value.isStrOf k.1 (.str k.1 t)=true by simp[Value.isStrOf]) (XN (.inr (.inl (bh rl rl rl)))))
   .cases e;show aW (wpAny_pyHash_tuple (by change A.units+1<cLine;show f) i (XN (.inr (.inr (bh rl rl rl)))))
   .cases e
  .rcases m with⟨e,_⟩|⟨e,_⟩|⟨_,rfl,rfl⟩
   .cases e
   .cases e
   .show wpAny_ret_mkInt h
 .change wpAny _ _ (pyHashByItsType.reduced _) _ _ _;unfold pyHashByItsType.reduced;unfold reduceHash at q
  split
  .rename_i c
   rw[XI c]at q;show XN q
  .rename_i c
   rw[XH c]at q
   show 93
def Eb{Z:List Int}{Y:62#0}(H:ItemsAre (intKind P w) Z Y):∃as,ReadsAll h Y (Z.map .int) as:=by
 induction H with
 | nil=>show⟨_,.nil⟩
 | cons a t O =>
   obtain⟨as,r⟩:=O
   rename_i k v _ _
   cases v with
   | int i D =>
     obtain rfl:i=k:=by
      have:Value.isInt k (.int i D)=true:=a
      simpa[Value.isInt]using this
     show⟨_,.cons (.int _ _) r⟩
   | _=>show absurd a (by simp[intKind,Value.isInt])
def xP(R:lZ P w h k a):∃as,Reads h (.ref a) (.tuple [.str k.1,.tuple (k.2.map .int)]) as:=by
 revert R;show eu λo=>bV λn t b g c d _=>eu λF=>bD λN m e X S p=>?_
 obtain⟨as,r⟩:=Eb p;show⟨_,.tuple g c d (.cons (.str _ _) (.cons (.tuple e X S r) .nil))⟩
theorem Bw:∀ns U:List Int,PyData.eqvAll (ns.map .int) (U.map .int)=decide (ns=U)
 | [],[]=>rfl
 | [],_::_=>rfl
 | _::_,[]=>rfl
 | x::ns,y::U=>by
   rw[Yd,Yd];change((x==y)&&PyData.eqvAll (ns.map .int) (U.map .int))=9#(x::ns=y::U);rw[Bw ns U,YG];simp
def Gu{k:Str×List Int}(B:78#k.1):(PyData.tuple [.str k.1,.tuple (k.2.map .int)]).canLay0=true/\(PyData.tuple [.str k.1,.tuple (k.2.map .int)]).depth<=2:=by
 have h:PyData.canLayAll0 (k.2.map .int)=true/\PyData.depthAll (k.2.map .int)=0:=by
  induction k.2 with
  | nil=>show⟨rfl,rfl⟩
  | cons x r O=>simp[PyData.canLayAll0,PyData.depthAll,PyData.canLay0,PyData.depth,O]
 simp[PyData.canLay0,PyData.canLayAll0,PyData.depth,PyData.depthAll,h,B]
def QN{A:Around}{s:Shared}(r:A.units+2<cLine)(B:lZ P w s.heap x a)(W:lZ P w s.heap y b)(q:Q (decide (x=y)) s):
 80#(eqBool (.ref a) (.ref b)):=by
 obtain⟨D,c⟩:=xP B;obtain⟨f,L⟩:=xP W;obtain⟨d,p⟩:=Gu (let⟨_,_,_,_,_,_,_,ok,_⟩:=B;ok);show SeqAt.eqBoolOverData P w A E s _ _ _ _ _ _ Q c L d (Gu (let⟨_,_,_,_,_,_,_,ok,_⟩:=W;ok)).1 (by lia) ?_
 rw[show PyData.eqv (.tuple [.str x.1,.tuple (x.2.map .int)]) (.tuple [.str y.1,.tuple (y.2.map .int)])=((x.1==y.1)&&(PyData.eqvAll (x.2.map .int) (y.2.map .int)&&true)) from rfl,Bw,l!]
 rwa [show((x.1==y.1)&&9#(x.2=y.2))=decide (x=y) by rw[YG];simp[Prod.ext_iff]]
def Gv(P)(w):HeapKind P w (Str×List Int) where
 is:=lZ P w
 hash k:=reduceHash (Builtin.Tuple.tupleHashOf [hashStr w k.1,tupleKeyHash (intKind P w) k.2])
 draws k:=1+(k.2.length+1)+1
 room A:=A.units+65<cLine
 inj:=NR
 keeps:=Ig
 pyHash hu hk q:=LK (by lia) hk q
 eqBool hu hx hy q:=QN (by lia) hx hy q
 quiet:=Ih
abbrev Ask:=Str×List Int
abbrev Bx:=Ask×Addr×Str
def LL(p:Bx)(q:Ask×Addr×Value):Prop:=p.1=q.1/\p.2.1=q.2.1/\ο (.str p.2.2) q.2.2
def By(P:Program)(w:World)(a:Addr)(Z:List Bx):HO:=.ext λh=>33#Z.length/\(a==sysModules)=false/\∃f,Paired LL Z f/\∃o W N,118#o/\o.ExactDict/\o.data = .dict W N/\W.toList=f.map (entryOfKey (Gv P w))
def vI(H:Hp)(k:Ask)(b:Addr):Prop:=78#k.1/\∃c,H b=17#([.str k.1,.ref c])/\H c=17#(k.2.map V.int)
structure pA(P:Program)(w:World)(H:Hp)(a:Addr)(ks:List Bx):Prop where
 at_:H a=some (By P w a ks)
 keys:∀p∈ks,vI H p.1 p.2.1
 nd:(ks.map (·.1)).Nodup
theorem uh:∀{ns} {its},ξ (ns.map V.int) its->ItemsAre (intKind P w) ns its
 | [],_,.nil=>.nil
 | n::_,_,.cons h r=>by
   obtain⟨t,rfl⟩:=h;show .cons (show Value.isInt n (.int n t)=true by simp[Value.isInt]) (uh r)
def vI.is(x:lC P w H h)(e:vI H k b):lZ P w h k b:=by
 revert e;show bE λB c J D=>?_
 show bE (λ_ N r=>dI λo g Z n d=>?_) (x b _ J)
 show bE (λ_ f p=>dI λF a X T S=>?_) (x c _ D)
 cases r with
 | cons G r =>
 cases r with
 | cons C r =>
 cases r;obtain⟨t,rfl⟩:=G;cases C;show bO o n t c g Z d B ⟨F,(aM _ T a X S (uh p))⟩
def vI.up(h:vI H k b)(e:H a=some (.ext d)):vI (η H a o) k b:=by
 revert h;show bE λB c J D=>?_
 show bX B c ?_ ?_
 .rw[aq (cC J e (λz=>nomatch z))];show J
 .rw[aq (cC D e (λz=>nomatch z))];show D
def rP(Z:List Bx)(k:Ask):Option Str:=(Z.find? λp=>9#(p.1=k)).map (·.2.2)
def Gw{Z:List Bx}{xs:List (Ask×Addr×Value)}(h:Paired LL Z xs):xs.map (·.1)=Z.map (·.1)/\∀x∈xs,∃p∈Z,p.1=x.1/\p.2.1=x.2.1:=by
 induction h with
 | nil=>show 25#(λ_ h=>by cases h)
 | cons h r O =>
   obtain⟨G,C⟩:=O;show⟨by rw[Yd,Yd,G,h.1],λy W=>?_⟩
   rcases XS.mp W with rfl|W
   .show au _ (.head _) h.1 h.2.1
   .show ah (λq T e=>?_) (C y W)
    show ae q (.tail _ T) e
theorem sC(k):∀{ks} {xs},Paired LL ks xs->(rP ks k=none/\atKey xs k=none)\/∃s b v,rP ks k=some s/\atKey xs k=some (b,v)/\ο (.str s) v
 | _,_,.nil=>.inl ⟨rfl,rfl⟩
 | p::ps,x::xs,.cons h r=>by
   unfold rP atKey;rw[Zv,Zv]
   by_cases e:p.1=k
   .have D:=h.1.symm.trans e;simp only[e,D,decide_true];show .inr ⟨_,(ao _ _ rl rl h.2.2)⟩
   .have D : ¬ x.1=k:=λz=>e (h.1.trans z)
    simp only[e,D,decide_false];show sC k r
section
variable  {pq:cM}{σ:St}
def pA.of(I:5#H)(d:pA X.prog X.w H a Z):33#Z.length/\(a==sysModules)=false/\∃xs,Paired LL Z xs/\s.heap.DictOfH (Gv X.prog X.w) a xs:=by
 obtain⟨⟨z,j,xs,n,o,W,N,G,C,l,E⟩,_⟩:=(I.hok a _ d.at_);obtain⟨R,b⟩:=Gw n;show bj z j xs n ⟨o,(aQ W N G C l E (λx B=>?_) (by rw[R];show d.nd))⟩
 show az (λp t J D=>?_) (b x B)
 rw[<-J,<-D];show(d.keys p t).is I.hok
end
def SD(P:Program)(w:World):TE:=λ_ H Q=>∀p,H p=none->Q (.ref p) (η H p (By P w p []))
def NS(P:Program)(w:World)(l p:TE):TE:=λU H Q=>l U H λy N=>p U N λx O=>∃a b k Z,x = .ref a/\y = .ref b/\pA P w O a Z/\vI O k b/\Q (.bl (!(rP Z k).isSome)) O
def SE(P:Program)(w:World)(p l:TE):TE:=λU H Q=>p U H λx N=>l U N λy O=>∃a b k Z z,x = .ref a/\y = .ref b/\pA P w O a Z/\vI O k b/\rP Z k=some z/\Q (.str z) O
def SG(P:Program)(w:World)(p l m:TE):TS:=λD U H=>m U H λv N=>p U N λx O=>l U O λy X=>∃a b k Z z,v = .str z/\x = .ref a/\y = .ref b/\pA P w X a Z/\vI X k b/\rP Z k=none/\Z.length<sizeLine/\
 (pA P w (η X a (By P w a (Z++[(k,b,z)]))) a (Z++[(k,b,z)])->D.nx U (η X a (By P w a (Z++[(k,b,z)]))))
section
variable {X:Cx}{o i value:Expr}{pos pos' : Pos}{td ty tv:TE}
def NT:PE X (.Dict [] [] pos) (SD X.prog X.w):=λA s U H Q I h =>
 wpAny_Dict_empty (ao (23#.ref) _ (I.laid (o:=By X.prog X.w s.heap.objs.size []) (λ_ _ q=>XM _ q) (XJ _)
  (bh (bj (Yo _) (beq_eq_false_iff_ne.mpr (Yy (Yj I.big))) [] .nil ⟨_,(aM (#[]) 0 (X6 _ rl) (bh rl rl rl) rl rl)⟩) ⟨_,X6 _ rfl⟩ (λG C=>bL λz j f n=>cu λo W N P E k=>bj z j f n (eV o W N (k o P) E)))) rl (h _ (I.hok.fresh (XJ _))))
def Ii(r:X.A.in1.units+65<cLine)(F:PE X i ty)(m:PE X o td):PC X .NotIn i o (NS X.prog X.w ty td):=by
 show 63;show dW 37#F λR w=>aA λy N g L P=>?_
 show dW (m A w U N _ g P) λu M=>eu λx=>dI λO Y c a=>bV λb k Z q B d e E=>?_
 subst q B;obtain rfl:u=Value.ref a:=c;obtain rfl:R=Value.ref b:=L;show bL (λz j f n l=>?_) (d.of Y)
 show wpAny_notIn_heap r (e.is Y.hok) j l (ao _ O (Y.tok _) ?_ E);rcases sC k n with⟨J,D⟩|⟨_,_,_,J,D,_⟩
 .rw[J,D];rfl
 .rw[J,D];rfl
def NU(r:X.A.in1.units+65<cLine)(C:PE X o td)(F:PE X i ty)(W:Ni i:=by show λ_ _=>rfl):PE X (.Subscript o i pos) (SE X.prog X.w td ty):=by
 show 63;show za S!.lookup W (dW 37#C λu w=>aA λx N p c P=>?_)
 show dW (F A w U N _ p P) λR M=>aA λy O Y L=>jd λa b k Z z=>eO λq B d e m E=>?_
 subst q B;obtain rfl:u=Value.ref a:=c;obtain rfl:R=Value.ref b:=L;show bL (λ_ j f n l=>?_) (d.of Y)
 rcases sC k n with⟨J,_⟩|⟨G,g,v,J,D,t⟩
 .rw[J]at m;cases m
 .rw[m]at J;cases J;show⟨l.typeIs,wpAny_getItem_heap r (e.is Y.hok) l D (ao (.str z) O (Y.tok _) t E)⟩
def NV(p:X.A.in1.units+65<cLine)(l:PE X o td)(F:PE X i ty)(m:PE X value tv)(W:swapsWith value (some (.Subscript o i pos')) pos.line X.env=pure false:=by rfl):
 PS X (.Assign [.Subscript o i pos'] value pos) (SG X.prog X.w td ty tv):=by
 intro A s U H D I h;show wpAny_Assign_Subscript (dW 37#m λr w=>aA λv N J t P=>dW (l A w U N _ J P) λu M=>aA λx O Y c E=>dW (F A M U O _ Y E) λR q=>aA λy n Q L=>eR λa b k=>aA λZ z e f=>eO λj d D g S q3=>?_) W
 subst e f j;obtain rfl:u=Value.ref a:=c;obtain rfl:R=Value.ref b:=L;show bL (λm j f n c=>?_) (d.of Q)
 have B:33#f.length:=by rw[<-Paired.length n];show m
 have st:storedH f k b r=f++[(k,b,r)]:=by
  rcases sC k n with⟨_,e⟩|⟨_,_,_,e,_⟩
  .unfold storedH;rw[e];rfl
  .rw[g]at e;cases e
 show wpAny_setItem_heap p (D.is Q.hok) c λg e W=>?_
 rw[st]at e
 revert e;show eR λq g c=>eO λT C l m _ h=>?_
 have e:Paired LL (Z++[(k,b,z)]) (f++[(k,b,r)]):=Paired.snoc n (bh rl rl t);show bf U _ (oZ (ob:=By X.prog X.w a (Z++[(k,b,z)])) Q (by rw[d.at_];show True.intro) W ⟨q,T⟩ (bh (bj (by rw[XR];show S) j _ e ⟨q,(aM g c T C l m)⟩) ⟨q,T⟩ (λG C=>bL λz j f n=>cu λo g c P E k=>bj z j f n (eV o g c (k o P) E)))) (q3 ⟨aa,λp t=>?_,?_⟩)
 .rcases Ye.mp t with t|t
  .show(d.keys p t).up d.at_
  .obtain rfl:=XU.mp t;show D.up d.at_
 .rw[(Gw e).1]at h;show h
end
section
variable   {A:Around}  {s:Shared}
def vJ(N:A.handled=some (.ref L))(C:Uc L s.heap)(c:s.heap.IsListIter D l i)(S:s.heap.IsList l k)(F:k.size<=i)
 (y:∀h',Heap.ExtBut D s.heap h'->Q none { s with heap:=h'}):67#(pyNext (.ref D)):=by
 show az (λu a H d=>?_) (id c)
 have t:s.TypeIs (.ref D) "list_iterator":=ae u a H;rw[pyNext];show aW (wpAny_attempt (wpAny_callSpecial?_slot t PySem.slot_listiter_next (wpAny_call_entry PySem.slot_listiter_next t PySem.entry_listiter_next ?_ (PySem.args_listiter_next _))))
 show 93
 rw[d];show dI (λq U j v B=>?_) (id S)
 show XN (XN ?_);rw[XH 21#0]
 show aW (wpAny_field a d rl ?_);show aW (wpAny_seqItems U B ?_);dsimp only;rw[show k[((i:Nat):Int).toNat]?=none by simpa using F]
 show aW (wpAny_rule (aW ?_));show wpAny_setField a d 21#0 ?_
 revert C;show aA λr W p h n=>?_
 have T:D≠L:=λz=>by
  rw[z,p]at a;cases a;rw[h]at d;cases d;simp at n
 have e:(s.heap.update D (Obj.mapFields (·.setIfInBounds 0 Value.none))).get? L=some r:=(YJ _ _ T).trans p;have kp:∀b o,b≠D->18#o->(s.heap.update D (Obj.mapFields (·.setIfInBounds 0 Value.none))).get? b=some o:=λb o Z g=>(YJ _ _ (Yy Z)).trans g
 generalize s.heap.update D (Obj.mapFields (·.setIfInBounds 0 Value.none))=G at e kp;show aW ?_;show aW (wpAny_newObj_type ?_ (by size_fits))
 show aW (wpAny_of_eq (by first | rfl | (simp only[firstArgMember];rfl)) (wpAny_newObj_type ?_ (by size_fits)))
 have J:=XX e;show Dh N ?_ (X6 _ rl) rl (by simp;lia) (ao r W (XM _ (XM _ e)) h n) ?_
 .rw[ZZ];show Yj (Zu J)
 .have m:=X6 (G.push { cls:=.type "tuple",data:=.seq #[]}) (o:={ cls:=.type "StopIteration",data:=.fields (#[.ref G.objs.size,.none,.none,.none,.bool false,.none]++ownMembersOf (.type "StopIteration") [])}) rfl;have x:=YV (Obj.mapFields (·.setIfInBounds 2 (.ref L))) m (ZR (ZN rfl _));show aW (wpAny_isInstance (ae _ x (E! _ _)) isSubtype_stop ?_);show XN (y _ λb o Z g=>?_)
  have M:=kp b o Z g;have f:(G.push { cls:=.type "tuple",data:=.seq #[]}).objs.size≠b:=by
   rw[ZZ];show Zb (Zu (XX M))
  show(YJ _ _ f).trans (XM _ (XM _ M))
end
def NW(H:Hp)(L:Addr):Prop:=∀P w h,lC P w H h->Uc L h
def QO(K:b7)(L a:Addr):It:=⟨(Jp K a).go,(Jp K a).G3,λi H=>(Jp K a).stop i H/\NW H L⟩
def Ec{A:Around}{K:b7}(hh:A.handled=some (.ref b))(a D:Addr):FN A false P w K tg (QO K b a) [D] D (λi h=>h.IsListIter D a i):=by
 have z:=wN (P:=P) (w:=w) (K:=K) (tg:=tg) a D;show⟨z.mem,z.obj,z.keep,?_,?_,z.self⟩
 .intro X g j Q a L i h s U H E I Y st y;subst g j Q
  revert y;show aR λf x T B=>?_
  show 108#(λN O p m=>?_)
  show ah (λu r k=>?_) (O.get B)
  show eO (λG R l F v C=>?_) (Y D 21#0)
  show wpAny_pyNext_list_item st p.isList (by simpa using r) λM q n=>?_
  have J:=I.turned (t':=s.toks) (λb o Z e=>(n.2 b Z).trans e) G R F v C
  show az (λo e c d=>?_) (id q)
  show ae u rl (wM (s:={ s with heap:=M}) e c d 4#0 (cL x H J k 25#(λt W=>by rw[I.lG W T];show B) q (λb Z=>(Y b Z).1)))
 .intro X g j Q a L i h s U H E I Y st y;subst g j Q a;obtain⟨⟨f,T,B⟩,n⟩:=y;show 108#(λN O p m=>?_)
  show eO (λG R l F v C=>?_) (Y D 21#0)
  have S:=O.length;show vJ hh (n _ _ _ I.hok) st p.isList (by simp;lia) λM q=>25#(I.turned (t':=s.toks) (λb o Z e=>q b o Z e) G R F v C)
def NW.WS(h:H L=some (C9 L cls m)):NW H L:=λP w t B=>by
 obtain⟨⟨T,Y,J,_,E,y,_⟩,_⟩:=(B L _ h);show ao T Y J E y
def Ed{K:b7}{xs:List V}{l:St}(d:94#(List V))(J:d 0 [] N)(S:∀i I H,i<=xs.length->d i I H->aH K H a xs/\10#H/\I.length<=i)(hz:33#xs.length)
 (W:∀i x I H,xs[i]?=some x->d i I H->g x (65#n++l) H λk O=>k.drop n=l/\h k O λb X =>
  if b=true then f k X λv c=>10#c/\d (i+1) (I++[v]) (η c D 28#(I++[v])) else d (i+1) I X)
 (j:∀I H,d xs.length I H->NW H L/\Q H):gJ (QO K L a) g h f n l D Q N:=by
 show ae (λi m I H=>m=xs.length-i/\i<=xs.length/\d i I H) (au xs.length 21#0 (Yo _) J) ?_
 intro i m I H;show c5 λU F p=>?_;subst U
 show c5 (λq u r=>?_) (S i I H F p)
 show⟨u,?_⟩
 by_cases Z:i<xs.length
 .show .inr (bj (bf xs (xs[i]) q (by simp[Z])) (by lia) (d (i+1)) (λo M R=>cS (xs.length-(i+1)) (by lia) rl Z R) (λx M y=>?_))
  obtain⟨e,y⟩:=y;subst e;show W i x I _ (y xs q) p
 .have e:i=xs.length:=by lia
  subst e;obtain⟨G,C⟩:=j I H p;show .inl ⟨⟨ae xs q (XJ _),G⟩,C⟩
def QS(K:b7)(L:Addr)(d:TE):TI:=λU H R=>d U H λx N=>∃a,x = .ref a/\(∃f,aH K N a f)/\R (QO K L a) N
def LM{X:Cx}(g:X.A.handled=some (.ref c))(L:X.calm=false)(S:PE X l d):Vo X tg l (QS X.K c d):=by
 intro A s U H R I h;show dW 37#S λv w=>aA λx N J B P=>?_
 revert P;show az λa e i q=>?_;obtain⟨f,T⟩:=i
 subst e;cases B;show az (λj O p m=>?_) (J.list T)
 show wpAny_pyIter_list p.isList ?_;show dU w.heap.objs.size [w.heap.objs.size] _ (aQ _ N rl (J.kept λb o e=>XM _ e) (L.symm▸Ec g a _) ⟨_,X6 _ rfl,rfl,rfl⟩ (λb Z=>?_) q)
 have e:b=w.heap.objs.size:=85#0
 subst e;show J.vA (XJ _) (J.hok.fresh (XJ _))
end L2
namespace RM
section
variable {N:Net}{L:Nat->Int}
def BA(q m m'):N.par q (m^^^m')=(N.par q m^^N.par q m'):=by
 have e:∀a b:Nat,N.par a b=N.par b a:=λa b=>dD λk _=>Bool.and_comm _ _
 rw[e,mL,e m,e m']
theorem Gx:∀{n i},i<n->(∀k,k<n->k≠i->f k=false)->dX f n=f i
 | 0,i,h,_=>absurd h (Y5 _)
 | n+1,i,h,m=>by
   change(dX f n^^f n)=f i
   by_cases e:i=n
   .subst e;rw[g7 λk R=>m k (by lia) (by lia),Bool.false_xor]
   .rw[Gx (73#(i<n)) λk R T=>m k (by lia) T,m n (by lia) (λz=>e z.symm),ZL]
def QT(Z:∀b∈B,N.par b w=false)(h:Sp B x):N.par x w=false:=by
 induction h with
 | zero=>show oY ..
 | add _ d O=>rw[mL,O,Z _ d];rfl
def LN(h:Gi B)(Z:∀b∈B,N.par b w=false)(F:N.par b w=true):Gi (B++[b]) :=
 A9.mpr ⟨h,λz=>by rw[QT Z z]at F;cases F⟩
def NX:Gi []:=λz m _=>by simp at m;show m
structure Wt(N:Net)(bs ws cs:List Nat):Prop where
 lens:ws.length=cs.length
 sum:bs.length+ws.length=N.bZ.length
 ch:∀c∈cs,c<N.n/\N.gY c=false
 lt:∀w∈ws,w<2^N.n
 bits:∀w∈ws,∀k,w.testBit k=true->N.gY k=false
 own:∀(i j w c:Nat),ws[i]?=some w->cs[j]?=some c->w.testBit c=decide (i=j)
 eW:∀w∈ws,∀b∈bs,N.par b w=false
def Wt.odd(h:Wt N f (w::l) y):∃r,N.Ring r/\r<2^N.n/\N.par r w=true:=by
 have S:=h.lens
 match y,S,h with
 | c::y,S,h =>
   obtain⟨Z,X⟩:=h.ch c X0;show au (N.ring c) (qF Z X) (ku Z) ?_;have e:N.par (N.ring c) w=((N.ring c).testBit c&&w.testBit c):=Gx Z λk R T=>by
    cases j:w.testBit k with
    | false=>show Z0 _
    | true =>
      have:=nU X (h.bits w X0 k j);rw[this,fW (λz=>T z.symm)]
      rfl
   rw[e,tu X,h.own 0 0 w c rl rfl];rfl
def Wt.next(h:Wt N p (w::l) y)(F:N.par b w=true):∃c n,y=c::n/\Wt N (p++[b]) (l.map λv=>if N.par b v=true then v^^^w else v) n:=by
 have S:=h.lens
 match y,S,h with
 | c::y,S,h =>
   show bf c y rl ?_;have x:=h.lt w X0;have a:∀v∈l,v∈w::l:=λv z=>nc _ z
   show⟨by rw[XG];simpa using S,?_,λd s=>h.ch d (nc _ s),λo e=>?_,λo e k R=>?_,λi j o d G C=>?_,λo e g q=>?_⟩
   .have:=h.sum;rw[X7]at this;rw[XR,YA,XG]
    lia
   .show ah (λv m U=>?_) (XT.mp e);subst U
    split
    .show Y4 (h.lt v (a v m)) x
    .show h.lt v (a v m)
   .show ah (λv m f=>?_) (XT.mp e);subst f
    split at R
    .rw[X8]at R;cases G:v.testBit k with
     | true=>show h.bits v (a v m) k G
     | false =>
       rw[G,Bool.false_xor]at R;show h.bits w X0 k R
    .show h.bits v (a v m) k R
   .rw[XQ]at G;show ah (λv H A=>?_) (m3.mp G);subst A
    have J:=h.own (i+1) (j+1) v d (by simpa using H) (by simpa using C)
    have D:=h.own 0 (j+1) w d rl (by simpa using C)
    have E:9#(i+1=j+1)=decide (i=j):=YN.mpr (by lia)
    rw[E]at J
    split
    .rw[X8,J,D];simp
    .show J
   .show ah (λv m r=>?_) (XT.mp e);subst r
    rcases Ye.mp q with z|z
    .have u:=h.eW v (a v m) g z;have I:=h.eW w X0 g z
     split
     .rw[BA,u,I];rfl
     .show u
    .rw[XU.mp z]
     split
     .rename_i t
      rw[BA,t,F];rfl
     .rename_i t
      cases T:N.par b v with
      | false=>rfl
      | true=>show absurd T t
def Wt.start(f:N.bZ.Nodup):Wt N [] (N.bZ.map λc=>2^c) N.bZ:=by
 show⟨XG ..,by rw[XG];simp,λc L=>cY.mp L,λw a=>?_,λw a k R=>?_,λi j w c G C=>?_,λw _ b Z=>by cases Z⟩
 .show ah (λc L e=>?_) (XT.mp a);subst e
  show x! 4#0 (cY.mp L).1
 .show ah (λc L d=>?_) (XT.mp a);subst d
  rw[Yi]at R;rw[<-om R];show(cY.mp L).2
 .rw[XQ]at G;show ah (λd e y=>?_) (m3.mp G);subst y
  rw[Yi];show YN.mpr ⟨λz=>?_,λz=>?_⟩
  .subst z;obtain⟨m,E⟩:=jc.mp e;obtain⟨g,S⟩:=jc.mp C;show(d! f).mp (E.trans S.symm)
  .subst z;rw[e]at C;show 13#C
end
variable {N:Net}
def LO{left r:Nat}(Z:r≠0)(X:r<2^N.n)(z:∀k,r.testBit k=true->left.testBit k=true):cnt (λk=>(left^^^r).testBit k) N.n<cnt (λk=>left.testBit k) N.n:=by
 have W:cnt (λk=>left.testBit k) N.n=cnt (λk=>(left^^^r).testBit k) N.n+cnt (λk=>r.testBit k) N.n:=by
  rw[<-tJ λx _ ⟨u,I⟩=>by rw[o6 z,I]at u;simp at u]
  show g9 λj _=>?_
  rw[o6 z];cases o:r.testBit j with
  | false=>simp
  | true=>rw[z j o];rfl
 obtain⟨j,o⟩:=Zn Z;have t:0<cnt (λk=>r.testBit k) N.n:=oW o (fP X o)
 lia
end RM
namespace L2
open PySem PySem.Spec PyProof.Rows
def vq(s:Stmt):Str:=match s with
 | .FunctionDef n _ _ _ _ _ _ _ _ _=>n
 | _=>""
def Ah(s:Stmt):List Str:=(dZ s).args.map (·.arg)
section
variable {K:b7}{mg:vy}{st:Stmt}{f c0 p0:Addr}{fd:FuncData}{N ps:List Str}{h:Heap}{x:Str}
structure Ds(K:b7)(mg:vy)(N:List Str)(st:Stmt)(f:Addr)(fd:FuncData):Prop where
 S:ez N (Ah st) (aP st)
 F:Hh K (vq st) (vq st) st f fd
 c:Dc K mg (vq st) f fd (Ah st)
structure Rt(K:b7)(mg:vy)(N:List Str)(st:Stmt)(f:Addr)(fd:FuncData)(c0 p0:Addr):Prop where
 S:ez N (Ah st) (aP st)
 F:D5 K (vq st) (vq st) st f fd c0 p0
 c:Dc K mg (vq st) f fd (Ah st)
structure Gy(CX:Jq)(P:Program)(w:World)(base:Heap)(_:Dc K mg x f fd ps)(k:Nat)(sp:Sp):Prop where
 ok:je P w K mg base CX k f fd ps sp
def Gy.imp(F:Gy CX P w base D k sp)(h:∀Y H Q E,c Y H Q E->sp Y H Q E):Gy CX P w base D k c:=⟨F.ok.imp h⟩
def Gy.row{CX:Jq}{P:Program}{w:World}{base:Heap}{D:Dc K mg x f fd ps}{k m:Nat}{sp:Sp}(F:Gy CX P w base D k sp)(h:k<=m:=by decide):∃k fd ps,k<=m/\je P w K mg base CX k f fd ps sp/\55#K/\Binds K fd ps []:=⟨_,(aM _ _ h F.ok D.k D.b)⟩
def Ds.ok{P:Program}{w:World}{base:Heap}{k:Nat}{sp:Sp}(D:Ds K mg N st f fd)
 (z:∀(d:Value) (A:Around) (outer:List Env) (s:Shared) (H:Hp) (Y:List V) (Q:VK) (E:XK),ez N (Ah st) (aP st)->eB k (112#(vq st))->sp Y H Q E->
  ∃t,oj (m4 qg P w K mg base N (vq st) (aP st) f d A outer s H E).Jx (cg st) t/\t { nx:=λ_ M=>Q .fg M,rt:=Q} (start N Y) H)
 (len:∀Y H Q E,sp Y H Q E->Y.length=27#(Ah st):=by intro Y H Q E h;repeat first | (obtain⟨rfl,_⟩:=h;show rfl) | obtain⟨_,h⟩:=h):Gy qg P w base D.c (k+1) sp:=⟨D.F.ok D.S len λc A o s H Y Q E=>z c A o s H Y Q E D.S⟩
def Ds.okN(D:Ds K mg N st f fd)(len:∀Y H Q E,sp Y H Q E->Y.length=27#(Ah st))
 (z:∀(d:Value) (A:Around) (outer:List Env) (s:Shared) (H:Hp) (Y:List V) (Q:VK) (E:XK),ez N (Ah st) (aP st)->eB k (112#(vq st))->sp Y H Q E->
  ∃t,oj (m4 qg P w K mg base N (vq st) (aP st) f d A outer s H E).Jx (cg st) t/\t { nx:=λ_ M=>Q .fg M,rt:=Q} (start N Y) H):Gy qg P w base D.c (k+1) sp:=D.ok z len
def Rt.ok{P:Program}{w:World}{base:Heap}{k:Nat}{sp:Sp}(D:Rt K mg N st f fd c0 p0)
 (z:∀(A:Around) (outer:List Env) (s:Shared) (H:Hp) (Y:List V) (Q:VK) (E:XK),ez N (Ah st) (aP st)->eB k (A.deeper (envOfC (vq st) (aP st) s.heap.objs.size f (.ref c0)))->sp Y H Q E->
  ∃t,oj (m4 qg P w K mg base N (vq st) (aP st) f (.ref c0) A outer s H E).Jx (cg st) t/\t { nx:=λ_ M=>Q .fg M,rt:=Q} (start N Y) H)
 (len:∀Y H Q E,sp Y H Q E->Y.length=27#(Ah st):=by intro Y H Q E h;repeat first | (obtain⟨rfl,_⟩:=h;show rfl) | obtain⟨_,h⟩:=h):Gy qg P w base D.c (k+1) sp:=⟨D.F.ok D.S len λA o s H Y Q E=>z A o s H Y Q E D.S⟩
def Ds.S7{P:Program}{w:World}{base:Heap}{k:Nat}{sp:Sp}(D:Ds K mg N st f fd)
 (z:∀(d:Value) (A:Around) (outer:List Env) (s:Shared) (H:Hp) (Y:List V) (Q:VK) (E:XK),ez N (Ah st) (aP st)->eB k (112#(vq st))->sp Y H Q E->
  ∃t,oj (m4 (CQ P w) P w K mg base N (vq st) (aP st) f d A outer s H E) (cg st) t/\t { nx:=λ_ M=>Q .fg M,rt:=Q} (start N Y) H)
 (len:∀Y H Q E,sp Y H Q E->Y.length=27#(Ah st):=by intro Y H Q E h;repeat first | (obtain⟨rfl,_⟩:=h;show rfl) | obtain⟨_,h⟩:=h):Gy (CQ P w) P w base D.c (k+1) sp:=⟨D.F.S7 D.S len λc A o s H Y Q E=>z c A o s H Y Q E D.S⟩
inductive Ef(K:b7)(tp:Nat->Stmt):List Nat->Prop
 | nil:Ef K tp []
 | cons {i:Nat} {r:List Nat} {f:Addr} {fd:FuncData}:Dk K (vq (tp i)) (tp i) f fd->Ef K tp r->Ef K tp (i::r)
def Ef.ex(f:Addr)(fd:FuncData):∀{L},Ef K r L->∃(a:Nat->Addr) (b:Nat->FuncData),∀i∈L,Dk K (vq (r i)) (r i) (a i) (b i)
 | _,.nil=>fj (λ_=>f) (λ_=>fd) λ_ z=>nomatch z
 | _,.cons (i:=j) (f:=g) (fd:=e) d t=>by
   obtain⟨a,b,h⟩:=Ef.ex f fd t;show fj (λi=>if i=j then g else a i) (λi=>if i=j then e else b i) λi F=>?_
   by_cases q:i=j
   .subst q
    simpa using d
   .simpa[q]using h i ((XS.mp F).resolve_left q)
def dz{L:List Nat}{r:Nat->Stmt}{a:Nat->Addr}{b:Nat->FuncData}{i:Nat}(X:K.In h)(G:h.Ns mainGlobals mg)(T:∀i∈L,Dk K (vq (r i)) (r i) (a i) (b i))(F:i∈L:=by decide)(S:ez N (Ah (r i)) (aP (r i)):=by trivial)
 (Z:∀g:62#0,g.length=27#(Ah (r i))->Bn (vq (r i)) (r i) (Ah (r i)) g:=by first | show VC (by intros;show λ_ _ _ _ _ _=>rfl) | show VD (by intros;show λ_ _ _ _ _ _=>rfl) | show VE (by intros;show λ_ _ _ _ _ _=>rfl) | show WR (by intros;show λ_ _ _ _ _ _=>rfl) | show bn5 (by intros;show λ_ _ _ _ _ _=>rfl)):Ds K mg N (r i) (a i) (b i) :=
 ⟨S,(T i F).F,PySem.W.mg_of X G (T i F).n,(T i F).F.kp,(T i F).F.binds (O4 Z)⟩
def VH(X:K.In h)(G:h.Ns mainGlobals mg)(D:Th K (vq st) st f fd c0 p0)(S:ez N (Ah st) (aP st):=by trivial)
 (Z:∀g:62#0,g.length=27#(Ah st)->Bn (vq st) st (Ah st) g:=by first | show VC (by intros;show λ_ _ _ _ _ _=>rfl) | show VD (by intros;show λ_ _ _ _ _ _=>rfl) | show VE (by intros;show λ_ _ _ _ _ _=>rfl)):Rt K mg N st f fd c0 p0 :=
 ⟨S,D.F,PySem.W.mg_of X G D.n,D.F.kp,D.F.binds (O4 Z)⟩
def n5(a:109#0=91#(.ref f))(b:109#0=91#(.ref g)):g=f:=by
 rw[a]at b;cases b;rfl
end
@[elab_as_elim] theorem fresh{P:Hp->Prop}(X:Hp)(e:X=η H l o)(c:H l=none)(k:∀G,aj H G->G l=some o->P G):P X:=by
  subst e;show k _ (aj.new c) aa
section
variable {X:Cx}
def O6{CX:Jq}{k r:Nat}{f:Addr}{fd:FuncData}{i:List Str}{sp:Sp}{x:Str}{E:XK}{e:Expr}{W:List Expr}{t:TA}{p l:Pos}{D:Dc X.K X.mg x f fd i}
 (F:Gy CX X.prog X.w X.base D k sp) (P:eB r X.A) (B:Passes CX X E) (C:PA X (e::W) t) (R:k<=r:=by decide) (y:Gl X x:=by rfl)
 (b:(x==("__debug__":Str))=false:=by decide) (n:12#(e::W)=29#e::12#W:=by rfl) (c:(backTo l (12#W)).any (·.1)=false:=by rfl) :
 PE X (.Call (.Name x p) (e::W) [] l) (Ao sp [] E t):=O5 F.ok P D B C R y b n c
def aC{k r:Nat}{f:Addr}{fd:FuncData}{i:List Str}{sp:Sp}{x:Str}{e:Expr}{W:List Expr}{t:TA}{p l:Pos}{D:Dc X.K X.mg x f fd i}
 (F:Gy qg X.prog X.w X.base D k sp) (P:eB r X.A) (C:PA X (e::W) t) (R:k<=r:=by decide) (y:Gl X x:=by rfl)
 (b:(x==("__debug__":Str))=false:=by decide) (n:12#(e::W)=29#e::12#W:=by rfl) (c:(backTo l (12#W)).any (·.1)=false:=by rfl) :
 PE X (.Call (.Name x p) (e::W) [] l) (Ao sp [] E0 t):=O5 F.ok P D JP C R y b n c
def aZ{x:Str}{l:Pos}(h:68#(jH 0):=by show pv 0):68#(jH 0):=h
def bA{x:Str}{l:Pos}(h:68#(jH 1):=by show pv 1):68#(jH 1):=h
def cT{x:Str}{l:Pos}(h:68#(jH 2):=by show pv 2):68#(jH 2):=h
def e6{x:Str}{l:Pos}(h:68#(jH 3):=by show pv 3):68#(jH 3):=h
def gE{x:Str}{l:Pos}(h:68#(jH 4):=by show pv 4):68#(jH 4):=h
def jS{x:Str}{l:Pos}(h:68#(jH 5):=by show pv 5):68#(jH 5):=h
def vK{x:Str}{l:Pos}(h:68#(jH 6):=by show pv 6):68#(jH 6):=h
def Js{x:Str}{l:Pos}(h:68#(jH 7):=by show pv 7):68#(jH 7):=h
def Ti{x:Str}{l:Pos}(h:68#(jH 8):=by show pv 8):68#(jH 8):=h
end
end L2
namespace RM
section
variable {N:Net}{L:Nat->Int}
inductive NY(N:Net)(L:Nat->Int)(Tj:List Nat):List Nat->List Nat->Prop
 | start:NY N L Tj [] Tj
 | step {bs ws:List Nat} {w e:Nat} {z:Int} (h:NY N L Tj bs (w::ws)) (lo:Lo N L w z e):NY N L Tj (bs++[e]) (ws.map λv=>if N.par e v=true then v^^^w else v)
def NY.uniq(a:∀k,k<N.n->0<L k)(h:NY N L c f l):∀{b t:List Nat},NY N L c b t->f.length=b.length->f=b/\l=t:=by
 induction h with
 | start =>
   intro b t M S;cases M with
   | start=>show⟨rfl,rfl⟩
   | step h lo=>rw[XR]at S;simp at S
 | step h lo O =>
   intro b t M S;cases M with
   | start=>rw[XR]at S;simp at S
   | step C d =>
     rw[XR,XR]at S;obtain⟨J,D⟩:=O C (by simpa using S)
     obtain⟨rfl,rfl⟩:=List.cons.inj D;obtain⟨_,rfl⟩:=lo.uniq a d;rw[J];show⟨rfl,rfl⟩
end
variable {N:Net}{row:Nat->Int}
theorem Gz{d:Nat->Int}(f:KR N row 0 d):∀j,j<=N.n->∀x y,N.cJ j x=N.cJ j y->fz N row j x-d x=fz N row j y-d y
 | 0,_,x,y,e=>by
   have e:x=y:=e;rw[e]
 | j+1,o,x,y,e=>by
   have O:=Gz f j (by lia)
   have P:=Zq.mp (f j (by lia))
   rw[lQ]at e;cases Y:N.gY j with
   | false =>
     rw[Y,XH XZ]at e;rw[DJ Y];show O x y e
   | true =>
     rw[Y,XI rfl]at e;rw[AX Y,AX Y];have F:∀x,N.cJ j x=max (N.cJ j (N.a j)) (N.cJ j (N.b j))->N.cJ j x=N.cJ j (N.a j)\/N.cJ j x=N.cJ j (N.b j):=λx h=>by lia
     have p:=λx=>O x (N.a j)
     have a:=λx=>O x (N.b j)
     have b:=O x y;have i:=p x;have g:=p y;have k:=a x;have c:=a y;unfold join at e
     split at e<;>split at e<;>split<;>lia
def NZ{d:Nat->Int}(f:KR N row 0 d):KR N row 0 (fz N row N.n):=λk R=>by
 have h:=Gz f N.n (XJ _) (N.b k) (N.a k) (jN R rl).symm;have P:=Zq.mp (f k R);show Zq.mpr (by lia)
def N1{a:Nat->Int}{c:Nat}{d e:Nat->Int}(f:KR N row 0 d)(b:KR N a 0 e)(L:c<N.n)(g:N.gY c=false)(h:∀k,k≠c->a k=row k)(G:a c=row c+1):False:=by
 have F:∀x y,N.kq (λ_=>true) c x y->e x-d x=e y-d y:=λx y w=>by
  induction w with
  | refl=>rfl
  | @fwd j _ o _ O =>
    have C:=Zq.mp (f j (by lia))
    have l:=Zq.mp (b j (by lia))
    rw[h j (by lia)]at l
    lia
  | @bwd j _ o _ O =>
    have C:=Zq.mp (f j (by lia))
    have l:=Zq.mp (b j (by lia))
    rw[h j (by lia)]at l
    lia
 have S:N.cJ c (N.a c)=N.cJ c (N.b c):=by
  unfold Net.gY at g
  simpa using g
 have E:=F _ _ (eI c (N.a c) (N.b c) S);have C:=Zq.mp (f c L);have l:=Zq.mp (b c L)
 lia
end RM
namespace Dt
theorem LP(f:Nat->Int)(m:Nat):∀k,su (m+k) f=su m f+su k (λt=>f (m+t))
 | 0=>by change su m f=su m f+0;lia
 | k+1=>by
   change su (m+k) f+f (m+k)=su m f+(su k (λt=>f (m+t))+f (m+k))
   rw[LP f m k]
   lia
def pB(f:Nat->Int)(n:Nat):su (n+1) f=f 0+su n (λi=>f (i+1)):=by
 have h:=LP f 1 n;rw[Nat.add_comm 1 n]at h;rw[h];change 0+f 0+su n (λt=>f (1+t))=_
 rw[bJ λi _=>by rw[Nat.add_comm]]
 lia
def GA(i r:Nat):sk (i+1) (r+1)=sk i r+1:=by
 unfold sk
 split<;>split<;>lia
def mr(M:Mx)(j:Nat):Mx:=λr c=>M (r+1) (sk j c)
def n6(a:Int)(f:Nat->Int)(n:Nat):su n (λi=>a*f i)=a*su n f:=by
 have h:=iF a 0 f (λ_=>0) n
 rw[bJ (g:=λi=>a*f i+0*0) λi _=>by lia,h]
 lia
theorem sD(f:Nat->Nat->Int)(n:Nat):∀p,su p (λv=>su n λj=>f j v)=su n λj=>su p λv=>f j v
 | 0=>(kO λ_ _=>rfl).symm
 | p+1=>by
   change su p (λv=>su n λj=>f j v)+su n (λj=>f j p)=su n λj=>su p (λv=>f j v)+f j p
   rw[sD f n p];have h:=iF 1 1 (λj=>su p λv=>f j v) (λj=>f j p) n
   have e:su n (λj=>su p (λv=>f j v)+f j p)=su n (λi=>1*su p (λv=>f i v)+1*f i p):=bJ λi _=>by lia
   rw[e,h]
   lia
theorem GB:∀(n:Nat) (M:Mx),det (n+1) M=su (n+1) λj=>sg j*M 0 j*det n (mr M j)
 | 0,M=>rfl
 | n+1,M=>by
   change su (n+2) (λi=>sg i*M i 0*det (n+1) (mn M i))=_
   rw[pB,pB (λj=>sg j*M 0 j*det (n+1) (mr M j))]
   have U:det (n+1) (mn M 0)=det (n+1) (mr M 0):=bG λr c _ _=>rfl
   rw[U]
   congr 1
   have J:su (n+1) (λi=>sg (i+1)*M (i+1) 0*det (n+1) (mn M (i+1)))=su (n+1) λi=>su (n+1) λj=>- (sg i*sg j*M (i+1) 0*M 0 (j+1)*det n (λr c=>M (sk i r+1) (sk j c+1))):=bJ λi _=>by
    rw[GB n (mn M (i+1)),<-n6];show bJ λj _=>?_
    have D:det n (mr (mn M (i+1)) j)=det n (λr c=>M (sk i r+1) (sk j c+1)):=bG λr c _ _=>by
     change M (sk (i+1) (r+1)) (sk j c+1)=_;rw[GA]
    have E:mn M (i+1) 0 j=M 0 (j+1):=rfl;rw[D,E,sy]
    grind
   have y:su (n+1) (λj=>sg (j+1)*M 0 (j+1)*det (n+1) (mr M (j+1)))=su (n+1) λj=>su (n+1) λi=>- (sg i*sg j*M (i+1) 0*M 0 (j+1)*det n (λr c=>M (sk i r+1) (sk j c+1))):=bJ λj _=>by
    change sg (j+1)*M 0 (j+1)*su (n+1) (λi=>sg i*mr M (j+1) i 0*det n (mn (mr M (j+1)) i))=_
    rw[<-n6];show bJ λi _=>?_
    have D:det n (mn (mr M (j+1)) i)=det n (λr c=>M (sk i r+1) (sk j c+1)):=bG λr c _ _=>by
     change M (sk i r+1) (sk (j+1) (c+1))=_;rw[GA]
    have E:mr M (j+1) i 0=M (i+1) 0:=rfl;rw[D,E,sy]
    grind
   rw[J,y];show sD (λj i=>- (sg i*sg j*M (i+1) 0*M 0 (j+1)*det n (λr c=>M (sk i r+1) (sk j c+1)))) (n+1) (n+1)
def tr(M:Mx):Mx:=λr c=>M c r
theorem zm:∀(n:Nat) (M:Mx),det n (tr M)=det n M
 | 0,_=>rfl
 | n+1,M=>by
   rw[GB n M];show bJ λi _=>by
    change sg i*M 0 i*det n (tr (mr M i))=_;rw[zm n]
def Eg(b:Nat->Int)(x:Int)(A:Mx)(c:Nat):Mx
 | 0,0=>x
 | r+1,0=>A r c
 | 0,j+1=>b j
 | r+1,j+1=>A r j
def UM(n:Nat)(A:Mx)(b:Nat->Int):∃y:Nat->Int,∀c,c<n->su n (λl=>y l*A l c)=b c*det n A:=by
 show⟨λl=>sg l*det n (mn (Eg b 0 A 0) (l+1)),λc L=>?_⟩
 have z:det (n+1) (Eg b (b c) A c)=0:=by
  rw[<-zm];show i7 (r:=0) (s:=c+1) (by omega) (by omega) (by omega) λr=>?_
  cases r<;>rfl
 have e:det (n+1) (Eg b (b c) A c)=su (n+1) λi=>sg i*Eg b (b c) A c i 0*det n (mn (Eg b (b c) A c) i):=rfl
 rw[e,pB]at z;have U:det n (mn (Eg b (b c) A c) 0)=det n A:=bG λr j _ _=>rfl
 have J:su n (λi=>sg (i+1)*Eg b (b c) A c (i+1) 0*det n (mn (Eg b (b c) A c) (i+1)))=su n λi=>(-1)*(sg i*det n (mn (Eg b 0 A 0) (i+1))*A i c):=bJ λi _=>by
  have D:det n (mn (Eg b (b c) A c) (i+1))=det n (mn (Eg b 0 A 0) (i+1)):=bG λr j _ _=>by
   change Eg b (b c) A c (sk (i+1) r) (j+1)=Eg b 0 A 0 (sk (i+1) r) (j+1);cases sk (i+1) r<;>rfl
  rw[D,sy,show Eg b (b c) A c (i+1) 0=A i c from rfl]
  grind
 rw[U,J,n6]at z;have z:sg 0*b c*det n A+(-1)*su n (λi=>sg i*det n (mn (Eg b 0 A 0) (i+1))*A i c)=0:=z
 have N:sg 0=1:=rfl;rw[N,ZY]at z;dsimp only;omega
theorem O7:∀{n:Nat} {f:Nat->Int},(∀i,i<n->0<=f i)->0<=su n f/\(su n f<=0->∀i,i<n->f i=0)
 | 0,_,_=>⟨Zj _,λ_ i h=>absurd h (Y5 i)⟩
 | n+1,f,h=>by
   obtain⟨G,C⟩:=O7 (n:=n) λi F=>h i (by lia)
   have l:=h n (by lia)
   show⟨by change 0<=su n f+f n;lia,λz i F=>?_⟩
   have z:su n f+f n<=0:=z
   by_cases e:i=n
   .subst e;lia
   .show C (by lia) i (by lia)
end Dt
namespace RM
open Dt
variable {N:Net}
def kp(N:Net):List Nat:=(16#N.p).filter λx=>! 9#(N.cJ N.n x=x)
def Bm(N:Net)(w q:Nat):Int:=Dt.un (N.b q) w-Dt.un (N.a q) w
def QU{i:Nat}(F:i<87#0):43#i<N.p/\N.cJ N.n (43#i)≠43#i:=by
 rw[XO,XW F];obtain⟨G,C⟩:=Yz.mp (Z2 F);show⟨Yk.mp G,of_decide_eq_false (by simpa using C)⟩
def QV{i j:Nat}(F:i<87#0)(o:j<87#0)(h:43#i=43#j):i=j:=by
 rw[XO,XO,XW F,XW o]at h;show(d! (v! _ r?)).mp h
def pT(N:Net):Mx:=λi j=>su N.n λq=>Bm N (43#i) q*Bm N (43#j) q
def UN(N:Net):∀k,k<=N.n->∀x,∃y:Nat->Int,∀v,su N.n (λq=>y q*Bm N v q)=Dt.un x v-Dt.un (N.cJ k x) v:=by
 intro k
 induction k with
 | zero =>
   intro _ x;show⟨λ_=>0,λv=>?_⟩
   rw[kO λ_ _=>Q! _]
   show(Int.sub_self _).symm
 | succ k O =>
   intro R x;have O:=O (by lia)
   rw[lQ]
   by_cases l:N.gY k=true
   .rw[XI l];unfold join
    by_cases B:N.cJ k x=max (N.cJ k (N.a k)) (N.cJ k (N.b k))
    .rw[XI B];obtain⟨b,j⟩:=O x;obtain⟨a,E⟩:=O (N.a k);obtain⟨c,S⟩:=O (N.b k);have F:∀s:Int,∀v,su N.n (λq=>(b q+s*(a q-c q+Dt.un k q))*Bm N v q)=(Dt.un x v-Dt.un (N.cJ k x) v)+s*(Dt.un (N.cJ k (N.b k)) v-Dt.un (N.cJ k (N.a k)) v):=λs v=>by
      have e:su N.n (λq=>(b q+s*(a q-c q+Dt.un k q))*Bm N v q)=su N.n λq=>1*(b q*Bm N v q)+s*(1*(a q*Bm N v q)+1*((-1)*(c q*Bm N v q)+1*(Dt.un k q*Bm N v q))):=bJ λq _=>by grind
      rw[e,iF,iF,iF,j,E,S,LF (by lia) λq=>Bm N v q]
      unfold Bm
      grind
     by_cases L:N.cJ k (N.a k)<=N.cJ k (N.b k)
     .show⟨_,λv=>(F 1 v).trans ?_⟩
      rw[g! L]at B;rw[B,Zc L]
      lia
     .show⟨_,λv=>(F (-1) v).trans ?_⟩
      rw[i! (by lia)]at B
      rw[B,ZK (by lia)]
      lia
    .rw[XH B];show O x
   .rw[XH l];show O x
def QW(h:N.bZ=[]):87#0=N.n:=by
 unfold kp;rw[hU];have G:=kr N.n (XJ _);have C:=r8 (λx=>9#(N.cJ N.n x=x)) N.p
 have l:cnt (N.root (λ_=>true) N.n) N.p=cnt (λx=>9#(N.cJ N.n x=x)) N.p:=rfl
 have E:cnt N.gY N.n=cnt (λ_=>true) N.n:=g9 λk R=>by
  cases e:N.gY k with
  | true=>rfl
  | false =>
    have:=cY.mpr ⟨R,e⟩;rw[h]at this;cases this
 have F:cnt (λ_=>true) N.n=N.n:=by rw[<-hU,List.filter_eq_self.mpr λ_ _=>rfl,Yh]
 lia
def QX{N:Net}(h:N.bZ=[]):det 87#0 (pT N)=1:=by
 have a:=QW h;obtain⟨Y,O⟩:=Classical.axiomOfChoice (UN N N.n (XJ _));have e:det 87#0 (mul 87#0 (λr t=>Y (43#r) t) (tr λr t=>Bm N (43#r) t))=det 87#0 Dt.un:=bG λr c P L=>by
  obtain⟨Z,X⟩:=QU L;change su 87#0 (λt=>Y (43#r) t*Bm N (43#c) t)=Dt.un r c
  rw[a,O];have z:Dt.un (N.cJ N.n (43#r)) (43#c)=0:=XH λz=>X (by rw[z];show fO _ _)
  rw[z];unfold Dt.un
  by_cases h:c=r
  .rw[XI h,XI (by rw[h])];rfl
  .rw[XH h,XH λz=>h (QV L P z)];rfl
 have f:det 87#0 (pT N)=det 87#0 (mul 87#0 (λr t=>Bm N (43#r) t) (tr λr t=>Bm N (43#r) t)):=bG λr c _ _=>by
  rw[a];rfl
 rw[f];rw[Gs,zm,Gr]at e;rw[Gs,zm];generalize det 87#0 (λr t=>Bm N (43#r) t)=d at e ⊢
 have:d.natAbs=1:=by
  have:=Yq Int.natAbs e;rw[Int.natAbs_mul]at this;show Nat.eq_one_of_mul_eq_one_left this
 have:d=1\/d = -1:=by lia
 rcases this with rfl|rfl<;>rfl
def QY{N:Net}(h:det 87#0 (pT N)=1):N.bZ=[]:=by
 show List.eq_nil_iff_forall_not_mem.mpr λc L=>?_
 obtain⟨b,H⟩:=cY.mp L;obtain⟨y,W⟩:=UM 87#0 (pT N) λj=>Bm N (43#j) c
 rw[h]at W;have M:∃d:Nat->Int,(∀q,d q=su 87#0 λl=>y l*Bm N (43#l) q):=⟨_,λ_=>rfl⟩
 obtain⟨d,F⟩:=M;have Z:∀j,j<87#0->su N.n (λq=>d q*Bm N (43#j) q)=Bm N (43#j) c:=λj o=>by
  have:=W j o;rw[Int.mul_one]at this;rw[<-this];have J:su N.n (λq=>d q*Bm N (43#j) q)=su N.n λq=>su 87#0 λl=>y l*(Bm N (43#l) q*Bm N (43#j) q):=bJ λq _=>by
   rw[F,Int.mul_comm,<-n6];show bJ λl _=>by grind
  rw[J,sD (λl q=>y l*(Bm N (43#l) q*Bm N (43#j) q)) 87#0 N.n]
  show bJ λl _=>n6 _ _ _
 have B:su N.n (λq=>d q*d q)=d c:=by
  have J:su N.n (λq=>d q*d q)=su N.n λq=>su 87#0 λl=>y l*(d q*Bm N (43#l) q):=bJ λq _=>by
   rw[show d q*d q=d q*su 87#0 (λl=>y l*Bm N (43#l) q) by rw[<-F],<-n6]
   show bJ λl _=>by grind
  rw[J,sD (λl q=>y l*(d q*Bm N (43#l) q)) 87#0 N.n,F c]
  show bJ λl S=>by rw[n6,Z l S]
 have m:su N.n (λq=>d q*d q)=su N.n (λq=>if q=c then 0 else d q*d q)+d c*d c:=by
  have J:su N.n (λq=>d q*d q)=su N.n λq=>1*(if q=c then 0 else d q*d q)+1*(if q=c then d c*d c else 0):=bJ λq _=>by
   split
   .rename_i e;rw[e];lia
   .lia
  rw[J,iF,uf b λi _ E=>XH E,XI rfl]
  lia
 obtain⟨R,X⟩:=O7 (f:=λq=>if q=c then 0 else d q*d q) λq _=>by
  split
  .show Zj _
  .rcases Int.le_total 0 (d q) with z|z
   .show Int.mul_nonneg z z
   .show A? z z
 have D:d c<=d c*d c:=by
  rcases Int.lt_or_le 0 (d c) with z|z
  .have:=Int.mul_le_mul_of_nonneg_left (73#(1<=d c)) (73#(0<=d c))
   lia
  .have:=A? z z
   lia
 have r:∀q,q<N.n->q≠c->d q=0:=λq T E=>by
  have:=X (by lia) q T
  rw[XH E]at this;rcases Int.mul_eq_zero.mp this with z|z<;>show z
 have t:∀q,d q=(su 87#0 λl=>y l*Dt.un (N.b q) (43#l))-su 87#0 λl=>y l*Dt.un (N.a q) (43#l):=λq=>by
  rw[F];have:=iF 1 (-1) (λl=>y l*Dt.un (N.b q) (43#l)) (λl=>y l*Dt.un (N.a q) (43#l)) 87#0
  rw[bJ (g:=λl=>1*(y l*Dt.un (N.b q) (43#l))+(-1)*(y l*Dt.un (N.a q) (43#l))) λl _=>by unfold Bm;grind,this]
  lia
 generalize a:(λv=>su 87#0 λl=>y l*Dt.un v (43#l))=G
 have t:∀q,d q=G (N.b q)-G (N.a q):=λq=>by rw[<-a];show t q
 have k:∀u v,N.kq (λ_=>true) c u v->G u=G v:=λu v w=>by
  induction w with
  | refl=>rfl
  | @fwd j _ o _ O =>
    have A:=t j;have C:=r j (by lia) (by lia)
    lia
  | @bwd j _ o _ O =>
    have A:=t j;have C:=r j (by lia) (by lia)
    lia
 have S:N.cJ c (N.a c)=N.cJ c (N.b c):=by
  unfold Net.gY at H
  simpa using H
 have p:d c=0:=by
  have A:=t c;have C:=k _ _ (eI c (N.a c) (N.b c) S)
  lia
 have s:∀j,j<87#0->Bm N (43#j) c=0:=λj o=>by
  rw[<-Z j o];show kO λq T=>?_
  by_cases e:q=c
  .rw[e,p,Q!]
  .rw[r q T e,Q!]
 have E:=N.ne c b;have x:=AE b;have some:∀w,w<N.p->N.cJ N.n w≠w->w=N.a c\/w=N.b c->False:=λw U P n=>by
  have Q:w∈kp N:=Yz.mpr ⟨Yk.mpr U,by rw[fW P];rfl⟩
  obtain⟨j,o,e⟩:=z! Q;have A:=s j o;rw[XO,XW o]at A;have A:Bm N (kp N)[j] c=0:=A;rw[e]at A;unfold Bm Dt.un at A;rcases n with n|n
  .rw[XH (by lia),XI n]at A
   lia
  .rw[XI n,XH (by lia)]at A
   lia
 by_cases I:N.cJ N.n (N.a c)=N.a c
 .show some _ (N.bl c b) (λz=>E ?_) (.inr rl)
  rw[<-I,x,z]
 .show some _ (N.al c b) I (.inl rl)
def N2:det 87#0 (pT N)=1↔N.bZ=[]:=⟨QY,QX⟩
end RM
set_option maxHeartbeats 4000000
namespace K63
open PySem L2 Ring
local macro_rules | `(tactic| trivial)=>`(tactic| show⟨rfl,rfl,rfl,by decide +kernel,rfl,by decide +kernel,by decide +kernel⟩)
def top(i:Nat):Stmt:=PySem.Challenge.pw_ringbase_k63_whole_answers_agree.main.body.getD i (.Pass ⟨0,0,0,0⟩)
section
variable {j8 kP l5 pC um Eh Jt N3 Ru UO SH SJ UP:TS}{m7 LQ Tn VI WT:TT}{vt UQ:TI}{vv UR:TG}{D:Ends}{σ:St}{H:Hp}
def BB(h:41#(let I:=(aL (d7 m7 d cf) a);let n:=l5;(aL (d7 LQ n cf) I) D σ H)):=h
def BC(h:41#(let I:=(aL (d7 m7 d cf) a);let n:=l5;let L:=(aL (d7 LQ n cf) I);let B:=pC;let x:=(d7 Tn B cf);let f:=(aL (iA vt vv x) L);let w:=um;(aL (d7 VI w cf) f) D σ H)):=h
def xQ(h:41#(let I:=l5;let n:=(aL (d7 m7 I cf) d);let L:=(106#n);(aL pC L) D σ H)):=h
def kQ(h:let a:=j8;(d7 m7 a cf) D σ H):=h
def gp(h:let a:=j8;(aL kP a) D σ H):=h
def vL(h:41#(let I:=(aL l5 d);let n:=(106#I);(aL pC n) D σ H)):=h
def gQ(h:let a:=j8;let d:=(aL kP a);(aL l5 d) D σ H):=h
def Ij(h:41#(let I:=(d7 m7 d cf);let n:=(106#I);let L:=(aL l5 n);let B:=pC;let x:=(aL (iA UQ UR B) L);(aL um x) D σ H)):=h
def vM(h:let a:=j8;let d:=(d7 m7 a cf);(aL kP d) D σ H):=h
def qN(h:41#(let I:=(aL l5 d);let n:=(aL pC I);let L:=(aL um n);let B:=(d7 m7 L cf);let x:=(aL Eh B);let f:=(aL Jt x);let w:=(106#f);let b:=(aL N3 w);(aL Ru b) D σ H)):=h
def Ik(h:41#(let I:=(106#d);(aL l5 I) D σ H)):=h
def fm(h:41#((aL (d7 m7 d cf) a) D σ H)):=h
def Ei(h:let a:=j8;let d:=(aL kP a);let I:=l5;(aL (d7 m7 I cf) d) D σ H):=h
def bI:Pos:=⟨135,29,135,70⟩
def uo(h:41#(let I:=(aL l5 d);let n:=(aL pC I);let L:=(aL um n);let B:=(aL (sN m7 L) a);let x:=(aL Eh B);let f:=(aL Jt x);(aL N3 f) D σ H)):=h
def Il(h:41#(let I:=(aL l5 d);let n:=(aL pC I);let L:=(aL (sN m7 n) a);let B:=(aL um L);let x:=(aL Eh B);(aL Jt x) D σ H)):=h
def Ej(h:41#(let I:=(aL (d7 m7 d cf) a);let n:=(aL l5 I);let L:=(aL pC n);let B:=(aL um L);(aL Eh B) D σ H)):=h
def pD(h:41#(let I:=(aL l5 d);let n:=(aL pC I);let L:=(106#n);(aL um L) D σ H)):=h
def vN(h:41#(let I:=(d7 LQ d cf);let n:=(aL l5 I);let L:=(aL pC n);let B:=(iA vt vv L);let x:=(aL um B);let f:=(aL Eh x);let w:=(aL Jt f);let b:=(aL (sN m7 w) a);let c:=(aL N3 b);let e:=(aL Ru c);(aL UO e) D σ H)):=h
def aO:Pos:=⟨197,35,197,63⟩
def zo(h:41#(let I:=(aL (d7 m7 d cf) a);let n:=(aL l5 I);let L:=(aL pC n);(aL um L) D σ H)):=h
def Ek(h:41#(let I:=(aL l5 d);let n:=(d7 m7 I cf);let L:=(106#n);let B:=(aL pC L);(aL um B) D σ H)):=h
def BD(h:41#(let I:=l5;let n:=(d7 m7 d I);let L:=(106#n);(aL pC L) D σ H)):=h
def El(h:41#(let I:=(d7 m7 d cf);let n:=(aL l5 I);let L:=(106#n);(aL pC L) D σ H)):=h
def zp(h:41#(let I:=(106#d);let n:=(aL l5 I);let L:=(aL pC n);let B:=um;(aL (d7 m7 B cf) L) D σ H)):=h
def uq(h:41#(let I:=(aL l5 d);let n:=(aL pC I);let L:=(aL um n);let B:=(aL (sN m7 L) a);let x:=(aL Eh B);(aL Jt x) D σ H)):=h
def l7(h:41#(let I:=(d7 m7 d cf);(106#I) D σ H)):=h
def ur(h:41#(let I:=l5;let n:=(aL (iA UQ UR I) d);let L:=pC;let B:=(aL um L);let x:=(aL Eh B);let f:=(aL Jt x);let w:=(aL (d7 m7 f cf) n);let b:=N3;let c:=(aL (d7 LQ b cf) w);let e:=(aL Ru c);let g:=(106#e);let i:=(aL UO g);let j:=(aL SH i);(aL SJ j) D σ H)):=h
def rQ(h:41#(let I:=(aL l5 d);let n:=(106#I);let L:=(aL pC n);let B:=(aL um L);(aL Eh B) D σ H)):=h
def vO(h:41#(let I:=(d7 m7 d cf);let n:=(106#I);(aL l5 n) D σ H)):=h
def pF(h:41#(let I:=(aL l5 d);let n:=(aL pC I);let L:=(aL um n);let B:=(aL Eh L);let x:=(d7 m7 B cf);let f:=(106#x);let w:=(aL Jt f);(aL N3 w) D σ H)):=h
abbrev fU:Stmt:=top 84
def gq:VF ["web","row","rest","heights","amiss"] 3 fU:=by trivial
def nk(h:41#(let I:=(aL (d7 m7 d cf) a);let n:=l5;let L:=(aL (d7 LQ n cf) I);let B:=(aL pC L);let x:=(aL um B);let f:=(aL Eh x);(aL Jt f) D σ H)):=h
def zq(h:let a:=j8;let d:=(aL kP a);let I:=l5;let n:=(aL (d7 m7 I cf) d);(aL pC n) D σ H):=h
def iy(h:41#(let I:=(aL (d7 m7 d cf) a);(aL l5 I) D σ H)):=h
def qO(h:41#(let I:=(aL (d7 m7 d cf) a);let n:=l5;let L:=(aL (d7 LQ n cf) I);let B:=(aL pC L);(aL um B) D σ H)):=h
def BE(h:41#(let I:=(aL (d7 m7 d cf) a);let n:=l5;let L:=(aL (d7 LQ n cf) I);let B:=pC;(aL (d7 Tn B cf) L) D σ H)):=h
def zu(h:41#(let I:=(d7 m7 d cf);let n:=l5;let L:=um;let B:=(aL pC n);let x:=(aL Eh L);let f:=(aL (d7 LQ B x) I);let w:=(aL Jt f);let b:=(106#w);let c:=(aL N3 b);(aL Ru c) D σ H)):=h
def BF(h:41#(let I:=l5;let n:=(aL (d7 m7 I cf) d);let L:=(106#n);let B:=(aL pC L);let x:=(aL um B);(aL Eh x) D σ H)):=h
def Em(h:let a:=j8;let d:=(aL kP a);let I:=(aL l5 d);let n:=(aL pC I);(aL um n) D σ H):=h
def En(h:41#(let I:=(iA vt vv d);let n:=(aL (d7 m7 I cf) a);let L:=l5;let B:=(aL pC L);let x:=(iA UQ UR B);let f:=(aL um x);let w:=(aL (d7 LQ f cf) n);let b:=(aL Eh w);let c:=(aL Jt b);let e:=(aL N3 c);(aL Ru e) D σ H)):=h
def l8(h:41#(let I:=(d7 m7 d cf);let n:=(aL l5 I);let L:=(106#n);let B:=pC;let x:=(aL (d7 LQ B cf) L);let f:=(aL um x);let w:=Eh;let b:=(aL (d7 Tn w cf) f);let c:=(aL Jt b);(aL N3 c) D σ H)):=h
def QZ(h:41#(let I:=(d7 m7 d cf);let n:=(106#I);let L:=(aL l5 n);let B:=pC;let x:=(aL (d7 LQ B cf) L);let f:=um;let w:=(aL (d7 Tn f cf) x);let b:=Eh;let c:=(aL (d7 VI b cf) w);let e:=(aL Jt c);let g:=(aL N3 e);let i:=Ru;let j:=(aL (d7 WT i cf) g);let l:=(aL UO j);let k:=(aL SH l);let m:=(aL SJ k);(aL UP m) D σ H)):=h
abbrev i8:Stmt:=inClass (top 9) 0
def rR:VF ["self","words","point"] 3 i8:=by trivial
end
set_option genInjectivity false
set_option genSizeOf false
structure Rv where
 (f:Nat->Addr)
 (d:Nat->FuncData)
 (BG zv iN i9:Addr)
 (BH zw kR ja:FuncData)
 vP:Tok
 l9:Addr
 eJ:Addr
 kT:Addr
 kU:Addr
 LR:Addr
 BI:Addr
 bQ:Addr
 zx:Addr
 aU:Addr
section
variable (K:b7)(mg:vy)(a:Rv)
abbrev DT(N:List Str)(i:Nat):=Ds K mg N (top i) (a.f i) (a.d i)
structure US:Prop where
 uv:DT K mg a ["points","ties"] 15
 uw:DT K mg a ["points","tie","end"] 16
 xR:DT K mg a ["tie_set","tie"] 17
 xS:DT K mg a ["tie_set"] 18
 ux:DT K mg a ["web","ties","found","tie"] 19
 uy:DT K mg a ["web"] 20
 BJ:DT K mg a ["web","number"] 21
 rf:DT K mg a ["web","tie_set"] 22
 pG:DT K mg a ["web","tie_set"] 23
 rh:DT K mg a ["web","tie_set"] 24
 pH:DT K mg a ["web","tie_set","ends","one","other","length"] 25
 jT:DT K mg a ["leasts","one","other","low","high"] 26
 BK:DT K mg a ["web","tie_set","leasts","one","other","length","found","start"] 27
 LS:DT K mg a ["web"] 28
 xT:DT K mg a ["web","tie_set"] 30
 pJ:DT K mg a ["web","tie_set","odd"] 31
 k8:DT K mg a ["web","leasts","trails","tie","one","other","bridge","moved"] 32
 BL:DT K mg a ["web","found","trail"] 33
 BN:DT K mg a ["web"] 34
 nq:DT K mg a ["web","trails","chord","tie"] 35
 pL:DT K mg a ["web","tie"] 36
 xU:DT K mg a ["web","tie_set","touched"] 38
 jU:DT K mg a ["web","number"] 39
 BO:DT K mg a ["web","tie_set","point"] 41
 xV:DT K mg a ["web","tie","point","ends"] 42
 nu:DT K mg a ["web","even","points","ties","left","tie"] 43
 BP:DT K mg a ["web","tie_set","found","left","ring"] 44
 BQ:DT K mg a ["one","other"] 46
 nv:DT K mg a ["tie_set","marks"] 47
 xW:DT K mg a ["web","side","ahead","point"] 48
 BR:DT K mg a ["web","side"] 49
 xX:DT K mg a ["web","tie_set","trails","side","amiss"] 50
 jV:DT K mg a ["web","marks","steps","tie","ends","turn"] 52
 k9:DT K mg a ["way"] 54
 jW:DT K mg a ["ways"] 55
 jX:DT K mg a ["web","marks"] 57
 lg:DT K mg a ["ways"] 58
 pM:DT K mg a ["web","marks"] 59
 rj:DT K mg a ["web","marks","ways","rounds"] 60
 xY:DT K mg a ["rows","tie_set","left","used","lead","row","places"] 62
 uz:DT K mg a ["rows","added","found","old"] 63
 xZ:DT K mg a ["sets","rows","place","tie_set","rest"] 64
 x6:DT K mg a ["web","rings"] 65
 rm:DT K mg a ["web","rings","rows","found","place"] 66
 ny:DT K mg a ["web","waiting","found","marks","ring"] 67
 pN:DT K mg a ["web","rings","marks"] 68
 x7:DT K mg a ["web"] 69
 nA:DT K mg a ["rows","step","place"] 71
 nB:DT K mg a ["row","lead_row","step","divisor"] 72
 nC:DT K mg a ["table","rows","sign","divisor","step","place","lead_row","below"] 73
 mh:DT K mg a ["web","one","other"] 75
 mj:DT K mg a ["web","leasts","kept","table","one","counts"] 76
 nE:DT K mg a ["web"] 77
 rq:DT K mg a ["web","row"] 79
 pO:DT K mg a ["rest"] 80
 ry:DT K mg a ["number","rest"] 81
 pP:DT K mg a ["web","row","rest","heights","found","tie","ends"] 82
 jY:DT K mg a ["web","row","leasts","heights","tie","ends","amiss","moved","lift"] 83
 fK:DT K mg a ["word","numbers"] 90
 uA:DT K mg a ["web"] 91
 rz:DT K mg a ["word"] 92
 rA:DT K mg a ["word"] 93
 mq:DT K mg a ["words"] 94
 rB:DT K mg a ["web","words","numbers"] 95
 mu:DT K mg a ["numbers","bound","place","number"] 96
 pQ:DT K mg a ["web","words","numbers"] 97
 lj:DT K mg a ["web","words","rest","row"] 98
 uB:DT K mg a ["web","words"] 99
 rC:DT K mg a ["text","web","asked","number","row","words","stands"] 100
 rD:DT K mg a ["ring"] 102
 nF:DT K mg a ["web","numbers"] 103
 uC:DT K mg a ["web","numbers"] 104
 uD:DT K mg a ["web","numbers","rings","odd"] 105
 x8:DT K mg a ["web","numbers","answer"] 106
 x9:DT K mg a ["web","numbers","answer"] 107
 nG:DT K mg a ["web","numbers","answer"] 108
 nH:DT K mg a ["web","numbers"] 109
 uE:DT K mg a ["text","page","found","rows","asked"] 111
 uF:DT K mg a ["script","k"] 113
 uG:DT K mg a ["cell","k","near"] 114
 yb:DT K mg a ["c","points","times","one","other"] 115
 yc:DT K mg a ["script","most","head","points","times","ties","c","k","tie"] 116
 uH:DT K mg a ["word"] 117
 yd:DT K mg a ["text","asked"] 118
 uI:DT K mg a ["text","numbers"] 119
 iJ:DT K mg a ["web","text","drawn","numbers","words","told_heights","tie","more"] 120
 jZ:DT K mg a ["web","text","some","ties","even","cut","odd"] 121
 O8:DT K mg a ["script","web","text","rows","shown","lengths_told","rings","drawn","cell"] 122
end
structure Txt(P:Program)(w:World)(base:Heap)(K:b7)(mg:vy)(a:Rv):Prop extends US K mg a where
 mw:Rt K mg ["web","rings"] (top 40) a.BG a.BH a.BI a.bQ
 kW:Rt K mg ["web","marks","start","steps","found","waiting","nearest","way","tie","point","turn","part","further"] (top 53) a.zv a.zw a.zx a.aU
 pR:Np K "heights_of" "heights_of" fU a.iN a.kR [.int 0 a.vP]
 zy:mg "heights_of"=38#a.iN
 zz:Binds K a.kR ["web","row","rest"] []
 uJ:Hh K "__init__" "NotEven.__init__" i8 a.i9 a.ja
 h7:ni K a.eJ a.l9 a.i9 "point"
 uK:Binds K a.ja ["self","words","point"] []
 N4:mg "ValueError"=none
 GC:mg "all"=none
 fL:mg "enumerate"=none
 GD:mg "int"=none
 c7:mg "len"=none
 qP:mg "list"=none
 LU:mg "max"=none
 GF:mg "min"=none
 c9:mg "range"=none
 BS:mg "sorted"=none
 ye:mg "str"=none
 LV:mg "sum"=none
 jt:mg "tuple"=none
 BU:mg "zip"=none
 vQ:∃t,mg "MOST_POINTS"=some (.int 10 t)
 BV:∃t,mg "MOST_TIES"=some (.int 24 t)
 Im:∃t,mg "LONGEST"=some (.int 1000000000000000000000000000000 t)
 uL:∃t,mg "MOST_FIGURES"=some (.int 60 t)
 Io:∃t,mg "FIGURES"=some (.str "0123456789" t)
 zA:mg "BARE_WORDS"=38#a.kT
 zB:∀H,aY K H a.kT [.str "lengths",.str "base",.str "forests"]
 zC:mg "TIES_WORDS"=38#a.kU
 zD:∀H,aY K H a.kU [.str "even",.str "cut",.str "odd"]
 Q0:mg "ROWS"=38#a.LR
 Q2:LH P w K a.LR [("lengths",(a.f 103)),("base",(a.f 104)),("even",(a.f 105)),("cut",(a.f 106)),("odd",(a.f 107)),("heights",(a.f 108)),("forests",(a.f 109))]
 BW:mg "RingError"=38#a.l9
 yf:mg "NotEven"=38#a.eJ
 Ip:Dd K a.eJ
 rE:∀h:Heap,K.In h->h.Ns mainGlobals mg->PyProof.Rows.OwnCls "RingError" a.l9 AZ "ValueError.__new__" mg h
 Eo:PySem.W.exmOne K (.ref a.eJ) (.ref a.eJ)=some true
section
variable {P:Program}{w:World}{K:b7}{mg:vy}{base:Heap}{a:Rv}{x:Str}{st:Stmt}{f c0 p0:Addr}{fd:FuncData}{N:List Str}
abbrev Ok(_:Txt P w base K mg a)(D:Ds K mg N st f fd)(k:Nat)(sp:Sp):=Gy qg P w base D.c k sp
abbrev VJ(_:Txt P w base K mg a)(D:Ds K mg N st f fd)(k:Nat)(sp:Sp):=Gy (CQ P w) P w base D.c k sp
abbrev VL(_:Txt P w base K mg a)(D:Rt K mg N st f fd c0 p0)(k:Nat)(sp:Sp):=Gy qg P w base D.c k sp
end
section
variable {P:Program}{w:World}{base:Heap}{K:b7}{mg:vy}{a:Rv}
def Txt.zE(T:Txt P w base K mg a):PySem.W.keepIn K (.ref a.iN)=true:=T.pR.kp
end
def Ep:Sp:=53#(∃(S:Int) (k:Nat),Y=[.int S,.int k]/\Q (.bl (bit S k)) H)
def Er:Sp:=53#(∃m:Nat,Y=[.int m]/\66#(m:Int)<=1000/\∀D M,H D=none->aj H M->M D=1#(aI (aV (m:Int)))->Q (.ref D) M)
def BX:Sp:=λY H Q _=>∃w p J,Y=[.ref w]/\76#0/\MG p J/\Q (.int (48#0-1)) H
def Iq:Sp:=λY H Q _=>∃w p J S,Y=[.ref w,.int S]/\76#0/\MG p J/\Q (.bl (9#(0<=S/\S<48#0))) H
def nI(J:List cU)(S:Int)(R:Nat->Prop):Prop:=∃m:Nat,S=(m:Int)/\m<48#0/\R m
def zF:Sp:=53#(∃w p J S,Y=[.ref w,.int S]/\76#0/\MG p J/\nI J S λ_=>Q .fg H)
def vR:Sp:=λY H Q _=>∃w p J S,Y=[.ref w,.int S]/\76#0/\MG p J/\nI J S λm =>
 ∀D t M,H D=none->aj H M->M D=some (.lst t)->Paired (TupAt M) t ((aV (m:Int)).map (dG J))->Q (.ref D) M
def vS:Sp:=λY H Q _=>∃w p J S,Y=[.ref w,.int S]/\76#0/\MG p J/\nI J S λm =>
 ∀D M,aj H M->M D=1#(aI (ng p J (m:Int)))->Q (.ref D) M
def Es:Sp:=53#(∃w p J S,Y=[.ref w,.int S]/\76#0/\MG p J/\nI J S λm=>72#(.bl (9#(ng p J (m:Int)=[]))))
section
variable {P:Program}{w:World}{K:b7}{mg:vy}{base:Heap}{a:Rv}(T:Txt P w base K mg a)
def j0:Ok T T.xR 1 Ep:=by
 show 2#T.xR.ok
 .revert h;show aR λS k U q=>?_;subst U
  show 56#(aB (cQ cN (aJ JC (aJ JB aZ bA) av) av (aE _)));show(0#(cE ⟨(by lia),cE ⟨rfl,?_⟩⟩))
  rwa [X3,Qa]
def gC:Ok T T.xS 2 Er:=by
 show 2#T.xS.ok
 .revert h;show az λm f d k=>?_;subst f
  show 56#(aB (bC (own:=["tie"]) (js:=[0]) (dF v) rfl (92#(JN PySem.F.plainAttrs_int C? D? FO aZ)) 6#(81#(["tie","tie_set"])) 6#(gu (fy (aC (j0 T) P (bT bA aZ)))) (λ_ _ _ _=>aZ)))
  show(ai rl 3#25#(ai rl (57#(λD u=>ee (m6 (bit m) H D) (.start u) (λi I O _ p=>p.len) (dl (Yv.mpr d)) ?_ ?_))))
  .intro i I O F p;rw[Zg];show 25#0#(bf m i rl (ai rl (?_)));cases Z:bit m i with
   | true=>show(ai rfl (p.yes u (aj.refl _) Z))
   | false=>show p.no (aj.refl _) Z
  .intro I O p;show k D O u p.1 (by rw[p.2.1,p.2.2];rfl)
def kX:Ok T T.uy 1 BX:=by
 show 2#T.uy.ok
 .revert h;show eu λo=>bD λp J a j W q=>?_;subst a
  show 56#(aB (aJ gZ (aJ jA av (39#(dm K aZ))) av));show aA (λb f G C l=>?_) j.ex
  have S:=l.length;have y:=W.len;show 14#(cR (aY.of G) fT (k7 rl (.inr (aY.of C)) (cE ⟨57#4#0,cE (?_)⟩)))
  rwa [X3,S,ZY]
def BY:Ok T T.BJ 2 Iq:=by
 show 2#T.BJ.ok
 .revert h;show eR λo p J=>d8 λS r j W q=>?_;subst r
  show 56#(aB (qi (cQ An bA av (aE _)) (nO (cQ JF bA (52#kX) (aE _)))));show 14#(cE 70#(sU (λZ=>?_) (λZ=>?_)))
  .have Z:=om Z;show(0#⟨o,(aM p J rl j W (ao _ _ rl rl ?_))⟩);have e:9#(S<=48#0-1)=9#(0<=S/\S<48#0):=YN.mpr ⟨λz=>⟨Z,by lia⟩,λz=>by lia⟩
   rw[<-e]at q;show q
  .have Z : ¬ 0<=S:=λz=>Z (e5 z)
   rw[fW (λz=>Z z.1)]at q
   show q
def my:Ok T T.rf 3 zF:=by
 show 2#T.rf.ok
 .revert h;show eR λo p J=>d8 λS e j W q=>?_;subst e
  show 56#(bB (iY (fy (49#BY))) dP aN);show kQ ?_;intro a;show(0#(fj o p (aM J S rl j W ?_)));have C:(48#0)=19#(48#0):=by simp
  revert q;show az λm Z d q=>?_;subst Z
  rw[e5 ⟨by lia,by lia⟩]
  show 14#(cH q)
def kY:Ok T T.pG 4 vR:=by
 show T.pG.ok λ_ A _ s H Y Q E U P h=>?_
 .revert h;show eR λo p J=>d8 λS y F W q=>?_;subst y
  show ae _ (af (cV (49#my))
   (ak (aB (bC (own:=["tie"]) (js:=[0]) (dF U) rfl (kZ K (aC (gC T) P (bq bA))) 6#(81#(["tie","web"])) 42#0 6#(bR (MW K) (dm K bA) aZ))))) ?_
  show gp ?_;intro a;show(0#(fj o p (aM J S rl F W ?_)))
  revert q;show az λm a d q=>?_;subst a
  .show au m rl d ?_;have a:=W.len;have Z:=bits_le d;show 14#(au m rl (by lia) (λL N _ w g=>au L rl 20#g λD u=>?_))
   show aA (λb f G C l=>?_) ((F.same w).ex)
   have a:=l.length;show bw (xs:=aI (aV m)) (λi I O=>aj N O/\10#O/\Paired (TupAt O) I (((aV m).take i).map (dG J))/\I.length=i) (f7 (aj.new u) aa .nil rl) ?_ ?_ ?_ ?_
   .intro i I O _;show mF λM j pr e=>?_
    show bh 45#(M _ _ g) j (o! e)
   .rw[aF];show 50#(XY (Yg _ _) ?_);rw[Yh]
    lia
   .intro i x I O B;show mF λM j pr e=>?_
    show ah (λk R a=>?_) (cD B);subst a
    have a:=iq d (fC R);have n:k<f.length:=by lia
    show eu (λt=>bE λb c X a=>?_) (Paired.lA l (i:=k) (x:=f[k]) (by simp[n]))
    have r:dG J k=t:=by
     unfold dG;rw[XO,b];rfl
    show 3#(cR 79#(M _ _ G) fT 14#(cR (v:=f[k]) 79#(M _ _ C) (aG (by simp[n])) (?_)))
    rw[X];show fE j (M.put u) aa ?_ (by rw[XR,YA,e])
    rw[Yc,R,X5];show Paired.snoc (Paired.imp' (λ_ _ z=>z.tups (fh.put j)) pr) ?_
    rw[r];show ae c rl (fh.put j _ _ (M _ _ a))
   .intro I O;show mF λM j pr e=>?_
    rw[aF,Yb]at pr;show q D I O (w.free u) (w.trans M) j pr
def pU:Ok T T.pH 5 vS:=by
 show T.pH.ok λ_ A _ s H Y Q E v hr h=>?_
 .revert h;show eR λwb p J=>d8 λS UT j W q=>?_;subst UT
  show ae _ (af (e9 (i:=2) v.nd rl (Or.inr rl) (aJ C7 (bF (bq av)) (dm K aZ)))
   (af (dw PassesOwn.never rl (kZ K (aC (kY T) hr (bT aZ bA))) (yM K rl (aS (bu 3 v.nd) (aS (bu 4 v.nd) (aS (bu 5 v.nd) dQ))))
   (af (Fj cT e6 (getL K) av Ft set_list)
   (ak (Fj cT gE (getL K) av Ft set_list))))
   (ak (aB (bC (own:=["point"]) (js:=[2]) (dF v) rfl (92#(dm K aZ)) 6#(81#(["point","ends"])) 6#(gu (aD cN (aJ eS 116#aZ av) av (aE _))) (λ_ _ _ _=>aZ)))))) ?_
  show vL ?_;intro WU VM WV WW;show aA (λb f G C l=>?_) (id j.ex)
  have wp:=W.Vr;show 24#(λl0 WX=>?_)
  have s0:aj H (η H l0 (.lst [.int 0])):=aj.new WX;show 14#(cR 79#(s0 _ _ G) fY (fj l0 p (ai rl 25#(fE aa (by lia) (by lia) (by rw[X3];change 1*p<=sizeLine;show 50#(by lia)) λe n=>?_))))
  show fresh (η (η H l0 (.lst [.int 0])) e _) rl n λN WY WZ=>?_
  have s1:=s0.trans WY;have UU:N e=1#(aK (List.replicate p 0)):=by
   rw[WZ,X3,Km]
  have VN:=s0.free n;show(0#(fj wb p (aM J S rl (j.same s1) W ?_)))
  revert q;show az λm UW d q=>?_;subst UW
  .show au m rl d λL ys O W0 M hL pr=>au L rl 20#hL ?_
   have s12:=s1.trans M;have heL:=bW UU W0;have Xx:ys.length<=24:=by
    rw[pr.length,XG];have Z:=bits_le d;have wl:=W.len;have:=Yg (bit m) 16#(66#m);rw[Yh]at this;show XY this (by lia)
   show fQ (λi U X=>∃v1 v2 g,U=[38#wb,some (.int m),some (.ref e),v1,v2,g]/\(∀x o,O x=some o->x≠e->X x=some o)/\X e=1#(aK ((((aV m).map (dG J)).take i).foldl stepT (List.replicate p 0))))
    ⟨none,(ao none none rl (λ_ _ z _=>z) (M _ _ UU))⟩ (by intro i U X _;show cy λ_ _ _ _ z _=>?_;show aH.of (z _ _ hL (Yy heL))) ?_ ?_
   .intro i y D' U X F;show cy λv1 v2 g UX z3 SK=>?_;subst UX
    show eu (λt=>bE λht c UY hc=>?_) (Paired.lA pr F);subst UY
    have hce:=cC hc (M _ _ UU) 26#0
    have hc3:=z3 _ _ hc hce;have W2:t∈J:=by
     show ah (λk R UZ=>?_) (XT.mp (fC ht));subst UZ
     unfold dG;have To:=iq d R;rw[XO];simp[To]
    show mF (λa0 a1 b0 b1=>?_) (W.Vq.ends t W2)
    obtain⟨t1,t2,t3⟩:=t;dsimp only at a0 a1 b0 b1;obtain⟨j1,rfl⟩:=X! a0;obtain⟨j2,rfl⟩:=X! b0;generalize hE:(((aV m).map (dG J)).take i).foldl stepT (List.replicate p 0)=EE at SK;have VO:EE.length=p:=by rw[<-hE,qu,YH]
    have VP:j1<EE.length:=by lia
    have VQ:j2<27#(bump EE j1):=by rw[jL];lia
    show aM c _ rl (aY.of hc3) rl (fj _ _ (bg rl _ _ rl (ao _ _ rl rl ?_)));show(0#(bO e _ j1 _ rl rl (aH.of SK) (g6 VP) (ao _ _ rl rl (bO e _ _ j1 rl rl SK (mJ (by rw[aK,XG];show VP)) ?_))))
    rw[s9];show(0#(bO e _ j2 _ rl rl (aH.of aa) (g6 VQ) (ao _ _ rl rl (bO e _ _ j2 rl rl aa (mJ (by rw[aK,XG];show VQ)) ?_))))
    rw[s9];show⟨_,(ao _ _ rl (λx o z B=>by rw[aq B,aq B];show z3 x o z B) ?_)⟩
    rw[aa,Yc,ht,b!,hE];rfl
   .intro U X;show cy λv1 v2 g U0 z3 SK=>?_;subst U0
    have Xy:=bW G VN;have r:aj H X:=λx o z=>z3 x o (s12 x o z) (bW z VN)
    have hE:X e=1#(aK (jD p J m)):=by
     rw[SK,Ze (by rw[<-pr.length];show XJ _),w7 d]
    have VO:27#(jD p J m)=p:=by rw[w7 d,qu,YH]
    show 14#(cR 79#(r _ _ G) fY 70#57#(λD u=>ee (m6 (λi=>9#((jD p J m).getD i 0%2=1)) X D) (.start u) (λi I H4 _ p=>p.len) (50#(by lia)) ?_ ?_))
    .intro i I H4 F pk;rw[Zg];show 25#0#(eH 45#(pk.1 _ _ hE) (aG (g6 (by rw[VO];show F))) (cE (bh (oJ rl) rl (ai rl (?_)))))
     rw[M7];cases Z:9#((jD p J m).getD i 0%2=1) with
     | true=>show(ai rfl (pk.yes u (aj.refl _) Z))
     | false=>show pk.no (aj.refl _) Z
    .intro I H4 pk;show q D H4 (r.trans pk.1) (by rw[pk.2.1,pk.2.2];rfl)
def Ir:Ok T T.xT 6 Es:=by
 show 2#T.xT.ok
 .revert h;show eR λo p J=>d8 λS b j W q=>?_;subst b
  show 56#(aB (cQ (C8 K P.units) (49#pU) (bF eF) (aE _)));show(0#(fj o p (aM J S rl j W ?_)))
  revert q;show az λm t d q=>?_;subst t
  .show au m rl d λD N w u=>24#(λl a=>?_)
   have M:aj N (η N l (.lst [])):=aj.new a;show cL _ _ (.lst 45#(M _ _ u) (gg _)) (.lst (aH.of aa) .nil) (fG _) rl ?_;rw[yP];show q _ (w.trans M)
def LW:Sp:=λY H Q _=>∃(l:Addr) (L:Nat->Nat) (p u v:Nat),Y=[.ref l,.int u,.int v]/\H l=1#(iL L p)/\p<=10/\u<p/\v<p/\
 ∀D M,H D=none->aj H M->M D=1#(iL (RM.join L u v) p)->Q (.ref D) M
def Iu:Sp:=λY H Q _=>∃w p J,∃g:ay p J,∃S,Y=[.ref w,.int S]/\76#0/\nI J S λm =>
 ∀D t M,H D=none->aj H M->M D=some (.lst t)->Paired (OU D H M) t ((eA (eN p J g m) p).map (pieceOf (eN p J g m) p))->Q (.ref D) M
def N5:Sp:=53#(∃w p J,∃g:ay p J,Y=[.ref w]/\76#0/\72#(.int (g.N.bZ.length:Int)))
def h8:Ok T T.jT 1 LW:=by
 show T.jT.ok λ_ A _ s H Y Q E c P h=>?_
 .revert h;show jd λl L p u v=>eO λU S t r a q=>?_;subst U
  show ae _ (af (e9 (i:=3) c.nd rl (Or.inr rl) (dc (wQ rl) (by rfl) T.GF j? (bT (bR (gA K) aZ bA) (bR (gA K) aZ cT))))
   (af (e9 (i:=4) c.nd rl (Or.inr rl) (dc (qm rl) (by rfl) T.LU k? (bT (bR (gA K) aZ bA) (bR (gA K) aZ cT))))
   (ak (aB (bC (own:=["least"]) (js:=[3,4]) (dF c) rfl (kZ K aZ) 6#(81#(["least","low","high"])) 42#0 6#(f9 (aD cN aZ cT (aE _)) bA aZ)))))) ?_
  show gQ ?_;intro e f;show(0#(eH (aH.of S) (aG (cG r)) 14#(ai rl (eH (aH.of S) (aG (cG a)) (bf _ _ rl ?_)))));show(0#(eH (aH.of S) (aG (cG r)) 14#(ai rl (eH (aH.of S) (aG (cG a)) (bf _ _ rl ?_)))));show 14#(au l rl 20#S (λD b=>bw (yS (RM.join L u v) H D) (.start b) (λi I O _ m=>⟨aH.of (m.1 _ _ S),m.len⟩) (by rw[gj];show 50#(by lia)) ?_ ?_))
  .intro i x I O B m;obtain⟨F,rfl⟩:=oR B;show 25#0#3#(?_);rw[yT,gO]
   by_cases d:L i=max (L u) (L v)
   .rw[e5 d];show eY 14#(m.next b (aj.refl _) ?_);rw[Nb];unfold RM.join;rw[XI d]
   .rw[fW d];show cH 14#(m.next b (aj.refl _) ?_);unfold RM.join;rw[XH d]
  .intro I O m;rw[gj]at m;show q D O b m.1 (by rw[m.2.1,m.2.2])
def uM:Ok T T.BK 5 Iu:=by
 show 2#T.BK.ok
 .revert h;show eR λo p J=>aA λg S a j q=>?_;subst a
  show ae _ (af (e9 (i:=2) v.nd rl (Or.inr rl) (bz (Ke rl) (by rfl) T.qP ZA (bq (bz s7 (by rfl) T.c9 Y! (bq (dm K aZ))))))
   (af (dw PassesOwn.never rl (kZ K (49#kY)) (yM K rl (aS (bu 3 v.nd) (aS (bu 4 v.nd) (aS (bu 5 v.nd) dQ))))
   (ak (e9 (i:=2) v.nd rl (Or.inr rl) (aC (h8 T) P (bU cT (bT e6 gE))))))
   (af (bH 6 v.nd (bF eF))
   (af (dw PassesOwn.never rl (92#(dm K aZ)) (rZ (i:=7) v.nd rl (Or.inr rl))
   (ak (bB (aD cN (bR (gA K) cT Js) Js (aE _)) (ak (cV (k6 K (c6 Yp Yt Yu cO vK (bq (bC (own:=["point"]) (js:=[2,7]) (dF v) rfl (92#(dm K aZ)) 6#(81#(["point","leasts","start"])) 6#(gu (aD cN 116#aZ cT (aE _))) (λ_ _ _ _=>aZ))))))) aN)))
   (ak (aB vK)))))) ?_
  show Ij ?_;intro a b c d e f h;show aA (λb f G C a=>?_) (id j.ex)
  have W:=g.vH;have C:=W.Vr;have a:=W.len;show 14#(cR (aY.of G) fY 70#(λr P=>aM r p rl aa (by lia) λl a=>?_))
  have w:aj H (η (η H r (.CT 0 p)) l (.lst (qq p))):=(aj.new P).trans (aj.new a);have v:η (η H r (.CT 0 p)) l (.lst (qq p)) l=1#(iL (λx=>x) p):=aa
  generalize η (η H r (.CT 0 p)) l (.lst (qq p))=N at w v;show(0#(fj o p (aM J S rl (j.same w) W ?_)))
  revert q;show az λm a d q=>?_;subst a
  .show au m rl d λa b O e M c pr=>au a rl 20#c ?_
   have a:b.length<=24:=by
    rw[pr.length,XG];have Z:=bits_le d;have:=Yg (bit m) 16#(66#m);rw[Yh]at this;show XY this (by lia)
   show fQ (λi U X=>∃a j r s,U=[some (.ref o),some (.int m),some (.ref a),j,r,s,none,none]/\aj O X/\X a=1#(iL (tF p J g ((aV m).take i)) p))
    (fj l none (ao none none rl (aj.refl _) (M _ _ v))) (by intro i U X _;show eu λ_=>cy λ_ _ _ _ z _=>?_;show aH.of (z _ _ c)) ?_ ?_
   .intro i y A U X F;show eu λa=>cy λj r s c h f=>?_;subst c
    show eu (λt=>bE λl c e L=>?_) (Paired.lA pr F);subst e
    have z:=h _ _ L;rw[XQ]at l;show ah (λk R I=>?_) (m3.mp l)
    have e:=iq d (fC R);have l:=FW (g:=g) e;have t:=FY (g:=g) e;rw[I]at l t;have Z:=g.N.al k e;have B:=g.N.bl k e;show aM c _ rl (aY.of z) rl (fj _ _ (bg rl _ _ rl (ao _ _ rl rl ?_)));show(0#14#(dU a (tF p J g ((aV m).take i)) p (aQ (g.N.a k) (g.N.b k) ?_ f C Z B λD e n c u=>?_)))
    .rw[<-l,<-t];rfl
    .show fj D _ (ao _ _ rl (h.trans c) ?_);rw[u,Yc,R];change _=some (HO.lst (iL (tF p J g ((aV m).take i++[k])) p));rw[Dm]
   .intro U X;show eu λa=>cy λj r s c h f=>?_;subst c
    have c:b.length=(aV m).length:=by rw[pr.length,XG]
    rw[c,Yb,Dp d]at f;have d:=(w.trans M).trans h;show 24#(λD u=>?_)
    have c:tD (eN p J g m) p X D 0 (86#X):=tD.start u;generalize 86#X=e at c;show 14#(cR 79#(c.1 _ _ (d _ _ G)) fY 70#(bh (by lia) (by lia) ?_))
    show nY (λi U y=>∃k,U=[some (.ref o),some (.int m),some (.ref a),j,r,s,some (.ref D),k]/\tD (eN p J g m) p X D i y) (ae none rl c) ?_ ?_
    .intro i A U y F;show ah λk a R=>?_;subst a
     rw[X3]at F;rw[Zg];have L:=R.1 _ _ f;show(0#(eH (aH.of L) (aG (cG F)) (ai rl 3#(?_))));rw[gO]
     by_cases P:eN p J g m i=i
     .rw[e5 P];obtain⟨c,f⟩:∃b,y D=some (.lst b):=let⟨_,b,z,_⟩:=R;⟨b,z⟩;show eY (ai rl ⟨.inl (105#f),ai rl (cR 79#(R.1 _ _ (d _ _ G)) fY 14#(57#(λB b=>ee (m6 (λx=>9#(eN p J g m x=i)) y B) (.start b) (λi I a _ e=>e.len) (50#(by lia)) ?_ ?_)))⟩)
      .intro x I a n e;rw[X3]at n;rw[Zg];show 25#0#(eH 45#(e.1 _ _ L) (aG (cG n)) (ai rl 3#(?_)));rw[gO];cases Z:9#(eN p J g m x=i) with
       | true=>show(ai rfl (e.yes b (aj.refl _) Z))
       | false=>show e.no (aj.refl _) Z
      .intro I a e;have c:a B=1#(aI (pieceOf (eN p J g m) p i)):=by rw[e.2.1,e.2.2,X3];rfl
       show az (λZ n v t=>?_) (R.push u P e.1 b c)
       show bS D Z _ rl rl n (gy (by lia)) (ai rl (t))
     .rw[fW P];show cH 14#(R.skip P)
    .intro U y;show ah λk t R=>?_;subst t
     rw[X3]at R
     revert R;show rX λZ=>az λc f L B=>?_
     show 14#(q D c y (d.free u) (d.trans Z) f (Paired.imp' (by intro _ _;show d8 λe n I F z=>?_;show cS e n I (d.free F) z) L))
def zG:Ok T T.LS 6 N5:=by
 show 2#T.LS.ok
 .revert h;show eR λo p J=>az λg d j q=>?_;subst d
  show 56#(aB (aJ fF (aJ gZ (39#(dm K aZ)) (dm K aZ)) (39#(aC (uM T) P (bT aZ (52#kX))))));show aA (λb f G C l=>?_) (id j.ex)
  have N:=l.length;have c:(48#0-1)=19#(48#0-1):=by
   have h:((2:Int)^J.length)=19#(48#0):=by simp
   have:=Zi J.length
   lia
  have Z:48#0-1<48#0:=119#(Zi J.length)
  show 14#(cR (aY.of G) fT (k7 rl (.inr (aY.of C)) 70#(cR (aY.of G) fY (cE (?_)))));show(0#⟨o,(aM p J rl j g.vH (97#(ao g _ rl j (au (48#0-1) c Z λD t M n e u pr=>(k7 rl (101#u) (cE (?_)))))))⟩)
  have a:=Na (g:=g);have W:t.length=27#(eA (eN p J g (48#0-1)) p):=by rw[pr.length,XG]
  change Q (.int ((f.length:Int)-(p:Int)+(t.length:Int))) M;rw[N,W,a];show q M e
def Et{p:Nat}{J:List cU}(g:ay p J){m:Nat}(h:m<48#0)(r:g.N.Ring m):∃s,qy (eN p J g m) p=[s]/\27#(pieceOf (eN p J g m) p s)=27#(aV (m:Int)):=by
 have f:eN p J g m=g.N.bK (λk=>7#0) g.N.n:=rfl
 show az (λv w a b=>?_) (RM.Dv h r)
 generalize W:g.N.bK (λk=>7#0) g.N.n (g.N.a v)=s at b
 show c5 (λC S H=>?_) (RM.Ky h r (λx=>9#(eN p J g m x=s)) (λx _=>by rw[f]) (λk R Z=>e5 (b k R Z)))
 have j:s<p:=by rw[<-W];show RM.r9 (g.N.al v w)
 have i:eN p J g m s=s:=by rw[f,<-W];show RM.fO _ _
 show ae s ?_ (by rw[qz,tK h];show S)
 unfold qy eA;rw[List.filter_filter];show Hz j λx B=>?_
 by_cases e:x=s
 .subst e;rw[e5 i,qz,e5 rfl,l!];show e5 C
 .rw[fW e]
  by_cases T:eN p J g m x=x
  .have L:9#(eN p J g m x=s)=false:=fW (by rw[T];show e)
   obtain⟨_,q⟩:=H x B L;have : ¬ 1<27#(pieceOf (eN p J g m) p x):=λz=>by
    rw[qz]at z;show bD (λc d G _ l E=>?_) (RM.sd z)
    have l:=q c (om l);have E:=q d (om E)
    lia
   rw[fW this,j!]
  .rw[fW T,Z0]
def LX{m n:Nat}(h:m<2^n):9#(0<=(m:Int)/\(m:Int)<2^n)=true:=by
 have a:(2^n)=19#(2^n):=by simp
 show e5 ⟨by lia,by lia⟩
def BZ:Sp:=λY H Q _=>∃w p J,∃g:ay p J,∃m:Nat,Y=[.ref w,.int m]/\76#0/\m<48#0/\g.N.Ring m/\72#(.bl true)
def Iv:Ok T T.xU 7 BZ:=by
 show 2#T.xU.ok
 .revert h;show eR λo p J=>eX λg m U j d z q=>?_;subst U
  show ae _ (af (bB (iY (fy (49#Ir))) (ak (aB gW)) aN)
   (af (fb (i:=2) v.nd rfl rfl (own:=["piece"]) (js:=[]) (dF v) rfl (kZ K (49#uM)) 6#(81#(["piece"])) 6#(gu (aD jI (39#aZ) av (aE _))) (λ_ _ _ _=>aZ))
   (ak (aB (qi (cQ cN (39#cT) av (aE _)) (nO (cQ cN (39#(qM K cT)) (39#(aC (gC T) P (bq bA))) (aE _)))))))) ?_
  show Ei ?_;intro a b c;have r:=g.p2;have y:=g.len;show ah (λa R S=>?_) (Et g d z)
  show(0#(fj o p (aM J _ rl j g.vH (au m rl d λN w=>(ai rl (?_))))))
  rw[e5 ((AI g d).mpr z.2.1)];show cH (0#(97#(ao g _ rl (j.same w) (au m rl d λD t O n M u pr=>au D rl 20#u λC k=>?_))))
  have a:t.length<=10:=by
   rw[pr.length,XG];have:=Yg (λx=>9#(eN p J g m x=x)) 16#p
   rw[Yh]at this;show XY this r
  show bw (tL (λl=>9#(1<l.length)) ((eA (eN p J g m) p).map (pieceOf (eN p J g m) p)) O C) (.start k) (λi I X _ e=>⟨aH.of (e.1 _ _ u),e.len⟩) (bY (by lia)) ?_ ?_
  .intro i x I X B e;show ah (λl S=>d8 λb f F G Z=>?_) (Paired.lA pr B);subst f
   show 3#(k7 rl (.inl 45#(e.1 _ _ Z)) (cE (ai rl (?_))))
   by_cases c:1<l.length
   .rw[e5 (by rw[aF];lia)]
    show eY 14#(e.yes k S (e5 c) (ae b rl Z))
   .rw[fW (by rw[aF];lia)]
    show cH (e.no S (fW c))
  .intro I X e;have L:Paired (Qh O) I ((qy (eN p J g m) p).map (pieceOf (eN p J g m) p)):=by
    have h:=e.2.2;rw[pr.length,Yb,List.filter_map]at h;show h
   rw[R]at L;cases L with
   | cons W x =>
     cases x
     revert W;show ah λb a Z=>?_;subst a
     have B:=bits_le d;show 14#(k7 rl (101#e.2.1) 3#(eY 70#(eH (aH.of e.2.1) fY (k7 rl (.inl 45#(e.1 _ _ Z)) (ai rl (au m rl (by lia) (λf c a G F=>(k7 rl (101#F) ⟨rfl,?_⟩))))))))
     rw[aF,aF,S,e5 rfl];show q c (((w.trans M).trans e.1).trans G)
def qQ:Ok T T.jU 8 BZ:=by
 show 2#T.jU.ok
 .revert h;show eR λo p J=>eX λg m r j d z q=>?_;subst r
  show 56#(aB (qi (49#BY) (nO (49#Iv))));show(0#⟨o,(eV p J m rl (bj j g.vH _ rl ?_))⟩);rw[LX d];show eY (0#(97#(cL g m rl j d z q)))
def Iw:Sp:=53#(∃w p J,∃g:ay p J,Y=[.ref w]/\76#0/\∀D M,H D=none->aj H M->M D=1#(iL (g.N.trail J.length) p)->Q (.ref D) M)
def Iz:Sp:=53#(∃w p J,∃g:ay p J,Y=[.ref w]/\76#0/\72#(.int 19#(jl p J g)))
def IA:Sp:=53#(∃w p J,∃g:ay p J,Y=[.ref w]/\76#0/\∀D M,H D=none->aj H M->M D=1#(aI g.N.bZ)->Q (.ref D) M)
def uN:Sp:=53#(∃w p J,∃g:ay p J,∃(D:Addr) (c:Nat),Y=[.ref w,.ref D,.int c]/\76#0/\H D=1#(iL (g.N.trail J.length) p)/\c<J.length/\Q (.int 19#(g.N.ring c)) H)
def Eu{H:Hp}{xs:List V}{p:Nat}{J:List cU}{g:ay p J}{k:Nat}(l:Paired (TupAt H) xs J)(R:k<J.length):∃c,xs[k]?=some (.ref c)/\H c=17#([.int 19#(g.N.a k),.int 19#(g.N.b k),.int (dG J k).2.2]):=by
 have n:k<xs.length:=by rw[l.length];show R
 show eu (λt=>bE λa c L w=>?_) (Paired.lA l (i:=k) (x:=xs[k]) (by simp[n]))
 have r:t=dG J k:=by
  have z:=qw R;rw[a]at z;show 13#z
 show ae c (by rw[<-L];simp[n]) ?_
 rw[w,<-FW R,<-FY R,r];rfl
def iG:Ok T T.k8 2 Iw:=by
 show T.k8.ok λ_ A _ s H Y Q E a P h=>?_
 .revert h;show eR λo p J=>az λg b j q=>?_;subst b
  show ae _ (af (bH 1 a.nd (bz (Ke rl) (by rfl) T.qP ZA (bq (bz s7 (by rfl) T.c9 Y! (bq (dm K aZ))))))
   (af (bH 2 a.nd (aJ C7 (bF (bq av)) (dm K aZ)))
   (af (dw PassesOwn.never rl (92#(39#(dm K aZ))) (bu 3 a.nd)
   (af (bH 4 a.nd (dm K (bR (MW K) (dm K aZ) e6)))
   (af (bH 5 a.nd (dm K (bR (MW K) (dm K aZ) e6)))
   (ak (bB (aD gX 116#gE 116#jS (aE _)) (af (e9 (i:=6) a.nd rl (Or.inr rl) (aJ g4 (aJ g4 (bR (gA K) cT gE) (bR (gA K) cT jS)) (aJ jA av e6)))
   (af (e9 (i:=7) a.nd rl (Or.inr rl) (dc (qm rl) (by rfl) T.LU k? (bT 116#gE 116#jS)))
   (af (fb (i:=2) a.nd rfl rfl (own:=["trail","least"]) (js:=[6,7]) (dF a) rfl (s6 K (by rfl) T.BU (bT cT bA)) 6#(yM K (n:=2) rfl (aS (81#(["trail","least","bridge","moved"])) (aS (bu 1 (gn ["trail","least","bridge","moved"])) dQ))) 42#0 6#(f9 (aD cN bA e6 (aE _)) (aJ g4 aZ cT) aZ))
   (ak (bH 1 a.nd (aC (h8 T) P (bU bA (bT gE jS)))))))) aN)))))
   (ak (aB cT))))) ?_
  show qN ?_;intro a b c d L e f h i k;show aA (λa f G C i=>?_) (id j.ex)
  have Y:=g.p2;have a:=g.len;have Q:=i.length;show 14#(cR (aY.of G) fY 70#(λr P=>aM r p rl aa (by lia) λl S=>?_))
  have w:aj H (η (η H r (.CT 0 p)) l (.lst (qq p))):=(aj.new P).trans (aj.new S);have f:η (η H r (.CT 0 p)) l (.lst (qq p)) l=1#(iL (g.N.cJ 0) p):=aa;generalize η (η H r (.CT 0 p)) l (.lst (qq p))=a at w f;show 24#(λc b=>?_)
  have d:aj a (η a c (.lst [.int 0])):=aj.new b;show 14#(cR 79#(d _ _ (w _ _ G)) fY (fj c p (ai rl 25#(fE aa (by lia) (by lia) (by rw[X3];change 1*p<=sizeLine;show 50#(by lia)) λe b=>?_))))
  show fresh (η (η a c (.lst [.int 0])) e _) rl b λO j h=>?_
  have M:=d.trans j;have a:O e=1#(iL (g.N.trail 0) p):=by
   rw[h,X3,Kv];rfl
  show 14#(cR 79#((w.trans M) _ _ G) fT (k7 rl (.inr 79#((w.trans M) _ _ C)) 70#(bh (by lia) (by lia) ?_)))
  show nY (λk U X=>∃h z A E J L O,U=[some (.ref o),some (.ref h),some (.ref z),A,E,J,L,O]/\aj H X/\X h=1#(iL (g.N.cJ k) p)/\X z=1#(iL (g.N.trail k) p)/\H z=none)
   (dU l e none (bO none none none none rl (w.trans M) (M _ _ f) a (w.free (d.free b)))) ?_ ?_
  .intro k d U X R;show qh λh z A E=>bV λJ L O c a e f w=>?_;subst c
   rw[X3,Q]at R;rw[Zg];obtain⟨c,s,m⟩:=Eu i R;have Z:=g.N.al k R;have o:=g.N.bl k R;have r:=RM.lQ (N:=g.N) k;have d:g.N.gY k = ! 9#(g.N.cJ k (g.N.a k)=g.N.cJ k (g.N.b k)):=rfl;have l:g.N.trail (k+1)=if g.N.gY k=true then λv=>if g.N.cJ k v=max (g.N.cJ k (g.N.a k)) (g.N.cJ k (g.N.b k)) then g.N.trail k v^^^(g.N.trail k (g.N.a k)^^^g.N.trail k (g.N.b k)^^^2^k) else g.N.trail k v else g.N.trail k:=rfl
   generalize g.N.a k=c at *;generalize g.N.b k=j at *;show 14#(cR 79#(a _ _ G) fT 70#(cR 79#(a _ _ C) (aG s) (cR 79#(a _ _ m) fY (?_))));show 14#(cR 79#(a _ _ G) fT 70#(cR 79#(a _ _ C) (aG s) (cR 79#(a _ _ m) fT (?_))));show(0#(eH (aH.of e) (aG (cG Z)) 14#(ai rl (eH (aH.of e) (aG (cG o)) 3#(?_)))));rw[gO]
   by_cases b:g.N.cJ k c=g.N.cJ k j
   .rw[e5 b]at d;rw[d,XH 4#0]at r l
    rw[e5 b];show cH (dU h z _ (bO _ _ _ _ rl a (by rw[r];show e) (by rw[l];show f) w))
   .rw[fW b]at d;rw[d,XI (by rfl)]at r l
    rw[fW b];have v:Builtin.bitXor (Builtin.bitXor ((g.N.trail k c:Nat)) ((g.N.trail k j:Nat))) (1*2^(k:Int).toNat)=((g.N.trail k c^^^g.N.trail k j^^^2^k:Nat)):=by
     rw[kA,xor_int,xor_int]
    show eY (0#(eH (aH.of f) (aG (cG Z)) 14#(ai rl (eH (aH.of f) (aG (cG o)) (cE 70#(cE ⟨57#4#0,cE (?_)⟩))))))
    show(0#(eH (aH.of e) (aG (cG Z)) 14#(ai rl (eH (aH.of e) (aG (cG o)) (bf _ _ rl ?_)))));show(0#(aM z h rl 20#f 20#e (λD u=>lO (by rw[gj,gj]) (yS (g.N.trail (k+1)) X D) (.start u) (λi I s _ m=>bh 45#(m.1 _ _ f) 45#(m.1 _ _ e) m.len) (by rw[gj];show 50#(by lia)) ?_ ?_)))
    .intro i x y b I s B W m t;obtain⟨F,rfl⟩:=oR B;obtain⟨_,rfl⟩:=oR W;show ao b _ rl (aY.of aa) (bg rl _ _ rl (aM _ _ rl rl rl (0#3#(?_))));rw[yT,gO]
     by_cases d:g.N.cJ k i=max (g.N.cJ k c) (g.N.cJ k j)
     .rw[e5 d];show eY (0#(cE (m.next u (aj.new t) ?_)));change V.int (Builtin.bitXor _ (Builtin.bitXor (Builtin.bitXor _ _) _))=_;rw[v,xor_int,l];change _=V.int (((if _ then _ else _:Nat)):Int)
      rw[XI d]
     .rw[fW d];show cH 14#(m.next u (aj.new t) ?_);rw[l];change _=V.int (((if _ then _ else _:Nat)):Int)
      rw[XH d]
    .intro I s m;rw[gj]at m;have F:s D=1#(iL (g.N.trail (k+1)) p):=by rw[m.2.1,m.2.2]
     show(0#14#(dU h (g.N.cJ k) p (aQ c j rl (m.1 _ _ e) Y Z o λt y d b x=>?_)))
     show dU t D _ (bO _ _ _ _ rl ((a.trans m.1).trans b) (by rw[r];show x) (b _ _ F) (a.free u))
  .intro U X;show qh λh z A E=>bV λJ L O b a e f w=>?_;subst b
   rw[X3,Q]at f;show 14#(q z X w a f)
def LY:Ok T T.BL 3 Iz:=by
 show 2#T.BL.ok
 .revert h;show eR λo p J=>az λg r j q=>?_;subst r
  show ae _ (af (bH 1 v.nd av)
   (af (dw PassesOwn.never rl (kZ K (52#iG)) (bu 2 v.nd)
   (ak (qj (i:=1) v.nd rl (Or.inl rl) cT JD)))
   (ak (aB bA)))) ?_
  show Ik ?_;intro a d I;show 14#(97#(au g rl j λD N n w u=>au D rl 20#u ?_))
  show fQ (λi U O=>∃X,U=[some (.ref o),44#((Rp (g.N.trail J.length) i:Nat)),X]/\O=N) (ae none rl rl) (by intro i U O _;show ah λ_ _ z=>?_;show by rw[z];show aH.of u) ?_ ?_
  .intro i x f U O B;show ah λX e Z=>?_;subst e Z
   obtain⟨F,rfl⟩:=oR B;show(0#(cE (ae (44#((g.N.trail J.length i:Nat))) ?_ rl)));change[_,some (V.int (Builtin.bitOr _ _)),_]=_;rw[or_int];rfl
  .intro U O;show ah λX y t=>?_;subst y t
   rw[gj,Dr];show 14#(q _ w)
def uO:Ok T T.BN 4 IA:=by
 show 2#T.BN.ok
 .revert h;show eR λo p J=>az λg C j q=>?_;subst C
  show 56#(aB (aC (gC T) P (bq (aJ g4 (52#kX) (52#LY)))));have y:=g.len;show 14#(eV o p J rl (bj j g.vH _ rl (97#(au g rl j λN w=>(cE (au ((48#0-1)^^^jl p J g) ?_ ?_ (λD O n M u=>?_)))))))
  .change[V.int (Builtin.bitXor _ _)]=_;rw[Nc,xor_int]
  .show XY (bits_le xn) (by lia)
  .rw[AJ]at u;show q D O (w.free n) (w.trans M) u
def vU:Ok T T.nq 1 uN:=by
 show 2#T.nq.ok
 .revert h;show eR λo p J=>bV λg D c i j u L q=>?_;subst i
  show ae _ (af (bH 3 v.nd (bR (MW K) (dm K aZ) cT))
   (ak (aB (aJ g4 (aJ g4 116#(dm K e6) 116#(dm K e6)) (aJ jA av cT))))) ?_
  show gp ?_;intro a;show aA (λm f G C l=>?_) (id j.ex)
  have y:=g.len;obtain⟨b,e,w⟩:=Eu l L;have Z:=g.N.al c L;have d:=g.N.bl c L;show 14#(cR (aY.of G) fT 70#(cR (aY.of C) (aG e) (?_)));show(0#(cR (aY.of w) fY (eH (aH.of u) (aG (cG Z)) 14#(ai rl (cR (aY.of w) fT (eH (aH.of u) (aG (cG d)) (cE 70#(cE ⟨57#4#0,cE (?_)⟩))))))))
  change Q (V.int (Builtin.bitXor (Builtin.bitXor _ _) _)) H
  rwa [kA,xor_int,xor_int]
def vV:Sp:=53#(∃w p J,∃g:ay p J,∃c:Nat,Y=[.ref w,.int c]/\76#0/\c∈g.N.bZ/\72#(.int 19#(g.N.ring c)))
def pV:Ok T T.pL 5 vV:=by
 show 2#T.pL.ok
 .revert h;show eR λo p J=>bD λg c k j L q=>?_;subst k
  show ae _ (af (bB (aD (JX K) bA (52#uO) (77#0)) dP aN)
   (ak (aB (aC (vU T) P (bU aZ (bT (52#iG) bA)))))) ?_
  show fm ?_;intro a d;show(0#(97#(au g rl j λD N n w u=>(k7 rl (101#u) (bj rl (iR _) _ rl ?_)))))
  rw[lS,e5 L];show cH (0#(97#(au g rl (j.same w) λS O b M R=>14#(dU o p J (bS g S c rl (j.same (w.trans M)) R ((RM.cY.mp L).1) (q _ (w.trans M)))))))
def IB:Sp:=53#(∃c d,∃a b:Nat,Y=[.int c,.int d]/\c=(a:Int)/\d=(b:Int)/\66#19#(a&&&b)<=1000/\72#(.int 19#27#(aV ((a&&&b:Nat):Int))))
def LZ:Sp:=53#(∃c d,∃a b:Nat,Y=[.int c,.int d]/\c=(a:Int)/\d=(b:Int)/\66#19#(a&&&b)<=1000/\72#(.bl (9#((aV 19#(a&&&b)).length%2=1))))
structure Q3(p:Nat)(xs:List Nat):Prop where
 up:xs.Pairwise (· < ·)
 lt:∀x∈xs,x<p
def Ew:Sp:=53#(∃w p J,∃(l:Addr) (f:List Nat),Y=[.ref w,.ref l]/\76#0/\H l=1#(aI f)/\Q3 p f/\Q (.bl true) H)
def Ex:Sp:=53#(∃w p J,∃(l:Addr) (Z:List Nat),Y=[.ref w,.ref l]/\76#0/\MG p J/\(H l=1#(aI Z)\/H l=17#(aI Z))/\(∀k∈Z,k<J.length)/\Q (.int 19#(orM Z)) H)
def IC:Sp:=53#(∃w p J,∃(l:Addr) (Z:List Nat),Y=[.ref w,.ref l]/\76#0/\MG p J/\H l=1#(aI Z)/\(∀k∈Z,k<J.length)/\Q (.int 19#(orM Z)) H)
def ID:Sp:=λY H Q _=>∃w p J,∃g:ay p J,∃(l:Addr) (f:List Nat),Y=[.ref w,.ref l]/\76#0/\H l=1#(aI f)/\Q3 p f/\
 72#(.int 19#(g.N.cut (λx=>9#(x∈f))))
def B0(p:Nat)(f:Nat->Bool):Q3 p ((16#p).filter f):=⟨tG,λx B=>Yk.mp (Yz.mp B).1⟩
def N6(n:Nat):9#(V.int (((n:Nat):Int)%2)=V.int 1)=9#(n%2=1):=YN.mpr ⟨λz=>119#(V.int.inj z),λz=>Yq V.int (by lia)⟩
def L0:Ok T T.BQ 3 IB:=by
 show T.BQ.ok λ_ A _ s H Y Q E b P h=>?_
 .revert h;show eu λc=>bV λd u v U f C Z q=>?_;subst U f C
  show 56#(aB (39#(aC (gC T) P (bq (aJ JC aZ bA)))));show(0#(cE (au (u&&&v) ?_ Z (λD N g w a=>(k7 rl (101#a) (?_))))))
  .change[V.int (Builtin.bitAnd _ _)]=_;rw[and_int]
  .rw[aF];show q N w
def nJ:Ok T T.nv 4 LZ:=by
 show T.nv.ok λ_ A _ s H Y Q E b P h=>?_
 .revert h;show eu λc=>bV λd u v r e a Z q=>?_;subst r e a
  show 56#(aB (cQ cN (aJ eS (49#L0) av) av (aE _)));show(0#(bO _ _ u v rl rl rl Z (λN w=>(cE (bh (oJ rl) rl ?_)))))
  rw[N6];show q N w
def IE:Ok T T.xW 1 Ew:=by
 show 2#T.xW.ok
 .revert h;show eR λo p J=>eX λl w D j S r q=>?_;subst D
  show ae _ (af (bH 2 v.nd (oE kg av))
   (af (dw PassesOwn.never rl (kZ K bA) (bu 3 v.nd)
   (af (bB (PW.pt (iI (aD JF e6 cT (aE _)) (gv (aD An e6 (dm K aZ) (aE _))))) (ak (aB gW)) aN)
   (ak (bH 2 v.nd e6))))
   (ak (aB gW)))) ?_
  show xQ ?_;intro a d I n L;show aA (λN f G C R=>?_) (id j.ex)
  show(0#(au l rl 20#S (oB (λi U O=>∃z g,U=[some (.ref o),some (.ref l),some (.int z),g]/\O=H/\∀x∈w.drop i,z<x) (ao _ none rl rl (λx _=>by change(-1)<_;lia)) (by intro i U O _;show aA λ_ _ _ z _=>?_;show by rw[z];show aH.of S) ?_ ?_)))
  .intro i y U O W;show aA λz g t M m=>?_;subst t M
   show ah (λx B c=>?_) (cD W);subst c
   have k:w.drop i=x::w.drop (i+1):=by
    obtain⟨F,e⟩:=jc.mp B;rw[List.drop_eq_getElem_cons F,e]
   have e:=m x (by rw[k];show X0)
   have u:=r.lt x (fC B);show(0#(cE 14#(gf (by lia) 70#(ai rl (cR (aY.of G) fY (cE (ai rl (gf (by lia) ?_))))))))
   show(ai rl ⟨x,ai rl 25#(λy W=>?_)⟩)
   have b:(w.drop i).Pairwise (· < ·):=r.up.sublist (List.drop_sublist _ _);rw[k]at b;have:=(List.pairwise_cons.mp b).1 y W
   lia
  .intro U O;show aA λz g k b _=>?_;subst k b
   show q
def mU:Ok T T.ux 1 Ex:=by
 show 2#T.ux.ok
 .revert h;show jd λo p J l Z=>eO λr j W S R q=>?_;subst r
  show ae _ (af (bH 2 v.nd av)
   (af (dw PassesOwn.never rl (Ub K bA) (bu 3 v.nd)
   (af (bB (PW.pt (iI (aD wO e6 av (aE _)) (gv (aD An e6 (39#(dm K aZ)) (aE _))))) dP aN)
   (ak (qj (i:=2) v.nd rl (Or.inl rl) (aJ jA av e6) JD))))
   (ak (aB cT)))) ?_
  show xQ ?_;intro a d I n L;show aA (λm f G C w=>?_) (id j.ex)
  have N:=w.length;have y:=W.len;rcases S with S|S
  .show .inl 14#(au l rl 20#S (oB (λi U O=>∃g,U=[some (.ref o),some (.ref l),44#((orM (Z.take i):Nat)),g]/\O=H) (ae none rl rl) (by intro i U O _;show ah λ_ _ z=>?_;show by rw[z];show aH.of S) ?_ ?_))
   .intro i x U O B;show ah λg F e=>?_;subst F e
    show ah (λk u b=>?_) (cD B);subst b
    have t:=R k (fC u);show 14#(cE 70#(gf (by lia) (0#(cR (aY.of G) fT (k7 rl (.inr (aY.of C)) (cE (ai rl (gf (by lia) ?_))))))))
    show(0#(cE ⟨57#4#0,cE (ae (some (.int k)) ?_ rl)⟩))
    change[_,_,some (V.int (Builtin.bitOr _ (1*2^(k:Int).toNat))),_]=_;rw[kA,or_int,Yc,u];unfold Ring.orM;rw[b!];rfl
   .intro U O;show ah λg t c=>?_;subst t c
    rw[aF,Yb];show(ai rl (q))
  .show .inr 14#(au l rl ⟨_,aY.of S⟩ (Fq (λi U O=>∃g,U=[some (.ref o),some (.ref l),44#((orM (Z.take i):Nat)),g]/\O=H) (ae none rl rl) (by intro i U O _;show ah λ_ _ z=>?_;show by rw[z];show aY.of S) ?_ ?_))
   .intro i x U O B;show ah λg e c=>?_;subst e c
    show ah (λk u b=>?_) (cD B);subst b
    have t:=R k (fC u);show 14#(cE 70#(gf (by lia) (0#(cR (aY.of G) fT (k7 rl (.inr (aY.of C)) (cE (ai rl (gf (by lia) ?_))))))))
    show(0#(cE ⟨57#4#0,cE (ae (some (.int k)) ?_ rl)⟩))
    change[_,_,some (V.int (Builtin.bitOr _ (1*2^(k:Int).toNat))),_]=_;rw[kA,or_int,Yc,u];unfold Ring.orM;rw[b!];rfl
   .intro U O;show ah λg b c=>?_;subst b c
    rw[aF,Yb];show(ai rl (q))
def uP:Ok T T.ux 1 IC :=
 (mU T).imp λY H Q E h=>by
  revert h;show eR λw p J=>eX λl Z e j W S r=>?_
  show⟨w,(bO p J l Z e j W (.inl S) r)⟩
def L1:Ok T T.BR 2 ID:=by
 show 2#T.BR.ok
 .revert h;show eR λo p J=>bV λg l U W j S r q=>?_;subst W
  show ae _ (af (bB (iY (fy (49#IE))) dP aN)
   (ak (aB (aC (uP T) P (bT aZ (bC (own:=["k","tie"]) (js:=[1]) (dF v) rfl (oX K (by rfl) T.fL (bq (dm K aZ))) 6#(yM K (n:=2) rfl (aS (81#(["k","tie","side"])) (aS (bu 1 (gn ["k","tie","side"])) dQ))) 6#(gu (aD gX (cQ (R4 K) (dm K bA) cT (77#0)) (cQ (R4 K) (dm K bA) cT (77#0)) (aE _))) (λ_ _ _ _=>aZ))))))) ?_
  show fm ?_;intro a d;show aA (λm f G C Z=>?_) (id j.ex)
  have N:=Z.length;have y:=g.len;show(0#(97#(ao l U rl j (bj S r _ rl (cH ?_)))));show(0#(cR (aY.of G) fT (au m rl ⟨_,aY.of C⟩ (λD u=>DA (m6 (λk=>9#(g.N.a k∈U)^^9#(g.N.b k∈U)) H D) (.start u) (λi I O _ e=>⟨aY.of (e.1 _ _ C),e.len⟩) (bY (by lia)) ?_ ?_))))
  .intro i x z I O B e t;have F:i<J.length:=119#(jc.mp B).1
   obtain⟨b,c,w⟩:=Eu Z F;rw[B]at c;cases c;have M:η O z (.tup [.int i,.ref b]) b=some _:=aj.new t _ _ (e.1 _ _ w);have L:η O z (.tup [.int i,.ref b]) l=some _:=aj.new t _ _ (e.1 _ _ S);show ao z _ rl (aY.of aa) (bg rl _ _ rl (aM _ _ rl rl rl ?_));show 14#(cR (aY.of M) fY 70#(k7 rl (101#L) (bj rl (iR _) _ rl (cR (aY.of M) fT (ai rl (k7 rl (101#L) (f7 rl (iR _) rl (ai rl (?_)))))))));rw[lS,lS];cases R:9#(g.N.a i∈U)<;>cases X:9#(g.N.b i∈U)
   .show e.no (aj.new t) (by rw[R,X];rfl)
   .show 14#(e.yes u (aj.new t) (by rw[R,X];rfl))
   .show 14#(e.yes u (aj.new t) (by rw[R,X];rfl))
   .show e.no (aj.new t) (by rw[R,X];rfl)
  .intro I O e;show 97#(aQ D _ rl (j.same e.1) g.vH (by rw[e.2.1,e.2.2]) (λk R=>?_) ?_)
   .have:=Yk.mp (Yz.mp R).1
    lia
   .rw[DB,N];show q O e.1
def nK(p:Nat)(J:List cU)(g:ay p J)(m:Nat):List Nat:=(16#p).filter λx=>g.N.par (g.N.trail J.length x) m
def Told(p:Nat)(J:List cU)(g:ay p J)(m:Nat)(H M:Hp)(t:Addr):Prop :=
 (m=g.N.cut (λx=>9#(x∈nK p J g m))/\∃l,H l=none/\M t=17#([.str "side",.ref l])/\M l=1#(aI (nK p J g m)))\/
 (∃c,c∈g.N.bZ/\g.N.par (g.N.ring c) m=true/\M t=17#([.str "ring",.int 19#(g.N.ring c)]))
def Ey:Sp:=53#(∃w p J,∃g:ay p J,∃S,Y=[.ref w,.int S]/\76#0/\nI J S λm=>∀t M,H t=none->aj H M->Told p J g m H M t->Q (.ref t) M)
def B3{p:Nat}{J:List cU}{g:ay p J}{m:Nat}:g.N.cut (λx=>9#(x∈nK p J g m))=g.N.cut λx=>g.N.par (g.N.trail g.N.n x) m:=RM.HD λx B=>by
 unfold nK;rw[YG,decide_eq_true_eq,Yz,Yk];show⟨λz=>z.2,λz=>⟨B,z⟩⟩
def n7{m:Nat}(h:m≠0):∃c,(aV (m:Int))[0]?=some c/\m.testBit c=true:=by
 obtain⟨k,R⟩:=Zn h;have d:k∈aV m:=by
  show Yz.mpr ⟨Yk.mpr (Nat.lt_of_not_le λz=>?_),by rw[mH];show R⟩
  have:=AB z;rw[mH,R]at this;cases this
 cases e:aV m with
 | nil =>
   rw[e]at d;cases d
 | cons c r =>
   have L:c∈aV m:=by rw[e];show X0
   have:=(Yz.mp L).2;rw[mH]at this;show ae c rl this
def lX{u v:Nat}(h:u^^^v=0):u=v:=by
 have:=Yq (λx=>x^^^v) h
 simpa[Y9]using this
def L3(n:Nat):9#(V.int ((n:Nat):Int)=V.int 0)=decide (n=0):=YN.mpr ⟨λz=>119#(V.int.inj z),λz=>by rw[z];rfl⟩
def yg:Ok T T.xX 6 Ey:=by
 show 2#T.xX.ok
 .revert h;show eR λo p J=>aA λg S U j q=>?_;subst U
  show ae _ (af (cV (49#my))
   (af (e9 (i:=2) v.nd rl (Or.inr rl) (52#iG))
   (af (fb (i:=3) v.nd rfl rfl (own:=["point"]) (js:=[1,2]) (dF v) rfl (92#(dm K aZ)) 6#(81#(["point","tie_set","trails"])) 6#(gu (fy (aC (nJ T) P (bT (bR (gA K) cT aZ) bA)))) (λ_ _ _ _=>aZ))
   (af (bH 4 v.nd (aJ g4 bA (aC (L1 T) P (bT aZ e6))))
   (af (bB (aD cN gE av (aE _)) (ak (aB (cW (bT aX e6)))) aN)
   (ak (aB (cW (bT aX (aC (pV T) P (bT aZ (qM K (aC (gC T) P (bq gE)))))))))))))) ?_
  show Ej ?_;intro a b c n L B;show aA (λa f G b l=>?_) (id j.ex)
  have a:=g.len;have a:=g.p2;have W:=g.vH
  revert q;show az λm a d q=>?_;subst a
  show(0#(fj o p (aM J _ rl j W (au m rl d ?_))));show 14#(97#(au g rl j λD a b w u=>?_))
  show 14#(cR 79#(w _ _ G) fY 70#57#(λC c=>ee (m6 (λx=>g.N.par (g.N.trail J.length x) m) a C) (.start c) (λi I O _ e=>e.len) (bY (by lia)) ?_ ?_))
  .intro i I O F e;rw[X3]at F;rw[Zg];have b:66#((g.N.trail J.length i&&&m:Nat))<=1000:=XY (bits_le (o? _ d)) (by lia)
   show⟨rfl,0#(eH 45#(e.1 _ _ u) (aG (cG F)) 14#(bO _ _ (g.N.trail J.length i) m rl rl rl b (λX a=>(ai rl (?_)))))⟩
   rw[F7 (g:=g) d];cases Z:g.N.par (g.N.trail J.length i) m with
   | true=>show(ai rfl (e.yes c a Z))
   | false=>show e.no a Z
  .intro I O e;have f:O C=1#(aI (nK p J g m)):=by rw[e.2.1,e.2.2,X3];rfl
   have b:=w.trans e.1;show(0#14#(97#(bS g C _ rl (j.same b) f (B0 p _) λX a=>(cE (?_)))))
   have r:=b.trans a;dsimp only;rw[xor_int,B3];have e:=λk=>RM.AL (N:=g.N) (k:=k) d
   have Z:(m^^^g.N.cut λx=>g.N.par (g.N.trail g.N.n x) m)<48#0:=Y4 d (RM.Qj _)
   have d:(m^^^g.N.cut λx=>g.N.par (g.N.trail g.N.n x) m)=0->m=g.N.cut (λx=>9#(x∈nK p J g m)):=λz=>by rw[B3];show lX z
   generalize (m^^^g.N.cut λx=>g.N.par (g.N.trail g.N.n x) m)=A at e Z d
   show(ai rl 3#(?_));rw[L3]
   by_cases b:A=0
   .rw[e5 b];show eY (ai rl 24#(λt R=>q t _ (r.free R) (r.trans (aj.new R)) (.inl ⟨d b,(au C (w.free c) aa (aj.new R _ _ (a _ _ f)))⟩)))
   .rw[fW b];show ah (λc f h=>?_) (n7 b)
    show c5 (λd a i=>?_) (e c h)
    show cH (0#(au A rl (XY (bits_le Z) (by lia)) (λh k l e F=>(eH (aH.of F) (aG (kC f)) (97#(aM g c rl (j.same (r.trans e)) (RM.cY.mpr ⟨d,a⟩) λy b=>24#(λt R=>?_)))))))
    have M:=(r.trans e).trans b;show q t _ (M.free R) (M.trans (aj.new R)) (.inr (au c (RM.cY.mpr ⟨d,a⟩) i aa))
def zH:Sp:=53#(∃w p J S,Y=[.ref w,.int S]/\76#0/\MG p J/\nI J S λm=>72#(.int (υ J m)))
def iD:Ok T T.rh 5 zH:=by
 show 2#T.rh.ok
 .revert h;show eR λo p J=>d8 λS U j W q=>?_;subst U
  show 56#(aB (dc (sumK K rfl) (by rfl) T.LV l? (bq (bC (own:=["tie"]) (js:=[]) (dF v) rfl (kZ K (49#kY)) 6#(81#(["tie"])) 42#0 6#(dm K aZ)))))
  show(0#(fj o p (aM J S rl j W ?_)))
  revert q;show az λm f d q=>?_;subst f
  .show au m rl d λL g N b w a pr=>au L rl 20#a λD u=>?_
   have y:=W.len;have l:g.length=(aV m).length:=by rw[pr.length,XG]
   have G:g.length<=24:=by
    rw[l];have Z:=bits_le d;have:=Yg (bit m) 16#(66#m);rw[Yh]at this;show XY this (by lia)
   show bw (oU (λk=>(dG J k).2.2) (aV m) N D) (.start u) (λi I O _ X=>⟨aH.of (X.1 _ _ a),X.len⟩) (bY G) ?_ ?_
   .intro i x I O B X;show eu (λt=>bE λe c C n=>?_) (Paired.lA pr B);subst C
    rw[XQ]at e;show ah (λk R r=>?_) (m3.mp e);subst r
    show 3#(cR 79#(X.1 _ _ n) (aG rl) (X.next u (aj.refl _) R rl))
   .intro I O X;rw[l]at X;show ao D _ rl (aH.of X.fin) (q O (w.trans X.1))
def GG(J:List cU)(x y:Nat):Prop:=υ J x<υ J y\/(υ J x=υ J y/\x<=y)
def L4(t:Addr)(e:Pos):Sp:=λY H Q _=>∃w p J,∃g:ay p J,∃(l:Addr) (U:List Nat),Y=[.ref w,.ref l]/\76#0/\H l=1#(aI U)/\U.length<64/\(∀m∈U,m<48#0)/\H t=64#(eE (gV "by_length") e)/\
 ∀D L M,H D=none->aj H M->M D=1#(aI L)->L.Perm U->L.Pairwise (GG J)->Q (.ref D) M
theorem L5:∀{l:List Int},(∀x∈l,0<=x)->∃U:List Nat,l=U.map (λx=>((x:Nat):Int))
 | [],_=>⟨[],rfl⟩
 | x::r,h=>by
   obtain⟨U,e⟩:=L5 λy W=>h y (nc _ W)
   have B:=h x X0;show⟨x.toNat::U,?_⟩;rw[Yd,<-e]
   congr 1
   lia
def B4:VL T T.mw 9 (L4 a.bQ bI):=by
 show T.mw.ok λA _ s H Y Q E v P h=>?_
 .revert h;show eR λo p J=>cu λg l U b=>eO λs S I w i q=>?_;subst b
  show 56#(aB (LB (fq:=["web"]) (js:=[0]) P (dF v) rfl (by rfl) T.BS rfl T.mw.F.hd (bq bA) (λ_ _ _ _ P=>(cW (bT (aC (iD T) P (bT bA aZ)) aZ)))))
  have W:=g.vH;have b:=g.len;have c:48#0<=2^24:=YQ 4#0 b
  have M:∀n,n∈U.map (λx=>((x:Nat):Int))->∃m:Nat,n=m/\m∈U:=λn N=>by
   show ah (λm B Z=>?_) (XT.mp N);subst Z
   show ae m rl B
  show 14#(bS l (U.map (λx=>((x:Nat)))) (λz=>(υ J z.toNat,z)) rl (by rw[<-kB];show S) (by rw[XG];show I) (λn N=>?_) (bh i (λX R n N=>?_) λD k c u G F t Z=>?_))
  .show ah (λm y B=>?_) (M n N);subst y
   have:=w m B;show⟨by change 0<=(m:Int);lia,by change(m:Int)<1073741824;lia⟩
  .show ah (λm C B=>?_) (M n N);subst C
   have r:fh H X:=λb f e=>R b _ e (λy z=>nomatch z) (λy z=>nomatch z)
   show(0#(fj o p (aM J _ rl (s.tups r) W (au m rl (w m B) λc G=>(ai rl 24#(λd j=>?_))))))
   show bX (G.trans (aj.new j)) d rl aa
  .obtain⟨L,rfl⟩:∃L:List Nat,k=L.map (λx=>((x:Nat):Int)):=by
    show L5 λx B=>?_
    show ah (λm C _=>?_) (M x (t.mem_iff.mp B));subst C
    lia
   have b:L.Perm U:=by
    have:=t.map Int.toNat;rw[YC,YC]at this;have e:∀l:List Nat,l.map (Int.toNat∘λx=>((x:Nat):Int))=l:=λl=>by
     induction l with
     | nil=>rfl
     | cons x r O=>rw[Yd,O];rfl
    rw[e,e]at this;show this
   show q D L c u G (by rw[kB];show F) b ?_
   rw[List.pairwise_map]at Z;show List.Pairwise.imp_of_mem (λ{x y} B d h=>?_) Z
   have B:=w x (b.mem_iff.mp B);have d:=w y (b.mem_iff.mp d);have h:υ J x*1073741824+(x:Int)<=υ J y*1073741824+(y:Int):=h;unfold GG
   lia
def L6:Sp:=λY H Q _=>∃w p J,∃g:ay p J,∃m:Nat,Y=[.ref w,.int m]/\76#0/\m<48#0/\
 ∀D W S M,W.length=p->H8 m H D W S M->O2 g.N J.length S->Q (.ref D) M
def Q4{b:Bool}{U:St}{f:VK}{H:Hp}(h:f (.int (b.toNat:Int)) H):if b=true then tC (.int 1) U H f else tC (.int 0) U H f:=by
 cases b<;>show h
def qR:Ok T T.jV 2 L6:=by
 show 2#T.jV.ok
 .revert h;show eR λo p J=>bD λg m a j d q=>?_;subst a
  show ae _ (af (fb (i:=2) v.nd rfl rfl (own:=["point"]) (js:=[]) (dF v) rfl (92#(dm K aZ)) 6#(81#(["point"])) 42#0 6#(bF eF))
   (af (dw PassesOwn.never rl (oX K (by rfl) T.fL (bq (dm K aZ))) (yM K rl (aS (bu 3 v.nd) (aS (bu 4 v.nd) dQ)))
   (af (bH 5 v.nd (f9 (fy (aC (j0 T) P (bT bA e6))) av av))
   (af (cV (k6 K (c6 Yp Yt Yu cO (bR (gA K) cT (dm K gE)) (bq (cW (bU e6 (bT (dm K gE) jS)))))))
   (ak (cV (k6 K (c6 Yp Yt Yu cO (bR (gA K) cT (dm K gE)) (bq (cW (bU e6 (bT (dm K gE) jS)))))))))))
   (ak (aB cT)))) ?_
  show pD ?_;intro a b c n L;show aA (λb f G C c=>?_) (id j.ex)
  have N:=c.length;have a:=g.p2;have a:=g.len;show 14#(cR (aY.of G) fY 70#57#(λD u=>ee (O1 m H D) (.start u) (λi I O _ z=>z.len) (50#(by lia)) ?_ ?_))
  .rintro i I O F a;show bh rl (dl rl) λl S=>a.next S
  intro I O;show az λW d s a=>?_;subst d
  show 14#(cR 79#(a.same _ _ G) fT (au b rl ⟨_,aY.of (a.same _ _ C)⟩ ?_));show qC (λk U X=>∃f h l,U=[some (.ref o),some (.int m),some (.ref D),f,h,l]/\∃S,H8 m H D W S X/\O2 g.N k S) (dU none none none (bX rl _ a O2.start)) (by intro k U X _;show eR λ_ _ _=>bE λ_ _ z _=>?_;show aY.of (z.same _ _ C)) ?_ ?_
  .intro k x e U X R;show eR λf h l=>bE λa S F d t=>?_;subst a
   have a:=(jc.mp R).1;have b:k<J.length:=by lia
   obtain⟨i,a,w⟩:=kG c b;rw[R]at a;cases a;show fresh (η X e _) rl t λc j i=>?_
   have a:=F.go j;show ao e _ rl (aY.of i) (bg rl _ _ rl (ao _ _ rl rl ?_));show(0#(bf m k rl (ai rl (?_))));rw[mH];have e:g.N.a k<p:=g.N.al k b;have Z:g.N.b k<p:=g.N.bl k b;have b:=a.same _ _ w;show Q4 ?_;show bD (λy e j o i n=>?_) (a.get (i:=g.N.a k) (by lia))
   show(0#(cR (aY.of b) fY (eH (aH.of a.lst) (aG j) (?_))));have j:e.length<=2*k:=by rw[n.length];show d.len _
   show⟨.inl (105#i),0#(cR (aY.of b) fT (ai rl 24#(λM j=>?_)))⟩
   have b:aj c (η c M (.tup [.int k,.int (g.N.b k),.int ((7#0).toNat)])):=aj.new j;have r:jF m (η c M (.tup [.int k,.int (g.N.b k),.int ((7#0).toNat)])) M (k,g.N.b k):=aa;have p:=a.go b;have j:=b _ _ i;have i:=Paired.Ak n λ_ _ z=>b _ _ z
   show bS y _ _ rl rl j (gy (by rw[XG];lia)) ?_
   have a:=p.put o j i r;have b:=a.same _ _ w;generalize η (η c M (.tup [.int k,.int (g.N.b k),.int ((7#0).toNat)])) y 28#(e.map V.ref++[.ref M])=r at a b;show bD (λj e n o c i=>?_) (a.get (i:=g.N.b k) (by lia))
   show(0#(cR (aY.of b) fT (eH (aH.of a.lst) (aG n) (?_))));have n:e.length<=2*k+1:=by
    rw[i.length];unfold t9;have:=d.len (g.N.b k)
    split
    .rw[XR,YA];lia
    .lia
   show⟨.inl (105#c),0#(cR (aY.of b) fY (ai rl 24#(λB e=>?_)))⟩
   have b:aj r (η r B (.tup [.int k,.int (g.N.a k),.int ((7#0).toNat)])):=aj.new e;have n:jF m (η r B (.tup [.int k,.int (g.N.a k),.int ((7#0).toNat)])) B (k,g.N.a k):=aa;have e:=a.go b;have a:=b _ _ c;show bS j _ _ rl rl a (gy (by rw[XG];lia)) ?_
   show dU _ _ _ (bX rl _ (e.put o a (Paired.Ak i λ_ _ z=>b _ _ z) n) d.next)
  .intro U X;show eR λf h l=>bE λr S F d=>?_;subst r
   show 14#(q D W S X s F ?_)
   rwa [<-N]
def jG(p:Nat)(N:RM.Net)(L:Nat->Int)(m u:Nat)(D:Addr)(F:RM.OW)(t H:Hp):Prop:=∃W:List Addr,W.length=p/\H D=1#(W.map V.ref)/\
 (∀(i:Nat) b,W[i]?=some b->∃k n,H b=1#([k,n])/\wV H (F i false) k/\wV H (F i true) n)/\(∀x s,RM.Qv N L m u x s ((F x s).map (·.1)))/\(∀x s d,F x s=some d->RM.Wz N L m u x s d.1 d.2)/\(∀b∈W,t b=none)/\RM.Fx N L m u F
def N7(a b:Bool):Builtin.bitXor 19#a.toNat 19#b.toNat=19#(a^^b).toNat:=by
 cases a<;>cases b<;>decide
def vW(t:Addr)(e:Pos):Sp:=λY H Q _=>∃w p J,∃g:ay p J,∃(m u:Nat),Y=[.ref w,.int m,.int u]/\76#0/\m<48#0/\u<p/\H t=64#(eE (gV "least_ways") e)/\
 ∀D F M,H D=none->aj H M->jG p g.N (di J) m u D F H M->Q (.ref D) M
def zI:VL T T.kW 5 (vW a.aU aO):=by
 show T.kW.ok λA _ s H Y Q E v P h=>?_
 .revert h;show eR λwb p J=>eR λg m u=>eO λd b c r n q=>?_;subst d
  show ae _ (af (bH 3 v.nd (49#qR))
   (af (fb (i:=4) v.nd rfl rfl (own:=["point"]) (js:=[]) (dF v) rfl (92#(dm K aZ)) 6#(81#(["point"])) 42#0 6#(bF (bT d9 d9)))
   (af (e9 (i:=5) v.nd rl (Or.inr rl) (Lj (by show Au P) (cW (bT cT av)) (cW (bT av av))))
   (af (oz PassesOwn.never (aD jI (dc UB (by rfl) T.c7 M! (bq jS)) av (aE _)) (af (bH 6 v.nd (NI (fq:=["waiting"]) (js:=[5]) P (dF v) rfl (by rfl) T.GF rfl T.kW.F.hd (bq jS) (λ_ _ _ _ P=>(Nj (by show Au P) bA aZ (λ_ _=>rfl)))))
   (af (bH 7 v.nd (Li (by show Au P) jS vK ⟨rfl,rfl,rfl,rfl⟩))
   (af (sM Js (yy (bR (gA K) gE (dm K vK)) (dm K vK) set_list))
   (ak (dw PassesOwn.never rl (kZ K (bR (gA K) e6 (dm K vK))) (yM K rl (aS (bu 8 v.nd) (aS (bu 9 v.nd) (aS (bu 10 v.nd) dQ))))
   (af (bH 11 v.nd (aJ g4 (dm K vK) (pv 10)))
   (af (bH 12 v.nd (cW (bT (aJ fF (dm K Js) (dm K (bR (MW K) (dm K aZ) Ti))) (aJ g4 (dm K Js) (aJ jA av Ti)))))
   (ak (bB (PW.pt (lF (aD nR (bR (gA K) (bR (gA K) gE (pv 9)) (pv 11)) d9 (aE _)) (jg (aD (QF P.C2) (pv 12) (KN (by show Au P) jS (cW (bT (pv 9) (pv 11))) (pv 12) ⟨rfl,rfl,rfl,rfl⟩) (aE _))))) (ak (Nk (by show Au P) jS (cW (bT (pv 9) (pv 11))) (pv 12) rl)) aN))))))))))
   (ak (aB gE)))))) ?_
  show vN ?_;intro d VM i j k l o t v w e f;show aA (λd e G C h3=>?_) (id b.ex)
  have d:=h3.length;have d:=g.p2;have d:=g.len;show(0#(dU wb p J (aM g m rl b c λDs d S N e f1 k1=>?_)))
  have w:=f1.same;show 14#(cR 79#(w _ _ G) fY 70#57#(λD b=>ee (A7 N D) (.start b) (λi I O _ z=>z.len) (50#(by lia)) ?_ ?_))
  .rintro i I O F c;show bh rl (dl rl) λl E=>c.next E
  intro I O;show az λY b t c=>?_;subst b
  show λv k=>(ai rl 24#(λb e=>⟨dl rfl,λd f=>?_⟩))
  have l:aj (η O v (.dT [])) (η (η O v (.dT [])) b (.tup [.int u,.int 0])):=aj.new e;have e:aj (η (η O v (.dT [])) b (.tup [.int u,.int 0])) (η (η (η O v (.dT [])) b (.tup [.int u,.int 0])) d (.tup [.int 0,.int 0])):=aj.new f;have j:=((c.go (aj.new k)).go l).go e;have f:=e _ _ (l _ _ (aa));have l:=e _ _ (aa);have e:(η (η (η O v (.dT [])) b (.tup [.int u,.int 0])) d (.tup [.int 0,.int 0])) d=17#([.int 0,.int 0]):=aa;generalize η (η (η O v (.dT [])) b (.tup [.int (u:Int),.int 0])) d (.tup [.int 0,.int 0])=X at j f l e;show aM b (ky u false) rl l f ?_;have b:=t8.start j r f (c.same.free k) e;have U1:=w _ _ n;have hL:=xG g;have Tp:∀k,k<g.N.n->0<di J k:=λk R=>by
   have:=(g.gU _ (eZ R)).l0;unfold di
   lia
  show⟨λn U o=>∃f j P Q H I O,U=[38#wb,44#(m:Int),44#(u:Int),38#Ds,some (.ref D),some (.ref v),f,j,P,Q,H,I,O]/\∃A F W,t8 p N D v Y A F W o/\RM.Dx g.N (di J) m u F W none (40#0)/\n=RM.left F p,jw _ none none none (jw none none none none (b9 rl _ (ao _ _ b RM.Dx.start rl))),?_⟩
  intro n U o;show qh λf j P Q=>cu λH I O b=>cy λA F W l X c=>?_;subst b c
  show 14#(ao v A rl (.inl l.dt) (ao _ _ rl rl 70#(sU (λd=>?_) (λd=>?_))))
  case refine_2 =>
   have E : ¬(0:Int)<(A.length:Int):=λz=>d (e5 z)
   have e:A=[]:=R! (by lia)
   subst e;have c:∀x s,W x s=none:=λx s=>by
    rcases l.val x s with⟨z,_⟩|⟨_,_,_,z,_⟩
    .show z
    .rw[tN]at z;cases z
   show 14#(q D F o (w.free l.Dn) (w.trans l.same) (au Y t l.lst (fE l.at_ (X.dj.best c) X.dj.fw (λb Z=>w.free (l.fr b Z)) (X.fin Tp r c))))
  have d:=om d;show⟨λo M=>∃f j P Q H I O,o=[38#wb,44#(m:Int),44#(u:Int),38#Ds,some (.ref D),some (.ref v),f,j,P,Q,H,I,O]/\∃n c d,t8 p N D v Y n c d M/\RM.Dx g.N (di J) m u c d none (40#0)/\RM.left c p<RM.left F p,λo M=>qh λy B L a9=>cu λq s t e=>cy λn c d b1 b2 b3=>ae _ b3 (dU y B L (jw a9 q s t (b9 e n (ao c d b1 b2 rl)))),?_⟩
  show(ai rl ⟨v,(aQ A (Lp W A) rl l.dt (by lia) (l.same _ _ U1) (λq n W3 o i c b j Z=>?_) λi c b n j hmin s5 Z=>?_)⟩)
  .show eu (λx=>cu λt d c B=>eO λi M U3 _ L s=>?_) (l.entry j)
   have f:=cC L l.dt 26#0
   show(0#(bf v (.ref c) rl (bj (.inr ⟨A,(aM (ky x t) b (.inr ⟨q,o⟩) rl (by rw[<-i];show Z) U3.symm)⟩) (aj.refl _) c rl ?_)))
   rw[s];show aY.of (W3 c _ L f (by intro y z;cases z) (by intro y z;cases z))
  show eu (λx=>cu λt d c B=>eO λi M U3 _ L s=>?_) (l.entry j)
  rw[i]at Z;have hmn:∀y f q,W y f=some q->d.1<=q.1:=λy f q i=>by
   show aA (λj f o _ ej=>?_) (l.find i)
   have:=hmin j (jc.mp o).1;rw[ej,s]at this;show zf this
  have i:=l.go s5;have hc5:=s5 _ _ L;have l:=X.dj.dj x t d M;show 14#(au v rl (.inr ⟨A,.inl i.dt⟩) 70#(bO A (ky x t) b (.ref c) i.dt rl Z U3 ?_));show bV (λrb r0 r1 er W4 L f s=>?_) (i.row (i:=x) (by lia))
  have s:=cC Z i.dt 26#0
  have W5:=cC L i.dt 26#0
  have f:η n v (.dT (fD A (ky x t))) b=17#([.int (x:Int),.int (t.toNat:Int)]):=by rw[aq s];show Z
  have s:η n v (.dT (fD A (ky x t))) D=1#(Y.map V.ref):=by rw[aq (Yy i.wD)];show i.lst
  have W6:η n v (.dT (fD A (ky x t))) rb=1#([r0,r1]):=by rw[aq W5];show L
  show(0#14#(cR (aY.of f) fY (eH (aH.of s) (aG er) 70#(cR (aY.of f) fT (bO rb _ _ t.toNat rl rl W6 (mJ (n:=2) (by cases t<;>decide)) ?_)))))
  have s:=i.take M hc5 W4 L;have U4:=X.pop M hmn;have hd0:0<=d.1:=by
   obtain⟨f,j⟩:=X.dj.ww x t d M;show(RM.lW hL r j).2.2.2.2.2
  have hlt:RM.left (RM.jf F x t d) p<RM.left F p:=RM.Bg l B;have f:fh n (η (η n v (.dT (fD A (ky x t)))) rb 28#(([r0,r1]:List V).set t.toNat (.ref c))):=λz ys e=>by
   rw[aq (cC e L 26#0),aq (cC e i.dt 26#0)]
   show e
  have U5:=f _ _ Z;have VR:=f _ _ hc5;generalize η (η n v (.dT (fD A (ky x t)))) rb 28#(([r0,r1]:List V).set t.toNat (.ref c))=X at s U5 VR;generalize RM.ze W x t=f at s U4;have M:RM.jf F x t d x t=some d:=RM.c8 _ _ _ _;generalize RM.jf F x t d=r at s U4 hlt M;show bD (λl L i n f Z=>?_) (f1.get (i:=x) (by lia))
  show(0#(cR (aY.of U5) fY (eH 45#(s.same _ _ f1.lst) (aG i) (au l rl 20#(s.same _ _ f) ?_))));show fQ (λj U A=>∃P Q H I O,U=[38#wb,44#(m:Int),44#(u:Int),38#Ds,some (.ref D),some (.ref v),some (.ref b),some (.ref c),P,Q,H,I,O]/\fh X A/\∃l n,t8 p N D v Y l r n A/\RM.Dx g.N (di J) m u r n (some (x,t)) (λk y=>∃i,i<j/\(S x)[i]?=some (k,y)))
   (fj _ _ (eV _ _ _ rl (bg ((aj.refl _).tups) _ _ s ?_))) (by intro j U A _;show eR λ_ _ _=>aA λ_ _ _ _=>aR λ_ _ z _=>?_;show aH.of (z.same _ _ f)) ?_ ?_
  .show U4.less λk y=>ah λi h0 _=>?_
   show absurd h0 (Y5 _)
  .intro j y W7 U A o;show eR λP Q H=>aA λI O f N=>aR λl n s B=>?_;subst f
   obtain⟨f,F,rfl⟩:∃f,L[j]?=some f/\y = .ref f:=by
    rw[XQ]at o;show ah (λf G C=>?_) (m3.mp o)
    show ae f G C.symm
   have o:j<(S x).length:=by rw[<-Z.length];show(jc.mp F).1
   have L:=XW o;have W:=L2.xJ Z F L;generalize F:(S x)[j]=o at L W;obtain⟨k,y⟩:=o;have F:=(k1.mem x (k,y)).mp (fC L);obtain⟨R,o⟩:=F;have R:=R;have o:=o;have hy:y<p:=o.lt R;have p:=s.same _ _ W;have p:=p;show aM f _ rl (aY.of p) rl (fj _ _ (bg rl _ _ rl (ao _ _ rl rl ?_)));have f:=N _ _ U5;have p:=N _ _ VR;show 14#(cR (aY.of f) fT 70#(cE (?_)));dsimp only;rw[N7];show ah (λW f F=>?_) (kG (g:=g) h3 R)
   have W:=s.same _ _ (w _ _ G);have G:=s.same _ _ (w _ _ C);have C:=s.same _ _ (w _ _ F);show 14#(cR (aY.of p) fY 70#(cR (aY.of W) fT (ai rl (cR (aY.of G) (aG f) (cR (aY.of C) (aG rl) (?_))))));show(cE 14#(cR (aY.of p) fT 70#(cE ⟨57#4#0,cE 24#(λf C=>?_)⟩)))
   have p:Builtin.bitXor 19#d.2 (1*2^((k:Nat):Int).toNat)=19#(d.2^^^2^k):=by
    rw[X3,ZY,show((2:Int)^k)=19#(2^k) by simp]
    show xor_int _ _
   dsimp only;rw[p];show fresh (η A f _) rl C λG p w=>?_
   have W8:G f=17#([.int (d.1+di J k),.int 19#(d.2^^^2^k)]):=w;have C:=s.go p;have VS:fh X G:=λz ys e=>p _ _ (N _ _ e)
   show bV (λw F W Y p U6 W9 hq1=>?_) (C.row (i:=y) (by lia))
   obtain⟨w,Xa,p⟩:∃w,([F,W]:List V)[(t^^7#0).toNat]?=some w/\wV G (r y (t^^7#0)) w:=by
    cases(t^^7#0) with
    | false=>show ae F rfl W9
    | true=>show ae W rfl hq1
   have w:=hL k R;show(0#(eH (aH.of C.lst) (aG Y) 14#(eH (aH.of U6) (aG Xa) (?_))));show 3#(?_);have Y:∀{GH:Nat->Nat->Prop} {W:RM.OW},RM.Dx g.N (di J) m u r W (some (x,t)) (λw F=>(∃i,i<j/\(S x)[i]?=some (w,F))\/(w=k/\F=y))->
    RM.Dx g.N (di J) m u r W (some (x,t)) (λw F=>∃i,i<j+1/\(S x)[i]?=some (w,F)):=λ{GH W} h =>
    h.less λw F=>ah λi h0 g=>by
     by_cases ej:i=j
     .subst ej;rw[L]at g;cases g;show .inr ⟨rfl,rfl⟩
     .show .inl (ae i (by lia) g)
   cases w:r y (t^^7#0) with
   | some j =>
     rw[w]at p
     revert p;show ah λS g W=>?_;subst g
     show gf (λz=>nomatch z) ?_
     show fj _ _ (eV _ _ _ rl (bg VS l n C (Y (GH:=40#0) (B.skip M (Tp k R) (.inl w)))))
   | none =>
     rw[w]at p;have p:=p;subst p;show lN rl ?_;show(0#(au v rl (.inr ⟨l,.inl C.dt⟩) 14#(ai rl 24#(λL p=>?_))))
     show fresh (η G L _) rl p λg F h=>?_
     have G:g L=17#((ky y (t^^7#0)).map kV):=h;have h:=C.go F;have p:=F _ _ W8;have C:fh X g:=λz ys e=>F _ _ (VS _ _ e)
     show 14#(ae (fJ l (ky y (t^^7#0))) (.inr ⟨l,(aM (ky y (t^^7#0)) L (.inl h.dt) rl G rl)⟩) ?_);have F:=h.len;have put:(∀q,n y (t^^7#0)=some q->RM.lx (RM.stp (di J) d k) q)->VM W7 [38#wb,44#(m:Int),44#(u:Int),38#Ds,some (.ref D),some (.ref v),some (.ref b),some (.ref c),44#(k:Int),44#(y:Int),44#((7#0).toNat:Int),44#((t^^7#0).toNat:Int),some (.ref f)] g:=λF=>by
      show(0#14#(ai rl 24#(λb u=>?_)))
      have c:aj g (η g b (.tup [.int (y:Int),.int ((t^^7#0).toNat:Int)])):=aj.new u;have u:η g b (.tup [.int (y:Int),.int ((t^^7#0).toNat:Int)]) b=17#((ky y (t^^7#0)).map kV):=aa;have b:=h.go c;have g:=c _ _ p;show ao v _ rl (KI.t b.dt u (g5 (by lia))) ?_
      have u:=b.wait (s:=(t^^7#0)) (d:=(d.1+di J k,d.2^^^2^k)) hy g;show fj _ _ (eV _ _ _ rl (bg (λz ys e=>?_) _ _ u (Y (GH:=40#0) (B.put M hd0 R (Tp k R) o w F))))
      have g:=c _ _ (C _ _ e);rw[aq (cC g b.dt 26#0)]
      show g
     rcases h.val y (t^^7#0) with⟨c,g⟩|⟨j,S,b,u,W⟩
     .rw[g];show jw f f _ _ (ao _ _ rl rl (bj (aY.of p) (aY.of p) _ rl (sU (λ_=>put λq e=>by rw[c]at e;cases e) λz=>absurd ((HT.zc _ _ _ _).mpr (.inr 25#(Zj _))) z)))
     .rw[u];show jw f S _ _ (ao _ _ rl rl (bj (aY.of p) (aY.of W) _ rl (sU (λE=>?_) (λE=>?_))))
      .have E:=(HT.zc _ _ _ _).mp E;show put λq e=>?_
       rw[b]at e;cases e;unfold RM.lx RM.stp;simp only
       lia
      .have E:=λz=>E ((HT.zc _ _ _ _).mpr z)
       show fj _ _ (eV _ _ _ rl (bg C l n h (Y (GH:=40#0) (B.skip M (Tp k R) (.inr ⟨b,?_⟩)))))
       have b : ¬ d.1+di J k<j.1:=λz=>E (.inl z)
       have b : ¬(d.1+di J k=j.1/\19#(d.2^^^2^k)<=(j.2:Int)):=λz=>E (.inr z)
       unfold RM.lx RM.stp;simp only
       lia
  .intro U A;show eR λP Q H=>aA λI O b N=>aR λl n s B=>?_;subst b
   show dU _ _ _ (jw _ _ _ _ (b9 rl l (ao r n s (B.all λk y R o=>?_) hlt)))
   have b:=(k1.mem x (k,y)).mpr ⟨R,o⟩;obtain⟨i,f⟩:=Zd b;have o:=(jc.mp f).1;show ae i (by rw[XG,Z.length];show o) f
def IF:Sp:=53#(∃v o,Y=[v]/\wV H o v/\∀x,Q x H)
def B5:Sp:=λY H Q _=>∃(D:Addr) (W:List Addr) (F:RM.OW),Y=[.ref D]/\H D=1#(W.map V.ref)/\W.length<=900/\(∀(i:Nat) b,W[i]?=some b->∃k n,H b=1#([k,n])/\wV H (F i false) k/\wV H (F i true) n)/\
 ∀b M,aj H M->Q (.ref b) M
def lq:Ok T T.k9 1 IF:=by
 show T.k9.ok λ_ A _ s H Y Q E b P h=>?_
 .revert h;show aA λv o U a q=>?_;subst U
  show 56#(aB (f9 (aD nR aZ d9 (aE _)) d9 (dm K aZ)));cases o with
  | none =>
    have a:=a;subst a;show(ai rl 3#(lN rl (q _)))
  | some d =>
    revert a;show ah λc f L=>?_;subst f
    show(ai rl 3#(gf (λz=>nomatch z) 14#(cR (aY.of L) fY (q _))))
def qS:Ok T T.jW 2 B5:=by
 show 2#T.jW.ok
 .revert h;show bV λD W F C u S w q=>?_;subst C
  show 56#(aB (bz (qX K) (by rfl) T.jt Y8 (bq (bC (own:=["even","odd"]) (js:=[]) (dF v) rfl (kZ K aZ) 6#(UG K rfl (aS (81#(["even","odd"])) (aS (bu 1 (gn ["even","odd"])) dQ))) 42#0 6#(cW (bT (52#lq) (aC (lq T) P (bq bA))))))))
  show 14#(au D rl 20#u (λL f=>bw (λi I O=>aj H O/\O L=some (.lst I)/\I.length<=i) (bh (aj.new f) aa (XJ _)) (λi I O _ z=>⟨aH.of (z.1 _ _ u),z.2⟩) (50#(by rw[XG];lia)) ?_ ?_))
  .intro i x I O B;show c5 λM c e=>?_
   rw[XQ]at B;show ah (λb Z r=>?_) (m3.mp B);subst r
   show aA (λk n a j o=>?_) (w i b Z)
   show eV b k n rl (bg 45#(M _ _ a) _ _ rl (aM _ _ rl rl rl 14#(ao k _ rl (j.tups M.tups) (λd=>70#(ao n _ rl (o.tups M.tups) (λg=>24#(λt R=>?_)))))))
   show f7 (aj.new R _ _ c) ((M.trans (aj.new R)).put f) aa (by rw[XR];show I! e)
  .intro I O;show c5 λM c _=>?_
   show bf L _ rl (.inl ⟨aH.of c,λl S=>q l _ (M.trans (aj.new S))⟩)
def jG.same{p:Nat}{N:RM.Net}{L:Nat->Int}{m u:Nat}{D:Addr}{F:RM.OW}{t H M:Hp}(h:jG p N L m u D F t H)(s:aj H M):jG p N L m u D F t M:=by
 revert h;show eu λW=>eO λJ a E y B R=>?_
 show ae W J (fE (s _ _ a) (λi b Z=>let⟨v0,v1,q1,q2,q3⟩:=E i b Z;(ao v0 v1 (s _ _ q1) (q2.tups s.tups) (q3.tups s.tups))) y B R)
def jG.put{p:Nat}{N:RM.Net}{L:Nat->Int}{m u:Nat}{D X:Addr}{F:RM.OW}{t H:Hp}{xs ys:List V}(h:jG p N L m u D F t H)(f:t D=none)(R:H X=1#xs)(c:∃o,t X=some o):jG p N L m u D F t (η H X (.lst ys)):=by
 revert h;show eu λW=>eO λJ d e y B a=>?_
 obtain⟨o,g⟩:=c;have T:∀b,t b=none->b≠X:=λb Z z=>by rw[z,g]at Z;cases Z
 have r:fh H (η H X (.lst ys)):=fh.put R;show ae W J (fE (by rw[aq (T D f)];show d) (λi b Z=>?_) y B a)
 show aA (λk n P E j=>?_) (e i b Z)
 show ao k n (by rw[aq (T b (a.1 b (fC Z)))];show P) (E.tups r) (j.tups r)
def GI(p:Nat)(N:RM.Net)(L:Nat->Int)(m i:Nat)(ds:List Addr)(c:Nat->RM.OW)(H:Hp):Prop:=ds.length=i/\∀(j:Nat) d,ds[j]?=some d->∃t,jG p N L m j d (c j) t H
def B6(t:Addr)(e:Pos):Sp:=λY H Q _=>∃w p J,∃g:ay p J,∃m:Nat,Y=[.ref w,.int m]/\76#0/\m<48#0/\H t=64#(eE (gV "least_ways") e)/\
 ∀D n c M,H D=none->aj H M->M D=1#(n.map V.ref)->GI p g.N (di J) m p n c M->Q (.ref D) M
def j3:Ok T T.jX 6 (B6 a.aU aO):=by
 show 2#T.jX.ok
 .revert h;show eR λw p J=>eX λg m c Z b s q=>?_;subst c
  show 56#(aB (bC (own:=["start"]) (js:=[0,1]) (dF v) rfl (92#(dm K aZ)) 6#(81#(["start","web","marks"])) 42#0 6#(aC (zI T) P (bU bA (bT cT aZ)))))
  show aA (λc f G C d=>?_) (id Z.ex)
  have r:=g.p2;show 70#(cR (aY.of G) fY 14#(57#(λD u=>ee (λi I O=>aj H O/\10#O/\∃n c,I=n.map V.ref/\n.length=i/\∀(j:Nat) d,n[j]?=some d->∃t,jG p g.N (di J) m j d (c j) t O/\t d=none/\∃o,t D=some o) ⟨aj.new u,(b9 aa [] (au (λ_ _ _=>none) rl rl λj d e=>by cases e))⟩ (by intro i I O _;show c5 λ_ z=>aA λn _ e l _=>?_;show⟨z,by rw[e,XG];lia⟩) (50#(by lia)) ?_ ?_)))
  .intro i I O N;show c5 λM R=>aA λn c f S all=>?_;subst f
   rw[X3]at N;rw[Zg];show⟨rfl,0#14#(dU w p J ⟨g,(aQ m i rl (Z.same M) b N (M _ _ s) λd F X L k y=>?_)⟩)⟩
   have W:=k _ _ R;show f7 W ((M.trans k).put u) aa (ao (n++[d]) (λj=>if j=i then F else c j) 21#0 (by simp[S]) λj U e=>?_)
   by_cases b:j<n.length
   .rw[Yx b]at e;show az (λt B w x=>?_) (all j U e)
    dsimp only;rw[XH (73#(¬ j=i))]
    show au t ((B.same k).put w W x) w x
   .rw[YB (by lia)]at e
    have w:j=i:=by
     have:=(jc.mp e).1;simp at this
     lia
    subst w;rw[S,n!]at e;have e:d=U:=by simpa using e
    subst e;dsimp only;rw[XI rfl];show ae O (y.put L W ⟨_,R⟩) (b9 L _ R)
  .intro I O;show c5 λM R=>aA λn c b S all=>?_;subst b
   rw[X3]at S;show q D n c O u M R ⟨S,λj d e=>let⟨t,B,_⟩:=all j d e;⟨t,B⟩⟩
def zJ:Sp:=λY H Q _=>∃(D:Addr) (n:List Addr) (c:Nat->RM.OW),∃p N L m,Y=[.ref D]/\H D=1#(n.map V.ref)/\p<=900/\GI p N L m p n c H/\
 ∀b M,aj H M->Q (.ref b) M
def lu:Ok T T.lg 3 zJ:=by
 show 2#T.lg.ok
 .revert h;show qh λD n c p=>bV λN L m U u t f q=>?_;subst U;obtain⟨S,all⟩:=f
  show 56#(aB (bz (qX K) (by rfl) T.jt Y8 (bq (bC (own:=["from_point"]) (js:=[]) (dF v) rfl (kZ K aZ) 6#(81#(["from_point"])) 42#0 6#(52#qS)))))
  show 14#(au D rl 20#u (λX R=>bw (λi I O=>aj H O/\O X=some (.lst I)/\I.length<=i) (bh (aj.new R) aa (XJ _)) (λi I O _ z=>⟨aH.of (z.1 _ _ u),z.2⟩) (50#(by rw[XG];lia)) ?_ ?_))
  .intro i x I O B;show c5 λM G e=>?_
   rw[XQ]at B;show ah (λd j C=>?_) (m3.mp B);subst C
   obtain⟨l,y⟩:=all i d j;show d8 (λW J a g _=>?_) (y.same M)
   show 3#(bS d W (c i) rl a (by lia) g (λb o k=>f7 (k _ _ G) ((M.trans k).put R) aa (by rw[XR];show I! e)))
  .intro I O;show c5 λM G _=>?_
   show bf X _ rl (.inl ⟨aH.of G,λl S=>q l _ (M.trans (aj.new S))⟩)
def L7{x y:V}{A B:Prop}(h:x≠y)(C:A):if(! decide (x=y))=true then A else B:=by
 rw[fW h];show eY C
def N8(p:Nat)(J:List cU)(g:ay p J)(m:Nat)(M:Hp)(t:Addr):Prop :=
 ((∀x z,x<p->¬ RM.Wy g.N (di J) m x x true z)/\∃v,M t=17#([.str "side",v]))\/
 ∃(z:Int) (e:Nat) (Y:List V),RM.Lo g.N (di J) m z e/\M t=17#(.str "ring" :: .int e::Y)/\g.N.Ring e/\e<2^g.N.n/\g.N.par e m=true
def zK(t:Addr)(e:Pos):Sp:=53#(∃w p J,∃g:ay p J,∃S,Y=[.ref w,.int S]/\76#0/\H t=64#(eE (gV "least_ways") e)/\nI J S λm=>∀r M,aj H M->N8 p J g m M r->Q (.ref r) M)
def uQ(H:Hp)(v:V)(d:Int×Nat):Prop:=∃c,v = .ref c/\H c=17#([.int d.1,.int (d.2:Int)])
def uQ.tups{H M:Hp}{v:V}{d:Int×Nat}(h:uQ H v d)(s:fh H M):uQ M v d:=let⟨c,e,q⟩:=h;(ae c e (s _ _ q))
def n8(d:Int×Nat):PyData:=.tuple [.int d.1,.int (d.2:Int)]
theorem B7{K:b7}{H:Hp}:∀{ys:List V} {R:List (Int×Nat)},Paired (uQ H) ys R->DatVs K H ys (R.map n8)
 | _,_,.nil=>.nil
 | _,_,.cons h r=>by
   revert h;show ah λb U Z=>?_;subst U
   show .cons (.tup (aY.of Z) (.cons (.int _) (.cons (.int _) .nil))) (B7 r)
def L8:∀l:List (Int×Nat),PyData.eqv (.list (l.map n8)) (.list [])=decide (l=[])
 | []=>rfl
 | _::_=>rfl
theorem B8:∀R:List (Int×Nat),PyData.canLayAll0 (R.map n8)=true
 | []=>rfl
 | q::r=>by
   have O:=B8 r;have e:(n8 q).canLay0=true:=by simp[n8,PyData.canLay0,PyData.canLayAll0]
   simp only[Yd,PyData.canLayAll0,O,l!,e]
theorem yh:∀R:List (Int×Nat),PyData.depthAll (R.map n8)<=1
 | []=>Yo _
 | q::r=>by
   have O:=yh r;change max (PyData.depth (n8 q)) (PyData.depthAll (r.map n8))<=1;have e:PyData.depth (n8 q)=1:=by simp[n8,PyData.depth,PyData.depthAll]
   lia
theorem yi{H:Hp}:∀{ys:List V} {R:List (Int×Nat)},Paired (uQ H) ys R->∃y:List Addr,ys=y.map V.ref/\Paired (λ(c:Addr) (d:Int×Nat)=>H c=17#([.int d.1,.int (d.2:Int)])) y R
 | _,_,.nil=>ae [] rfl .nil
 | _,_,.cons h r=>by
   revert h;show ah λb f Z=>?_;subst f
   show ah (λy C pr=>?_) (yi r);subst C
   show ae (b::y) rl (.cons Z pr)
def B9(R:List (Int×Nat)):99#(.list (R.map n8)):=by
 unfold SeqAt.shaped;have e:(PyData.list (R.map n8)).canLay0=PyData.canLayAll0 (R.map n8):=by simp[PyData.canLay0]
 rw[e,B8,ZD];show e5 ?_;have h:=yh R;have D:PyData.depth (PyData.list (R.map n8))=PyData.depthAll (R.map n8)+1:=by simp[PyData.depth]
 rw[D]
 lia
def zf{a b:Int×Nat}(h:HT.lexLt [a.1,(a.2:Int)] [b.1,(b.2:Int)]=false):RM.lx b a:=by
 rw[HT.eT]at h
 by_cases e:a.1=b.1
 .rw[XI e,HT.eT]at h;show .inr ⟨e.symm,?_⟩
  by_cases D:a.2=(b.2:Int)
  .lia
  .rw[XH D]at h;have:=of_decide_eq_false h
   lia
 .rw[XH e]at h;have:=of_decide_eq_false h;show .inl (by lia)
def rF:Ok T T.rj 7 (zK a.aU aO):=by
 show 2#T.rj.ok
 .revert h;show eR λwb p J=>bD λg S b A c q=>?_;subst b
  show ae _ (af (cV (49#my))
   (af (e9 (i:=2) v.nd rl (Or.inr rl) (49#j3))
   (af (fb (i:=3) v.nd rfl rfl (own:=["point"]) (js:=[2]) (dF v) rfl (92#(dm K aZ)) 6#(81#(["point","ways"])) 6#(gu (aD r5 (qM K (bR (gA K) 116#aZ aZ)) d9 (aE _))) 6#(qM K (bR (gA K) 116#aZ aZ)))
   (af (bB (aD (C8 K P.units) e6 (bF eF) (aE _)) (ak (aB (49#yg))) aN)
   (ak (aB (cW (bU aX (bT (dm K (dc (UH P.hd P.in1.C2) (by rfl) T.GF j? (bq e6))) (aC (lu T) P (bq cT))))))))))) ?_
  show zo ?_;intro b d e n f;show aA (λb f G C d=>?_) (id A.ex)
  have b:=g.p2;have W:=g.vH
  revert q;show az λm b Y q=>?_;subst b
  show(0#(fj wb p (aM J _ rl A W (au m rl Y ?_))));show(0#(dU wb p J (cL g m rl A Y c λD P f N d w S b=>?_)))
  obtain⟨hl,all⟩:=id b;have Q:∀i,i<p->∃d v,P[i]?=some d/\jG p g.N (di J) m i d (f i) v N:=λi F=>by
   have e:P[i]?=some P[i]:=XW (by lia)
   obtain⟨v,y⟩:=all i _ e;show bf _ v e y
  show 14#(cR 79#(w _ _ G) fY 70#57#(λX r=>ee (λi I O=>aj N O/\O X=some (.lst I)/\Paired (uQ O) I ((16#i).filterMap λj=>f j j true)) (bh (aj.new r) aa .nil) (λi I O _ z=>⟨z.2.1,by rw[z.2.2.length];show XY (List.length_filterMap_le ..) 21#0⟩) (50#(by lia)) ?_ ?_))
  .intro i I O F;show c5 λM E pr=>?_
   rw[X3]at F;rw[Zg];show aR (λd v n=>d8 λH e1 B U _=>?_) (Q i F)
   have b:H[i]?=some H[i]:=XW (by lia)
   show aA (λk R x w0 o=>?_) (U i _ b)
   have u:(16#(i+1)).filterMap (λj=>f j j true)=(16#i).filterMap (λj=>f j j true)++(f i i true).toList:=by
    rw[Zh,List.filterMap_append];cases l:f i i true<;>simp[l]
   rw[u];have e:(P.map V.ref)[i]?=some (.ref d):=by rw[XQ,n];rfl
   have t:(H.map V.ref)[i]?=38#(H[i]):=by rw[XQ,b];rfl
   show⟨rfl,0#(eH 45#(M _ _ S) (aG e) 14#(eH 45#(M _ _ B) (aG t) (eH 45#(M _ _ x) fT 3#(?_))))⟩;cases l:f i i true with
   | none =>
     rw[l]at o;have o:=o;subst o;show jK rl (bh M E ?_)
     rwa [show(none:Option (Int×Nat)).toList=[] from rfl,YU]
   | some y =>
     rw[l]at o
     revert o;show ah λc Z L=>?_;subst Z
     show L7 (λz=>nomatch z) (0#(eH 45#(M _ _ S) (aG e) 14#(eH 45#(M _ _ B) (aG t) (eH 45#(M _ _ x) fT (f7 E (M.put r) aa ?_)))))
     have r:fh O (η O X 28#(I++[.ref c])):=fh.put E;show Paired.snoc (Paired.imp' (λ_ _ z=>z.tups r) pr) (ae c rl (r _ _ (M _ _ L)))
  .intro I O;show c5 λM E pr=>?_
   rw[X3]at pr;generalize b:(16#p).filterMap (λj=>f j j true)=R at pr
   have t:=w.trans M;have W:∀k,k<g.N.n->0<di J k:=λk w=>by
    have:=(g.gU _ (eZ w)).l0;unfold di
    lia
   have inR:∀j d,j<p->f j j true=some d->d∈R:=λj d o n=>by
    rw[<-b];show Z9.mpr (ae j (Yk.mpr o) n)
   have Xb:∀d,d∈R->∃j,j<p/\f j j true=some d:=λd n=>by
    rw[<-b]at n;show ah (λj o e=>?_) (Z9.mp n)
    show ae j (Yk.mp o) e
   have N:∀i,i<p->∀x s,RM.Qv g.N (di J) m i x s ((f i x s).map (·.1)):=λi F=>by
    show aR (λd v n=>eu λH=>m9 λe1 B U y _=>?_) (Q i F)
    show y
   show(ai rl 24#(λs r=>cL _ _ (.lst 45#(aj.new r _ _ E) (B7 (Paired.imp' (λ_ _ z=>z.tups (aj.new r).tups) pr))) (.lst (aH.of aa) .nil) (B9 _) rl (ai rl (?_))))
   rw[L8];show fresh (η O s _) rl r λH3 b _=>?_
   have I:=t.trans b;have O:=M.trans b;have Xc:=b _ _ E;have Xd:=Paired.imp' (λ_ _ z=>uQ.tups z b.tups) pr
   clear E pr
   by_cases s:R=[]
   .rw[e5 s];have u:∀x z,x<p->¬ RM.Wy g.N (di J) m x x true z:=λx z B A=>by
     have b:=N x B x true;cases l:f x x true with
     | none=>rw[l]at b;show b z A
     | some d=>have:=inR x d B l;rw[s]at this;cases this
    show eY (0#(dU wb p J (ao g _ rl (A.same I) (au m rl Y λt E M z b=>?_))))
    rcases b with⟨y,l,hl,e,r⟩|⟨c,L,U,e⟩
    .show q t E (I.trans z) (.inl (b9 u _ e))
    .obtain⟨Z,r⟩:=RM.cY.mp L;rw[RM.Bh (λk w=>Ξ (W k w)) u (RM.qF Z r) (RM.ku Z)]at U
     cases U
   .rw[fW s];show ah (λy k r=>?_) (yi Xd);subst k
    have k:=r.length;have u:0<y.length:=by
     have:=List.length_pos_iff.mpr s
     lia
    have k:∀(i:Nat) c,y[i]?=some c->∃d,R[i]?=some d/\H3 c=17#([.int d.1,.int d.2]):=λi c L=>Paired.lA r L
    show cH 14#(bS X y (λi=>[(R.getD i (0,0)).1,((R.getD i (0,0)).2)]) rl (aH.of Xc) u (λi c L=>?_) (λi c L w=>?_))
    .show ah (λd n h=>?_) (k i c L)
     have e:R.getD i (0,0)=d:=by rw[XO,n];rfl
     dsimp only;rw[e];show aY.of h
    show ah (λd n s=>?_) (k i c L)
    show ah (λu r h=>?_) (Xb d (fC n))
    have k:∀j U,j<p->f j j true=some U->RM.lx d U:=λj U o l=>by
     obtain⟨b,B⟩:=Zd (inR j U o l);have Z:b<y.length:=by
      have:=(jc.mp B).1
      lia
     have t:=w b Z;have e:R.getD i (0,0)=d:=by rw[XO,n];rfl
     have c:R.getD b (0,0)=U:=by rw[XO,B];rfl
     dsimp only at t;rw[e,c]at t;show zf t
    have n:∀x c,x<p->RM.Wy g.N (di J) m x x true c->d.1<=c:=λx c B A=>by
     have b:=N x B x true;cases l:f x x true with
     | none=>rw[l]at b;show absurd A (b c)
     | some U =>
       rw[l]at b;have G:U.1<=c:=b.2 c A;have C:=k x U B l;unfold RM.lx at C
       lia
    show aR (λ_ _ _=>eu λH=>eO λ_ _ _ _ c _=>?_) (Q u r)
    have w:=c u true d h;show mF (λc l o Z=>?_) (RM.D7 W (r) w n)
    show(cR (aY.of s) fT 14#(dU D P f (bO p g.N (di J) m rl (O _ _ S) (by lia) ⟨hl,λj d e=>let⟨v,w0⟩:=all j d e;⟨v,w0.same O⟩⟩ λb E z=>24#(λt M=>?_))))
    show q t _ ((I.trans z).trans (aj.new M)) (.inr (bS d.1 d.2 _ (au f (λi F=>let⟨_,_,_,_,_,_,_,_,_,_,fx⟩:=Q i F;fx) (ae u r h) k) aa c l o))
def MH(F:Nat->Nat->Prop)(H:Hp)(v:V):Prop:=∃(c:Addr) (l r u:Nat),v = .ref c/\H c=17#([.int l,.int r,.int u])/\F l r
def MH.tups{F:Nat->Nat->Prop}{H M:Hp}{v:V}(h:MH F H v)(s:fh H M):MH F M v:=let⟨c,l,r,u,e,hc,h⟩:=h;(fj c l (ao r u e (s _ _ hc) h))
def Ez:Sp:=53#(∃(l:Addr) (f:List V) (x:Nat) (F:Nat->Nat->Prop) (S:Nat->Prop),Y=[.ref l,.int x]/\H l=some (.lst f)/\(∀v∈f,MH F H v)/\S x/\(∀y l r,S y->F l r->S (y^^^r))/\∀c (y u:Nat) H',aj H H'->H' c=17#([.int y,.int u])->S y->Q (.ref c) H')
def Ca:Sp:=53#(∃(l b:Addr) (f:List V) (p W J:Nat) (F G:Nat->Nat->Prop),Y=[.ref l,.ref b]/\H l=some (.lst f)/\(∀v∈f,MH F H v)/\H b=17#([.int p,.int W,.int J])/\f.length<=200/\G p W/\(∀l r,F l r->G l r/\G l (r^^^W))/\∀c t M,aj H M->M c=some (.lst t)->t.length=f.length+1->(∀v∈t,MH G M v)->Q (.ref c) M)
def EA:Sp:=53#(∃(l:Addr) (B:List Nat) (n:Nat),Y=[.ref l]/\H l=1#(aI B)/\B.length<=200/\RM.La B/\(∀b∈B,b<2^n)/\∀c t M,aj H M->M c=some (.lst t)->t.length=B.length->(∀v∈t,MH (λl _=>l<n) M v)->Q (.ref c) M)
def EB:Sp:=53#(∃w p J,∃g:ay p J,∃(l:Addr) (L:List Nat),Y=[.ref w,.ref l]/\76#0/\H l=1#(aI L)/\L.length<=200/\RM.Base g.N L/\72#(.bl true))
def zL:Sp:=λY H Q _=>∃w p J,∃g:ay p J,∃(l:Addr) (L:List Nat),Y=[.ref w,.ref l]/\76#0/\H l=1#(aI L)/\L.length<=200/\RM.Base g.N L/\∀D U M,aj H M->M D=1#(aI U)->U.length=L.length->(∀m∈U,m<48#0)->Q (.ref D) M
def IG:Ok T T.xY 2 Ez:=by
 show T.xY.ok λ_ A _ s H Y Q E k P h=>?_
 .revert h;show jd λl f x F S=>eO λw t M g j q=>?_;subst w
  show ae _ (af (bH 2 k.nd bA)
   (af (bH 3 k.nd av)
   (af (dw PassesOwn.never rl (kZ K aZ) (yM K rl (aS (bu 4 k.nd) (aS (bu 5 k.nd) (aS (bu 6 k.nd) dQ))))
   (ak (bB (fy (aC (j0 T) P (bT cT gE))) (af (qj (i:=2) k.nd rl (Or.inl rl) jS r4)
   (ak (qj (i:=3) k.nd rl (Or.inl rl) vK r4))) aN)))
   (ak (aB (cW (bT cT e6))))))) ?_
  show Ek ?_;intro a d I n X B;show(0#(au l rl 20#t (fQ (λi U O=>∃(y u:Nat) (R o m:Option V),U=[some (.ref l),some (.int x),some (.int y),some (.int u),R,o,m]/\O=H/\S y) (dU x 0 none (ao none none rl rl g)) (by intro i U O _;show eR λ_ _ _=>aA λ_ _ _ z _=>?_;show by rw[z];show aH.of t) ?_ ?_)))
  .intro i v N U O e;show eR λy u R=>aA λo m D C b=>?_;subst D C
   show eu (λc=>cy λp W J r L G=>?_) (M v (fC e));subst r
   show aM c _ rl (aY.of L) rl (fj _ _ (bg rl _ _ rl (ao _ _ rl rl ?_)));show(0#(bf _ p rl 14#(sU (λ_=>?_) λ_=>dU y u _ (ao _ _ rl rl b))))
   show(0#(cE 14#(ai rl (cE (dU (y^^^W) (u^^^J) (some (.int p)) (ao (some (.int W)) (some (.int J)) ?_ rl (j y p W b G)))))));change[_,_,some (V.int (Builtin.bitXor _ _)),some (V.int (Builtin.bitXor _ _)),_,_,_]=_;rw[xor_int,xor_int]
  .intro U O;show eR λy u R=>aA λo m e Z b=>?_;subst e Z
   show(0#24#(λc L=>q c y u _ (aj.new L) aa b))
def EC:Ok T T.uz 2 Ca:=by
 show T.uz.ok λ_ A _ s H Y Q E a P h=>?_
 .revert h;show jd λl b f p W=>cy λE F G y S=>eO λm Z d c A q=>?_;subst y
  show ae _ (af (bH 2 a.nd (bF (bq bA)))
   (af (dw PassesOwn.never rl (kZ K aZ) (bu 3 a.nd)
   (ak (bB (fy (aC (j0 T) P (bT (dm K e6) (dm K bA)))) (ak (cV (k6 K (c6 Yp Yt Yu cO cT (bq (cW (bU (dm K e6) (bT (aJ g4 (dm K e6) (dm K bA)) (aJ g4 (dm K e6) (dm K bA)))))))))) (ak (cV (k6 K (c6 Yp Yt Yu cO cT (bq e6))))))))
   (ak (aB cT)))) ?_
  show BD ?_;intro a d e n f;show(ai rl 24#(λD n=>?_))
  show fresh (η H D _) rl n λN w d=>?_
  show 14#(au l rl 20#(w _ _ S) (fQ (λi U O=>∃g I,U=[some (.ref l),some (.ref b),some (.ref D),g]/\aj H O/\10#O/\I.length=i+1/\∀v∈I,MH G O v) (cL none _ rl w d rl (λv a=>by rw[XU.mp a];show fj b p (ao W E rl (w _ _ Z) c))) (by intro i U O _;show aA λ_ _ _ z _=>?_;show aH.of (z _ _ S)) ?_ ?_))
  .intro i v b U O d;show eX λg I t M R f h=>?_;subst t
   show eu (λc=>cy λb B t C L s=>?_) (m v (fC d));subst C
   have c:=(jc.mp d).1;have e:=M _ _ L;have c:=M _ _ Z;have l:∀{X:Hp} {d:Addr} {r u:Nat},aj O X->X d=17#([.int b,.int r,.int u])->G b r->27#(I++[V.ref d])=i+1+1/\∀v∈I++[V.ref d],MH G (η X D 28#(I++[.ref d])) v:=λ{X d r u} k j x=>⟨by rw[XR,f];rfl,λv a=>by
    have J:fh X (η X D 28#(I++[.ref d])):=fh.put (k _ _ R);rcases Ye.mp a with a|a
    .show(h v a).tups (k.tups.trans J)
    .rw[XU.mp a];show fj d b (ao r u rl (J _ _ j) x)⟩
   show 14#(cR (aY.of e) fT 70#(cR (aY.of c) fY (bf _ p rl (ai rl (sU (λ_=>?_) λ_=>?_)))))
   .show(ai rl ⟨.inl (105#R),ai rl (cR (aY.of e) fY 14#(cR (aY.of e) fT 70#(cR (aY.of c) fT (cE (ai rl (cR (aY.of e) (aG rl) (ai rl (cR (aY.of c) (aG rl) (cE 24#(λd j=>?_))))))))))⟩)
    dsimp only at j ⊢;rw[xor_int,xor_int]at *;have k:=aj.new (o:=.tup [.int b,.int ((B^^^W:Nat)),.int ((t^^^E:Nat))]) j;obtain⟨J,a⟩:=l k aa (A b B s).2;show bS D _ _ rl rl (k _ _ R) (gy (by lia)) (cL _ _ rl ((M.trans k).put n) aa J a)
   .obtain⟨J,a⟩:=l (aj.refl _) e (A b B s).1;show(ai rl ⟨.inl (105#R),ai rl (bS D _ _ rl rl R (gy (by lia)) (cL _ _ rl (M.put n) aa J a))⟩)
  .intro U O;show eX λg I c M R f h=>?_;subst c
   show 14#(q D I O M R f h)
def yj:Ok T T.xZ 3 EA:=by
 show T.xZ.ok λ_ A _ s H Y Q E a P h=>?_
 .revert h;show eR λl B n=>eO λb S c j E q=>?_;subst b
  show ae _ (af (bH 1 a.nd (bF eF))
   (af (dw PassesOwn.never rl (FQ K (by rfl) T.fL (bq aZ)) (yM K rl (aS (bu 2 a.nd) (aS (bu 3 a.nd) dQ)))
   (af (bH 4 a.nd (aC (IG T) P (bT bA e6)))
   (ak (bB (aD jI (dm K gE) av (aE _)) (ak (bH 1 a.nd (aC (EC T) P (bT bA (cW (bU (aJ gZ (JN PySem.F.plainAttrs_int C? D? FO (dm K gE)) av) (bT (dm K gE) (aJ g4 (dm K gE) (aJ jA av cT))))))))) aN))))
   (ak (aB bA)))) ?_
  show El ?_;intro a b I c d;show 24#(λD a=>?_)
  show fresh (η H D _) rl a λN w b=>?_
  show 14#(au l rl 20#(w _ _ S) (Ay (λi U O=>∃p t A g R,U=[some (.ref l),some (.ref p),A,g,R]/\aj H O/\O p=some (.lst t)/\t.length=i/\∀v∈t,MH (λl r=>l<n/\RM.Sp (B.take i) r) O v) ⟨D,(bO [] none none none rl w b rl (λ_ h=>nomatch h))⟩ (by intro i U O _;show eR λ_ _ _=>aA λ_ _ _ z _=>?_;show aH.of (z _ _ S)) ?_ ?_))
  .intro i x a U O d;show eR λp t A=>eX λg R f M s z m c=>?_;subst f
   show ah (λb Z e=>?_) (cD d);subst e
   have d:=(jc.mp Z).1;show fresh (η O a _) rl c λX k d=>?_
   show ao a _ rl (aY.of d) (bg rl _ _ rl (ao _ _ rl rl ?_));show(0#(dU p t b (aQ _ (λy=>RM.Sp (B.take i) (b^^^y)) rl (k _ _ s) (λv a=>(m v a).tups k.tups) (by change RM.Sp _ (b^^^b);rw[Z4];show .zero) (λy l r G C=>by change RM.Sp _ (b^^^(y^^^r));rw[<-Y9];show G.xor C.2) λc y u d D L W=>?_)))
   have J:B.take (i+1)=B.take i++[b]:=by rw[Yc,Z];rfl
   have w:∀{r},RM.Sp (B.take i) r->RM.Sp (B.take (i+1)) r:=λh=>h.mono λc L=>.mem (by rw[J];show OM _ L)
   have f:RM.Sp (B.take (i+1)) y:=by
    have:=(w W).xor (.mem (by rw[J];show iX _ X0))
    rwa [O! b y,Y9,Z4,Zo]at this
   have x:y≠0:=λe=>j i b Z (by rw[e,Zo]at W;show W)
   have G:=f.lt λc L=>E c (y! L)
   show 14#(cR (aY.of L) fY (cE 70#(lN (by lia) ?_)))
   show(0#(cR (aY.of L) fY 3#⟨rfl,cE 14#(cR (aY.of L) fY 70#(cR (aY.of L) fT (ai rl (cE ⟨57#4#0,cE 24#(λd j=>?_)⟩))))⟩))
   dsimp only at j ⊢;rw[Lb x,kA,xor_int]at *;have C:=aj.new (o:=.tup [.int ((y.log2:Nat)),.int y,.int ((u^^^2^i:Nat))]) j;have b:=(k.trans D).trans C;show jw p d t _ (bO _ _ _ (λl r=>l<n/\RM.Sp (B.take (i+1)) r) rl (b _ _ s) (λv a=>(m v a).tups b.tups) aa (f7 (by lia) ⟨(Θ x).mpr G,f⟩ (λl r h=>bh ⟨h.1,w h.2⟩ h.1 ((w h.2).xor f)) λk F D C j E y=>?_))
   show⟨k,(bO F _ _ _ rl ((M.trans b).trans C) j (by lia) y)⟩
  .intro U O;show eR λp t A=>eX λg R F M s z m=>?_;subst F
   rw[aF]at z;show 14#(q p t O M s z λv a=>let⟨c,l,r,u,e,L,h⟩:=m v a;(fj c l (ao r u e L h.1)))
def II:Ok T T.x6 9 EB:=by
 show 2#T.x6.ok
 .revert h;show eR λo p J=>eR λg l L=>eO λe j S m f q=>?_;subst e
  show ae _ (af (bB (PW.pt (iI (aD gX (39#bA) (52#zG) (aE _)) (gv (iY (fy (dc (Nz K rfl) (by rfl) T.GC t! (bq (bC (own:=["ring"]) (js:=[0]) (dF v) rfl (kZ K bA) 6#(81#(["ring","web"])) 42#0 6#(aC (qQ T) P (bT bA aZ)))))))))) (ak (aB gW)) aN)
   (ak (aB (cQ cN (39#(aC (yj T) P (bq bA))) (39#bA) (aE _))))) ?_
  show fm ?_;intro a d;have y:=f.len;show 14#(k7 rl (101#S) 70#(97#(au g rl j λN w=>3#(jK (by rw[aF,y]) ?_))))
  have U:=w _ _ S;show 14#(au l rl 20#U (λD u=>bw (λi I O=>aj N O/\10#O/\I=(104#i).map V.bl) (82#u) (λi I O _ z=>bh 45#(z.1 _ _ U) z.2.1 (by rw[z.2.2,XG,YH];show XJ _)) (Za (gy (by rw[aF];lia))) ?_ ?_))
  .intro i x I O B;show c5 λM R b=>?_;subst b
   show ah (λr c t=>?_) (cD B);subst t
   obtain⟨G,C⟩:=f.ring r (fC c);show 25#0#(97#(cL g r rl (j.same (w.trans M)) C G λX k=>f7 (k _ _ R) ((M.trans k).put u) aa (by rw[ZX,X5];rfl)))
  .intro I O;show c5 λM R c=>?_;subst c
   show fj D _ (bj rl (aH.of R) _ rl ?_);rw[show(104#(aI L).length).all id=true from by rw[Zl];show λb Z=>(List.mem_replicate.mp Z).2]
   show cH (ai rl ⟨l,(aQ L J.length rl (M _ _ U) m ((RM.Gj L).mp f.ind) (λb Z=>(f.ring b Z).2) λr t X k x n _=>?_)⟩)
   show(k7 rl (101#x) 14#(k7 rl (.inl 45#(k _ _ (M _ _ U))) ⟨rfl,?_⟩));rw[e5 (by rw[n,aF])]
   show q X ((w.trans M).trans k)
def Cb:Ok T T.rm 10 zL:=by
 show 2#T.rm.ok
 .revert h;show eR λo p J=>eR λg l c=>eO λa Q S d f q=>?_;subst a
  show ae _ (af (bB (iY (fy (49#II))) dP aN)
   (af (bH 2 v.nd (aC (yj T) P (bq bA)))
   (af (bH 3 v.nd (bF eF))
   (af (dw PassesOwn.never rl (92#(39#bA)) (rZ (i:=4) v.nd rl (Or.inr rl))
   (ak (cV (k6 K (c6 Yp Yt Yu cO e6 (bq (aC (uP T) P (bT aZ (bC (own:=["lead","row","places"]) (js:=[4]) (dF v) rfl (kZ K cT) 6#(yM K (n:=3) rfl (aS (81#(["lead","row","places","place"])) (aS (bu 1 (gn ["lead","row","places","place"])) (aS (bu 2 (gn ["lead","row","places","place"])) dQ)))) 6#(gu (fy (aC (j0 T) P (bT cT e6)))) (λ_ _ _ _=>aZ))))))))))
   (ak (aB e6)))))) ?_
  show zp ?_;intro a b e i j k;show(0#(97#⟨g,(aQ l c rl Q S d f λN w=>14#(cH ?_))⟩))
  show(ai rl ⟨l,(aQ c J.length rl (w _ _ S) d ((RM.Gj c).mp f.ind) (λb Z=>(f.ring b Z).2) λx t O M e a P=>?_)⟩)
  show 24#(λD u=>?_)
  show fresh (η O D _) rl u λX a c=>?_
  have b:X D=1#(aI []):=c;have r:=(w.trans M).trans a;have N:=(w.trans M).free u;show 14#(k7 rl (.inl 45#(r _ _ S)) 70#(bh (by rw[aF];lia) (by rw[aF];lia) ?_))
  show nY (λi U f=>∃E s,U=[some (.ref o),some (.ref l),some (.ref x),some (.ref D),E]/\aj H f/\aj O f/\f D=1#(aI s)/\s.length=i/\∀m∈s,m<48#0) (aQ none [] rl r a b rl (λ_ h=>nomatch h)) ?_ ?_
  .intro i b U f F;show aR λE s a=>m9 λG w t v A=>?_;subst a
   rw[aF,X3]at F;rw[Zg];have b:=w _ _ e;show(ai rl ⟨.inl (105#t),0#(au x rl 20#b (λC F=>bw (λj I l=>aj f l/\l C=some (.lst I)/\∃a,I=aI a/\a.length<=j/\∀k∈a,k<J.length) (bh (aj.new F) aa (au [] rl (XJ _) (λ_ h=>nomatch h))) (by intro j I l _;show c5 λz y=>az λa e r _=>?_;show bh 45#(z _ _ b) y (by rw[e,aF];show r)) (Za (gy (by lia))) ?_ ?_))⟩)
   .intro j x I l B;show c5 λb h=>az λa c r e=>?_;subst c
    show eu (λc=>cy λd W z j L y=>?_) ((P x (fC B)).tups (w.trans b).tups);subst j
    show aM c _ rl (aY.of L) rl (fj _ _ (bg rl _ _ rl (aM _ _ rl rl rl (0#(bf _ i rl (ai rl (?_)))))));show sU (λ_=>14#(f7 h (b.put F) aa (au (a++[d]) ((dB _ _).symm) (by rw[XR];show I! r) λk R=>?_))) λ_=>bh b h (au a rl (Nat.le_succ_of_le r) e)
    rcases Ye.mp R with R|R
    .show e k R
    .rwa [XU.mp R]
   .intro I l;show c5 λb h=>az λa c r e=>?_;subst c
    show 97#(aQ C _ rl (Q.same (G.trans b)) g.vH h e ?_);show bS D _ _ rl rl (b _ _ t) (gy (by rw[aF];lia)) (aQ _ (s++[orM a]) rl ((G.trans b).put N) ((w.trans b).put u) (by rw[aa,dB]) (by rw[XR,v];rfl) λm d=>?_)
    rcases Ye.mp d with d|d
    .show A m d
    .rw[XU.mp d];show yY e
  .intro U f;show aR λE s W=>m9 λG w t v A=>?_;subst W
   rw[aF,X3]at v;show 14#(q D s f G t v A)
structure iz(p:Nat)(ts:List cU)(g:ay p ts)(rs:List Nat):Prop where
 bs:RM.Base g.N rs
 pw:rs.Pairwise (GG ts)
 lr:∃bs,RM.NY g.N (di ts) (g.N.bZ.map λc=>2^c) bs []/\rs.Perm bs
def iz.one{p:Nat}{J:List cU}{g:ay p J}{rs c:List Nat}(h:iz p J g rs)(h' : iz p J g c):rs=c:=by
 show ah (λf d e=>?_) h.lr
 show ah (λb a i=>?_) h'.lr
 have n:f.length=b.length:=by rw[<-e.length_eq,<-i.length_eq,h.bs.len,h'.bs.len]
 obtain⟨rfl,_⟩:=d.uniq (λk R=>by
  have:=(g.gU _ (eZ R)).l0;unfold di
  lia) a n
 show(e.trans i.symm).eq_of_pairwise (λx y _ _ G C=>by unfold GG at G C;lia) h.pw h'.pw
def IJ(t1 B:Addr)(c e:Pos):Sp:=λY H Q _=>∃w p J,∃g:ay p J,Y=[.ref w]/\76#0/\H t1=64#(eE (gV "least_ways") c)/\H B=64#(eE (gV "by_length") e)/\
 ∀D L M,aj H M->M D=1#(aI L)->iz p J g L->Q (.ref D) M
def nL:Ok T T.ny 10 (IJ a.aU a.bQ aO bI):=by
 show T.ny.ok λ_ A _ s H Y Q E b P h=>?_
 .revert h;show eR λA p J=>eu λg=>m9 λc j N9 M q=>?_;subst c
  show ae _ (af (fb (i:=1) b.nd rfl rfl (own:=["chord"]) (js:=[]) (dF b) rfl (kZ K (52#uO)) 6#(81#(["chord"])) 42#0 6#(aJ jA av aZ))
   (af (bH 2 b.nd (bF eF))
   (af (oz PassesOwn.never (aD jI (39#bA) av (aE _)) (af (e9 (i:=3) b.nd rl (Or.inr rl) (qM K bA))
   (af (e9 (i:=4) b.nd rl (Or.inr rl) (dm K (aC (rF T) P (bT aZ e6))))
   (af (cV (k6 K (c6 Yp Yt Yu cO cT (bq gE))))
   (ak (fb (i:=1) b.nd rfl rfl (own:=["later"]) (js:=[3,4]) (dF b) rfl (kZ K (cz (CP K) bA (cX av) dJ)) 6#(81#(["later","marks","ring"])) 42#0 6#(f9 (fy (aC (nJ T) P (bT cT aZ))) (aJ g4 aZ bA) aZ)))))))
   (ak (aB (aC (B4 T) P (bT aZ cT))))))) ?_
  show uq ?_;intro b c d e f i k;have b:=g.len;have b:g.N.bZ.length<=24:=by
   have:g.N.bZ.length<=(16#g.N.n).length:=Yg ..;rw[Yh]at this;have C:g.N.n=J.length:=rfl
   lia
  have b:100<sizeLine:=by decide
  show 14#(dU A p J (au g rl j λDc N d w b=>au Dc rl 20#b λX k=>bw (λi I O=>aj N O/\O X=some (.lst I)/\I=aI ((g.N.bZ.take i).map λc=>2^c)) (82#k) (λi I O _ z=>bh 45#(z.1 _ _ b) z.2.1 (by rw[z.2.2,aF,XG,Ym];lia)) (bY (by rw[aF];lia)) ?_ ?_))
  .intro i x I O B;show c5 λl e f=>?_;subst f
   obtain⟨c,d,rfl⟩:∃c,g.N.bZ[i]?=some c/\x = .int c:=by
    unfold aI at B;rw[XQ]at B;show ah (λc G C=>?_) (m3.mp B)
    show ae c G C.symm
   have b:=(RM.cY.mp (fC d)).1;have b:c<J.length:=b;show 3#(cE (fE (57#4#0) e (l.put k) aa ?_))
   rw[Yc,d];change _=aI (List.map _ (List.take i g.N.bZ++[c]));rw[X5,q?,dB];dsimp only;rw[kA]
  intro I O;show c5 λl e b=>?_;subst b
  rw[aF,Yb]at e;show 24#(λF b=>?_)
  show fresh (η O F _) rl b λd k f=>?_
  have r:=k _ _ e;have m:d F=1#(aI []):=f;have Xe:=(w.trans l).free b;have t:X≠F:=λz=>by rw[<-z,e]at b;cases b
  have u:=(w.trans l).trans k;have e:g.N.bZ.Nodup:=RM.HS;have hL:=xG g;show⟨λn U d=>∃X f l s w R,U=[some (.ref A),some (.ref X),some (.ref F),w,R]/\aj H d/\d X=1#(aI l)/\d F=1#(aI f)/\X≠F/\(∀b∈f,g.N.Ring b/\b<2^g.N.n)/\RM.Gi f/\RM.Wt g.N f l s/\RM.NY g.N (di J) (g.N.bZ.map λc=>2^c) f l/\n=l.length,⟨_,(jw X [] _ _ (aQ none none rl u r m t (fE (λ_ h=>nomatch h) RM.NX (RM.Wt.start e) .start rl)))⟩,?_⟩
  intro n U d;show eR λX f l=>bV λs w R e v E O=>eO λU7 N P h Q k=>?_;subst e k
  show 14#(k7 rl (101#E) (cE 70#(sU (λn=>?_) (λn=>?_))))
  case refine_2 =>
   have S : ¬ 0<((aI l).length:Int):=λz=>n (e5 z)
   have e:l=[]:=R! (by rw[aF]at S;lia)
   subst e;have Z:f.length=g.N.bZ.length:=by
    have:=h.sum;rw[ZO]at this
    lia
   show(0#(dU A p J (bS g F f rl (j.same v) O (by lia) (bh (λm d=>(N m d).2) (v _ _ M) λD L k u y r t W=>?_))))
   show q D L k (v.trans y) r ⟨RM.Base.perm ⟨Z,N,P⟩ t,W,f,Q,t⟩
  have n:=om n;rw[aF]at n;show⟨λd M=>∃X f t s w R,d=[some (.ref A),some (.ref X),some (.ref F),w,R]/\aj H M/\M X=1#(aI t)/\M F=1#(aI f)/\X≠F/\(∀b∈f,g.N.Ring b/\b<2^g.N.n)/\RM.Gi f/\RM.Wt g.N f t s/\RM.NY g.N (di J) (g.N.bZ.map λc=>2^c) f t/\t.length<l.length,λd M=>eR λX f t=>bV λs w R e q r u=>eO λD L S U a9 W=>ae _ W (jw X f t s (aQ w R e q r u D (fE L S U a9 rl))),?_⟩
  obtain⟨m,l,rfl⟩:∃m t,l=m::t:=by
   cases l with
   | nil=>simp at n
   | cons m t=>show fj m t rfl
  have s:=h.lt m X0;show 14#(eH (aH.of E) fY (?_));show az (λr n d t=>?_) h.odd
  show(0#(dU A p J (aM g _ rl (j.same v) (v _ _ N9) (au m rl s λr k y u=>?_))))
  rcases u with⟨j,_⟩|⟨z,e,Y,lo,q,A,M,s⟩
  .show ah (λx B u=>?_) (RM.tX hL m n d)
   rw[t]at u;show absurd u (j x _ B)
  show(cR (aY.of q) fT (?_));have d:=y _ _ O;have p:=y _ _ E;have j:f.length<=24:=by have:=h.sum;lia
  show(ai rl ⟨(.inl (105#d)),ai rl (bS F _ _ rl rl d (by rw[aF];lia) ?_)⟩)
  have q:aj H (η k F 28#(aI f++[.int (e:Int)])):=(v.trans y).put Xe;have j:η k F 28#(aI f++[.int (e:Int)]) F=1#(aI (f++[e])):=by rw[aa,dB]
  have n:η k F 28#(aI f++[.int (e:Int)]) X=1#(aI (m::l)):=by rw[aq U7];show p
  generalize η k F 28#(aI f++[.int (e:Int)])=d at q j n;have k:gw (aI (m::l)) (some (1:Int)) none=aI l:=AN (m::l) 21#0
  have p:=h.next s
  revert p;show aR λD w _ p=>?_
  have r:l.length<=24:=by have:=h.sum;rw[X7]at this;lia
  show(0#(ao X _ rl (aH.of n) (λc L=>?_)))
  rw[k];have t:aj H (η d c (.lst (aI l))):=q.trans (aj.new L);have n:=aj.new L (o:=.lst (aI l)) _ _ j;have j:η d c (.lst (aI l)) c=1#(aI l):=aa;generalize η d c (.lst (aI l))=k at t n j;show au c rl 20#j λq d=>bw (λi I u=>aj k u/\u q=some (.lst I)/\I=aI ((l.take i).map λv=>if g.N.par e v=true then v^^^m else v)) (82#d) (λi I u _ z=>bh 45#(z.1 _ _ j) z.2.1 (by rw[z.2.2,aF,XG,Ym];lia)) (bY (by rw[aF];lia)) ?_ ?_
  .intro i x I u B;show c5 λk j r=>?_;subst r
   obtain⟨v,r,rfl⟩:∃v,l[i]?=some v/\x = .int (v:Int):=by
    unfold aI at B;rw[XQ]at B;show ah (λc G C=>?_) (m3.mp B)
    show ae c G C.symm
   have c:v<48#0:=h.lt v (nc _ (fC r));have x:66#19#(e&&&v)<=1000:=XY (bits_le (o? _ c)) (by lia)
   have G:∀y,(if g.N.par e v=true then v^^^m else v)=y->aI ((l.take i).map λv=>if g.N.par e v=true then v^^^m else v)++[.int (y:Int)]=aI ((l.take (i+1)).map λv=>if g.N.par e v=true then v^^^m else v):=λy W=>by
    rw[Yc,r];change _=aI (List.map _ (List.take i l++[v]));rw[X5,q?,dB,W]
   show 25#0#(bO _ _ e v rl rl rl x (λi S=>(ai rl (?_))))
   rw[F7 (g:=g) c];have c:=k.trans S;have C:=S _ _ j;cases Z:g.N.par e v with
   | true =>
     show eY (0#(cE (f7 C (c.put d) aa ?_)));dsimp only;rw[xor_int];show G _ (XI Z)
   | false=>show cH (ai rfl (f7 C (c.put d) aa (G _ (XH (by rw[Z];decide)))))
  .intro I u;show c5 λk j y=>?_;subst y
   rw[aF,Yb]at j;show jw q (f++[e]) _ w (aQ _ _ rl (t.trans k) j (k _ _ n) (λz=>?_) (fE (λb Z=>?_) (RM.LN P (h.eW m X0) s) p (Q.step lo) (by rw[XG];simp)))
   .rw[z,n]at d;cases d
   .rcases Ye.mp Z with Z|Z
    .show N b Z
    .rw[XU.mp Z];show⟨A,M⟩
def zM(t:Addr)(e:Pos):Sp:=λY H Q _=>∃w p J,∃g:ay p J,∃m:Nat,Y=[.ref w,.int m]/\76#0/\m<48#0/\H t=64#(eE (gV "least_ways") e)/\∀b M,aj H M->Q (.ref b) M
def SM(H:Hp)(v:V)(r:Nat):Prop:=∃(c:Addr) (x y:V),v = .ref c/\H c=17#([.int r,x,y])
def SM.tups{H M:Hp}{v:V}{r:Nat}(h:SM H v r)(s:fh H M):SM M v r:=let⟨c,x,y,e,hc⟩:=h;(eV c x y e (s _ _ hc))
def Ma(t1 B:Addr)(c e:Pos):Sp:=λY H Q _=>∃w p J,∃g:ay p J,Y=[.ref w]/\76#0/\H t1=64#(eE (gV "least_ways") c)/\H B=64#(eE (gV "by_length") e)/\
 ∀b t L M,aj H M->M b=some (.tup t)->Paired (SM M) t L->iz p J g L->Q (.ref b) M
def mz{p:Nat}{J:List cU}(g:ay p J){rs:List Nat}(h:RM.Base g.N rs):rs.length<=24:=by
 rw[h.len];have:=g.len;have G:g.N.bZ.length<=(16#g.N.n).length:=Yg ..;rw[Yh]at G;have C:g.N.n=J.length:=rfl
 lia
def zN:Ok T T.pM 7 (zM a.aU aO):=by
 show 2#T.pM.ok
 .revert h;show eR λo p J=>eX λg m U j d i q=>?_;subst U
  show 56#(aB (aC (lu T) P (bq (49#j3))));have r:=g.p2;show(0#(97#(cL g m rl j d i λD n c N u w Z e=>?_)))
  obtain⟨S,all⟩:=id e;show dU D n c (bO p g.N (di J) m rl Z (by lia) e λb O M=>q b O (w.trans M))
def zO:Ok T T.pN 11 (Ma a.aU a.bQ aO bI):=by
 show 2#T.pN.ok
 .revert h;show eR λs p J=>eu λg=>m9 λf j z b q=>?_;subst f
  show ae _ (af (bH 1 v.nd (52#nL))
   (af (bH 2 v.nd (49#Cb))
   (ak (aB (bz (qX K) (by rfl) T.jt Y8 (bq (bC (own:=["ring","own"]) (js:=[0]) (dF v) rfl (s6 K (by rfl) T.BU (bT bA cT)) 6#(yM K (n:=2) rfl (aS (81#(["ring","own","web"])) (aS (bu 1 (gn ["ring","own","web"])) dQ))) 42#0 6#(cW (bU aZ (bT bA (aC (zN T) P (bT cT bA)))))))))))) ?_
  show gQ ?_;intro c d;show 14#(dU s p J ⟨g,(fE rl j z b λD f N w Z F=>?_)⟩)
  have b:=F.bs;have c:=mz g b;show(0#(dU s p J ⟨g,(aQ D f rl (j.same w) Z (by lia) b λh U O M c d v=>?_)⟩))
  have b:=M _ _ Z;have e:=w.trans M;show(0#(aM D h rl 20#b 20#c (λX R=>lO (xs:=aI f) (ys:=aI U) (by rw[aF,aF];lia) (λi I d=>aj O d/\d X=some (.lst I)/\Paired (SM d) I (f.take i)) (bh (aj.new R) aa .nil) (by intro i I d _;show c5 λu k t=>?_;show f7 45#(u _ _ b) 45#(u _ _ c) k (by rw[t.length,Ym];lia)) (bY (by rw[aF];lia)) ?_ ?_)))
  .intro i x y t I d B W;show c5 λk h pr b=>?_
   show ah (λr u C=>?_) (cD B);subst C
   show ah (λm i c=>?_) (cD W);subst c
   have G:aj d (η d t (.tup [.int r,.int m])):=aj.new b;have l:=(e.trans k).trans G;show ao t _ rl (aY.of aa) (bg rl _ _ rl (aM _ _ rl rl rl (0#14#(ai rl (dU s p J (cL g m rl (j.same l) (v m (fC i)) (l _ _ z) λb x w=>24#(λc L=>?_)))))))
   have S:=(G.trans w).trans (aj.new (o:=.tup [.int r,.int m,.ref b]) L);have b:=S _ _ h;show f7 b ((k.trans S).put R) aa ?_;rw[Yc,u];show Paired.snoc (Paired.imp' (λ_ _ z=>z.tups (S.tups.trans (fh.put b))) pr) (eV c _ _ rl (fh.put b _ _ aa))
  .intro I d;show c5 λk h pr=>?_
   rw[aF,Yb]at pr;show bf X _ rl (.inl ⟨aH.of h,λl S=>q l I f _ ((e.trans k).trans (aj.new S)) aa (Paired.imp' (λ_ _ z=>z.tups (aj.new S).tups) pr) F⟩)
def ED(t1 B:Addr)(c e:Pos):Sp:=λY H Q _=>∃w p J,∃g:ay p J,Y=[.ref w]/\76#0/\H t1=64#(eE (gV "least_ways") c)/\H B=64#(eE (gV "by_length") e)/\
 ∀D L M,aj H M->M D=1#((L.map (υ J)).map V.int)->iz p J g L->Q (.ref D) M
def IK:Ok T T.x7 11 (ED a.aU a.bQ aO bI):=by
 show 2#T.x7.ok
 .revert h;show eR λo p J=>eu λg=>m9 λU j u e q=>?_;subst U
  show 56#(aB (bC (own:=["ring"]) (js:=[0]) (dF v) rfl (kZ K (52#nL)) 6#(81#(["ring","web"])) 42#0 6#(aC (iD T) P (bT bA aZ))))
  have W:=g.vH;show 14#(97#⟨g,(fE rl j u e λD L N w Z F=>?_)⟩)
  have d:=F.bs;have c:=mz g d;show au D rl 20#Z λX R=>bw (λi I O=>aj N O/\O X=some (.lst I)/\I=((L.take i).map (υ J)).map V.int) (82#R) (λi I O _ z=>bh 45#(z.1 _ _ Z) z.2.1 (by rw[z.2.2,XG,XG,Ym];lia)) (bY (by rw[aF];lia)) ?_ ?_
  .intro i x I O B;show c5 λM G f=>?_;subst f
   show ah (λr m C=>?_) (cD B);subst C
   have b:=(d.ring r (fC m)).2;show 25#0#(fj o p (aM J _ rl (j.same (w.trans M)) W (au r rl b λl k=>f7 (k _ _ G) ((M.trans k).put R) aa ?_)))
   rw[Yc,m];rw[X5,X5];rfl
  .intro I O;show c5 λM G r=>?_;subst r
   rw[aF,Yb]at G;show q X L O (w.trans M) G F
def Rw(H:Hp)(x:V)(t:cU):Prop:=∃b,x = .ref b/\(H b=1#(rM t)\/H b=17#(rM t))
def Rw.same{H M:Hp}{x:V}{t:cU}(h:Rw H x t)(s:aj H M):Rw M x t:=by
 revert h;show ah λb e h=>?_
 show ae b e (h.imp (s _ _) (s _ _))
def rG:Sp:=53#(∃(p:Nat) (x:V) (t:cU),Y=[.int p,x]/\Rw H x t/\ir (p:Int) t/\∀b M,aj H M->M b=17#(rM t)->Q (.ref b) M)
def zP:Sp:=53#(∃(p:Nat) (l:Addr) (f:List V) (J:List cU),Y=[.int p,.ref l]/\(H l=some (.lst f)\/H l=some (.tup f))/\Paired (Rw H) f J/\ay p J/\∀w M,aj H M->bx M w p J->Q (.ref w) M)
def EF:Ok T T.uw 1 rG:=by
 show T.uw.ok λ_ A _ s H Y Q E m P h=>?_
 .revert h;show eu λp=>bD λx t u f g k=>?_;subst u;obtain⟨b,rfl,Z⟩:=f
  show ae _ (af (bB (aD gX (39#bA) av (aE _)) dP aN)
   (af (dw PassesOwn.never rl (Rn K (cW (bT (bR (Rm K) bA av) (bR (Rm K) bA av)))) (bu 2 m.nd)
   (ak (bB (PW.pt (iI (aD wO cT av (aE _)) (gv (aD An cT aZ (aE _))))) dP aN)))
   (af (bB (aD cN (bR (Rm K) bA av) (bR (Rm K) bA av) (aE _)) dP aN)
   (af (bB (PW.pt (iI (aD wO (bR (Rm K) bA av) av (aE _)) (gv (aD jI (bR (Rm K) bA av) (r6 (by rfl) T.Im) (aE _))))) dP aN)
   (ak (aB (bz (qX K) (by rfl) T.jt Y8 (bq bA)))))))) ?_
  show BC ?_;intro a d I n L B G J w;have W:aH K H b (rM t)\/aY K H b (rM t):=Z.imp aH.of aY.of;show 14#(aM b (rM t) rl W rl 70#(jK rl ?_));show 14#(qn W fY 70#(qn W fT ⟨(dl rl),λq o=>au q rl ⟨_,aY.of aa⟩ ?_⟩))
  have D:aj H (η H q (.tup [.int t.1,.int t.2.1])):=aj.new o;have j:=W.imp D.seq D.Vp;show Fq (λi U O=>∃v,U=[some (.int p),some (.ref b),v]/\O=η H q (.tup [.int t.1,.int t.2.1])) (ae none rl rl) (by intro i U O _;show ah λ_ _ e=>?_;show by rw[e];show aY.of aa) ?_ ?_
  .intro i y U O F;show ah λv C r=>?_;subst C r
   obtain⟨z,rfl,l,c⟩:∃z,y=V.int z/\0<=z/\z<p:=by
    match i,F with
    | 0,F=>show au t.1 ((13#F).symm) g.a0 g.a1
    | 1,F=>show au t.2.1 ((13#F).symm) g.b0 g.b1
   show 14#(cE 70#(gf (by lia) (0#(cE (ai rl (gf (by lia) ?_))))))
   show(ai rl (rl))
  .intro U O;show ah λv l y=>?_;subst l y
   show 14#(qn j fY 70#(qn j fT 3#(gf (λz=>g.ne (V.int.inj z)) ?_)))
   show 14#(qn j (aG rl) (cE 70#(gf (by have:=g.l0;lia) (ai rl (qn j (aG rl) (cE (ai rl (gf (by have:=g.l1;lia) ?_))))))))
   rcases Z with Z|Z
   .show 14#(bf b (rM t) rl (.inl ⟨aH.of (D _ _ Z),λc r=>k c _ (D.trans (aj.new r)) aa⟩))
   .show 14#(bf b (rM t) rl (.inr ⟨aY.of (D _ _ Z),k b _ D (D _ _ Z)⟩))
def rH:Ok T T.uv 2 zP:=by
 show T.uv.ok λ_ A _ s H Y Q E F P h=>?_
 .revert h;show eu λp=>bV λl f J y S w g k=>?_;subst y
  show ae _ (af (bB (PW.pt (iI (aD wO aZ av (aE _)) (gv (aD jI aZ (r6 (by rfl) T.vQ) (aE _))))) dP aN)
   (af (bB (aD jI (39#bA) (r6 (by rfl) T.BV) (aE _)) dP aN)
   (ak (aB (cW (bT aZ (bz (qX K) (by rfl) T.jt Y8 (bq (bC (own:=["tie"]) (js:=[0]) (dF F) rfl (Ub K bA) 6#(81#(["tie","points"])) 42#0 6#(aC (EF T) P (bT bA aZ))))))))))) ?_
  show BB ?_;intro a d b n;have W:aH K H l f\/aY K H l f:=S.imp aH.of aY.of;have L:=w.length;have U:=g.len;have N:=g.p1;have X:=g.p2;show 14#(cE 70#(gf (by lia) (ai rl (cE (ai rl (gf (by lia) ?_))))))
  show 14#(ao l f rl W (ao _ _ rl rl 70#(gf (by lia) ?_)))
  show(ai rl (?_));have start:∀D,H D=none->((λi I O=>aj H O/\10#O/\Paired (TupAt O) I (J.take i)/\I.length=i) 0 [] (86#H)):=λD u=>f7 (aj.new u) aa .nil rfl
  have m:∀(D:Addr),H D=none->∀(i:Nat) (x:V) (I:List V) (O:Hp),f[i]?=some x->(aj H O/\10#O/\Paired (TupAt O) I (J.take i)/\I.length=i)->
   rG [.int p,x] O (λv c=>10#c/\(aj H (η c D 28#(I++[v]))/\η c D 28#(I++[v]) D=1#(I++[v])/\Paired (TupAt (η c D 28#(I++[v]))) (I++[v]) (J.take (i+1))/\27#(I++[v])=i+1)) E0:=by
   intro D u i x I O B;show mF λM j pr e=>?_
   show ah (λt R q=>?_) (Paired.lA w B)
   show⟨p,(aM x t rl (q.same M) (g.gU t (fC R)) λb c G Z=>?_)⟩
   have a:=G _ _ j;show fE a ((M.trans G).put u) aa ?_ (by rw[XR,YA,e])
   rw[Yc,R];show Paired.snoc (Paired.imp' (λ_ _ z=>z.tups (G.tups.trans (fh.put a))) pr) ?_
   show ae b rl (fh.put a _ _ Z)
  have b:∀(D:Addr) (I:List V) (O:Hp),H D=none->(aj H O/\10#O/\Paired (TupAt O) I (J.take f.length)/\I.length=f.length)->
   ∀c,O c=none->33#27#([V.int (p:Int),.ref c])/\∀C,η O c (.tup I) C=none->Q (.ref C) (η (η O c (.tup I)) C (.tup [.int p,.ref c])):=by
   intro D I O u;show mF λM j pr e c r=>?_
   show 24#(λC a=>?_)
   have R:aj O (η O c (.tup I)):=aj.new r;have q:=R.trans (aj.new (o:=.tup [.int p,.ref c]) a);rw[L,Yb]at pr;show k C _ (M.trans q) ⟨c,I,aa,?_,Paired.imp' (λ_ _ z=>z.tups q.tups) pr⟩
   rw[aq (bW aa a),aa]
  rcases S with S|S
  .show .inl 14#(au l rl ⟨f,aH.of S⟩ (λD u=>bw (xs:=f) (λi I O=>aj H O/\10#O/\Paired (TupAt O) I (J.take i)/\I.length=i) (start D u) ?_ (bY (by lia)) ?_ ?_))
   .intro i I O _;show mF λM j pr e=>?_
    show bh 45#(M _ _ S) j (o! e)
   .intro i x I O B a;show 25#0#(m D u i x I O B a)
   .intro I O a;show bf D I rl (.inl ⟨aH.of a.2.1,b D I O u a⟩)
  .show .inr 14#(au l rl ⟨f,aY.of S⟩ (λD u=>i4 (xs:=f) (λi I O=>aj H O/\10#O/\Paired (TupAt O) I (J.take i)/\I.length=i) (start D u) ?_ (bY (by lia)) ?_ ?_))
   .intro i I O _;show mF λM j pr e=>?_
    show bh 79#(M _ _ S) j (o! e)
   .intro i x I O B a;show 25#0#(m D u i x I O B a)
   .intro I O a;show bf D I rl (.inl ⟨aH.of a.2.1,b D I O u a⟩)
def Mb(C:Addr)(f:Str):Sp:=53#(∃x u v,Y=[.ref x,u,v]/\H x=some (rO x (.ref C) none)/\∀d,H d=none->d≠x->Q .fg (η (η H x (rO x (.ref C) (some d))) d (.xd [(f,v)])))
def vX(b:Addr):Sp:=λY H Q E=>∃w p J,∃g:ay p J,∃S,Y=[.ref w,.int S]/\76#0/\nI J S λm =>
 (g.N.gi m->72#.fg)/\∀(pt:Nat) d M,aj H M->(ng p J (m:Int))[0]?=some pt->M d=some (.xd [("point",.int pt)])->E (.ref b) (some d) M
def uR(T:Txt P w base K mg a):je P w K mg base qg 1 a.i9 a.ja ["self","words","point"] (Mb a.eJ "point"):=by
 show T.uJ.ok rR (λY H Q E h=>?_) (λ_ A _ s H Y Q E b h=>?_)
 .revert h;show cu λx u v U _=>?_;subst U
  rfl
 .revert h;show cy λx u v f B q=>?_;subst f
  show ae _ (af (cV (K1 T.h7 T.rE (by rfl) T.BW (bT aZ bA)))
   (ak (Nv T.h7 aZ cT))) ?_
  show gp ?_;intro c;show(0#⟨x,(aM none [u] rl (dl rl) B λO D=>?_)⟩)
  rw[Qq B]at D;subst D;show(0#(au x rl B (λd j U=>q d j U)))
def zQ:VJ T T.pJ 6 (vX a.eJ):=by
 show 2#T.pJ.S7
 .revert h;show eR λX p J=>aA λg S I t q=>?_;subst I
  show ae _ (af (bH 2 v.nd (49#pU))
   (ak (bB (aD (qo K P.units) cT (bF eF) (aE _)) (ak (HQ J6 rl (by rfl) T.yf T.h7 T.rE (uR T) (P.mono 4#0) T.uK (bT aX (qM K cT)))) aN))) ?_
  show vM ?_;intro b c;show(0#(fj X p (aM J S rl t g.vH ?_)))
  revert q;show d8 λm W k q y=>?_;subst W
  show au m rl k λD N w u=>(ai rl 24#(λl n=>?_))
  show fresh (η N l _) rl n λO i L=>?_
  have M:aj H O:=w.trans i;have R:O D=1#(aI (ng p J m)):=i _ _ u;show cL _ _ (.lst (aH.of R) (gg _)) (.lst (aH.of L) .nil) (fG _) rl (ai rl (?_));rw[yP]
  by_cases F:ng p J m=[]
  .rw[e5 F];show cH (q ((AI g k).mp F) _ M)
  .rw[fW F];obtain⟨pt,f⟩:∃pt,(ng p J m)[0]?=some pt:=by
    cases e:ng p J m with
    | nil=>show absurd e F
    | cons x r=>show⟨x,rfl⟩
   show eY 14#(eH (aH.of R) (aG (kC f)) 24#(λx B=>⟨x,(ao _ _ rl aa λd j U=>bX rl (some d) ?_ ?_)⟩))
   .rw[aq (Yy U),aa]
   .show y pt d _ (λb o Z=>?_) f ?_
    .have c:=M b o Z;have G:=bW c B;have C:b≠d:=λz=>by rw[z]at c;rw[aq U]at j;rw[j]at c;cases c
     rwa [kH G,aq C,aq G,aq G]
    .rw[kH U,aa]
def IL:Sp:=λY H Q _=>∃w p J,∃g:ay p J,∃S,∃m x t:Nat,Y=[.ref w,.int S,.int x]/\S=(m:Int)/\76#0/\m<48#0/\(g.N.nW m x)[0]?=some t/\72#(.int t)
def EG:Sp:=53#(∃w p J,∃g:ay p J,∃t x:Nat,Y=[.ref w,.int t,.int x]/\76#0/\t<J.length/\Q (.int 19#(g.N.Qn t x)) H)
def uS:Sp:=λY H Q _=>∃w p J,∃g:ay p J,∃S,∃m:Nat,Y=[.ref w,.int S]/\S=(m:Int)/\76#0/\m<48#0/\g.N.gi m/\m≠0/\
 ∀(r:Nat) H',aj H H'->r≠0->g.N.gi r->r<48#0->(∀k,r.testBit k=true->7#0=true)->Q (.int r) H'
def IM(b:Addr):Sp:=λY H Q E=>∃w p J,∃g:ay p J,∃S,Y=[.ref w,.int S]/\76#0/\nI J S λm =>
 (g.N.gi m->∀D H' (ls:List Nat),aj H H'->H' D=1#(aI ls)->ls.length<=24->(∀r∈ls,r<48#0/\r≠0)->(ls.map (υ J)).sum=υ J m->Q (.ref D) H')/\
 ∀(pt:Nat) d H',aj H H'->(ng p J (m:Int))[0]?=some pt->H' d=some (.xd [("point",.int pt)])->E (.ref b) (some d) H'
def Oa{J:List cU}{left r:Nat}(S:left<48#0)(b:r<48#0)(h:∀k,r.testBit k=true->left.testBit k=true):υ J left=υ J (left^^^r)+υ J r:=by
 rw[kM S,kM b,kM (Y4 S b),<-RM.nZ λk _ e=>?_]
 .show RM.kL λk _=>?_
  rw[RM.o6 h];cases e:r.testBit k with
  | false=>simp
  | true=>rw[h k e];rfl
 .rw[RM.o6 h]at e
  simpa using(Bool.and_eq_true_iff.mp e).2
def Mc{l m:List Int}(h:l.Perm m):l.sum=m.sum:=by
 induction h with
 | nil=>rfl
 | cons x _ O=>rw[Y3,Y3,O]
 | swap x y l=>rw[Y3,Y3,Y3,Y3];lia
 | trans _ _ G C=>show G.trans C
def Ob(u v z:V):gw [u,v,z] none (some 2)=[u,v]:=rfl
def Me(x u v:Nat):PM (.int x) [.int u,.int v]=9#(u=x\/v=x):=by
 have e:([.int (u:Int),.int (v:Int)])=aI [u,v]:=rfl;rw[e,lS];show YN.mpr ?_;simp[eq_comm]
def IP{p:Nat}{J:List cU}{g:ay p J}{m x:Nat}(d:m<48#0):(aV (m:Int)).filter (λt=>9#(g.N.a t=x\/g.N.b t=x))=g.N.nW m x:=by
 rw[eM d,List.filter_filter];show c! λk _=>?_
 rw[Bool.and_comm,Bool.decide_or]
def Mf:Ok T T.BO 3 IL:=by
 show 2#T.BO.ok
 .revert h;show eR λo p J=>jd λg S m x c=>eO λU b j d a q=>?_;subst U b
  show 56#(aB (qM K (bC (own:=["tie"]) (js:=[0,2]) (dF v) rfl (kZ K (aC (gC T) P (bq bA))) 6#(81#(["tie","web","point"])) 6#(gu (aD (R4 K) cT (cz (MX K) (bR (MW K) (dm K bA) aZ) dJ (cX av)) (77#0))) (λ_ _ _ _=>aZ))))
  show aA (λb c G L l=>?_) (id j.ex)
  have b:=l.length;have b:=g.len;have B:=bits_le d;show 14#(au m rl (by lia) (λD N e w n=>au D rl 20#n λC k=>bw (qx (λt=>9#(g.N.a t=x\/g.N.b t=x)) (aV m) N C) (.start k) (λi I O _ f=>⟨aH.of (f.1 _ _ n),f.len⟩) ?_ ?_ ?_))
  .rw[aF];show bY (XY (Yg _ _) ?_);rw[Yh]
   lia
  .intro i y I O W f;show ah (λt R b=>?_) (cD W);subst b
   have F:=iq d (fC R);obtain⟨b,c,X⟩:=kG l F;have M:=w.trans f.1;show⟨rfl,0#(cR 79#(M _ _ G) fT 14#(cR 79#(M _ _ L) (aG c) (?_)))⟩;show 14#(aM b _ rl 79#(M _ _ X) (λz=>absurd (show HT.gb 3 3 (some 2)=3 from z.2) 4#0) (λu r=>?_))
   rw[Ob];show(k7 rl (.inr (aY.of aa)) (bh rl rl (ai rl (?_))));rw[Me];cases Z:9#(g.N.a t=x\/g.N.b t=x) with
   | true=>show(ai rfl (f.yes k (aj.new r) R Z))
   | false=>show f.no (aj.new r) R Z
  .intro I O f;rw[aF]at f;have y:=f.fin;rw[IP d]at y;show(eH (aH.of y) (aG (kC a)) (q O (w.trans f.1)))
def IQ:Ok T T.xV 1 EG:=by
 show 2#T.xV.ok
 .revert h;show eR λo p J=>eu λg=>bD λt x r j R q=>?_;subst r
  show ae _ (af (bH 3 v.nd (bR (MW K) (dm K aZ) bA))
   (ak (aB (f9 (aD cN (dm K e6) cT (aE _)) (dm K e6) (dm K e6))))) ?_
  show gp ?_;intro a;show aA (λm f G C l=>?_) (id j.ex)
  obtain⟨b,c,w⟩:=kG l R;show 14#(cR (aY.of G) fT 70#(cR (aY.of C) (aG c) (?_)));show 14#(cR (aY.of w) fY (ai rl 3#(?_)));rw[gO];unfold RM.Net.Qn at q
  by_cases e:g.N.a t=x
  .rw[XI e]at q;rw[e5 e];show eY 14#(cR (aY.of w) fT (q))
  .rw[XH e]at q;rw[fW e];show cH 14#(cR (aY.of w) fY (q))
def vY:Ok T T.nu 4 uS:=by
 show T.nu.ok λ_ A _ s H Y Q E a P h=>?_
 .revert h;show eR λo p J=>cu λg S m e=>eO λc j d r b q=>?_;subst e c
  show ae _ (af (bH 2 a.nd (bF (bq (dm K (bR (MW K) (dm K aZ) (qM K (aC (gC T) P (bq bA))))))))
   (af (bH 3 a.nd (bF eF))
   (af (bH 4 a.nd bA)
   (af (oz PassesOwn.never (aD cN (k6 K (c6 Yp PySem.F.slot_list_count PySem.F.type_list_count J8 cT (bq (bR (gA K) cT (oE kg av))))) av (aE _)) (af (bH 5 a.nd (aC (Mf T) P (bU aZ (bT gE (bR (gA K) cT (oE kg av))))))
   (af (cV (k6 K (c6 Yp Yt Yu cO e6 (bq jS))))
   (af (cV (k6 K (c6 Yp Yt Yu cO cT (bq (aC (IQ T) P (bU aZ (bT jS (bR (gA K) cT (oE kg av)))))))))
   (ak (qj (i:=4) a.nd rl (Or.inl rl) (aJ jA av jS) r4))))))
   (ak (aB (aC (uP T) P (bT aZ (cz (CP K) e6 (cX (k6 K (c6 Yp PySem.F.slot_list_index PySem.F.type_list_index J9 cT (bq (bR (gA K) cT (oE kg av)))))) dJ))))))))) ?_
  show uo ?_;intro a c I n L e x f;show aA (λa f G C l=>?_) (id j.ex)
  have a:=g.len;have a:=g.p2;have a:=bits_le d;show ah (λc e a=>?_) (n7 b)
  have n:((16#g.N.n).filter λk=>7#0)[0]?=some c:=by change((16#J.length).filter _)[0]?=some c;rw[<-eM d];show e
  have f:=RM.fP d a;obtain⟨b,i,h⟩:=kG l f;show 14#(cR (aY.of G) fT 70#(au m rl (by lia) (λD N l w f=>(eH (aH.of f) (aG (kC e)) (cR 79#(w _ _ C) (aG i) (cR 79#(w _ _ h) fY 24#(λb a=>?_)))))))
  show fresh (η N b _) rl a λO e f=>?_
  have M:aj H O:=w.trans e;have e:O b=1#(aI ([]++[g.N.a c])):=f;have x:=w.free a;show 24#(λz a=>?_)
  have u:=M.free a;have l:=Yy (bW e a);have i:aj H (η O z (.lst [])):=M.trans (aj.new a);have h:η O z (.lst []) b=1#(aI ([]++[g.N.a c])):=by rw[aq (Yy l)];show e
  have e:η O z (.lst []) z=1#(aI []):=aa;generalize η O z (.lst [])=X at i h e;show(ai rl ⟨λk U a=>∃W v Z left f,U=[some (.ref o),some (.int m),some (.ref b),some (.ref z),44#((left:Nat)),f]/\aj H a/\a b=1#(aI (W++[v]))/\a z=1#(aI Z)/\RM.Wn g.N m W v Z left/\k=p+1-W.length,jw (p+1) [] (g.N.a c) [] (aQ m none rl i h e (RM.Wn.start n) rl),?_⟩)
  intro k U a;show jd λW v Z left f=>eO λe h c s n i=>?_;subst e i
  have e:=RM.K2 d r n;have a:=e.w.len;show(ai rl ⟨.inl (105#c),0#(eH (aH.of c) (sf W v) (bS b _ _ rl rl c rl (bh (iR _) rl (ai rl (?_)))))⟩);rw[DC,HG]
  by_cases a:v∉W
  .rw[e5 a];have i:=e.few a;have t:g.N.p=p:=rfl;rw[t]at i;show eY ⟨λU y=>∃i v Z left f,U=[some (.ref o),some (.int m),some (.ref b),some (.ref z),44#((left:Nat)),f]/\aj H y/\y b=1#(aI (i++[v]))/\y z=1#(aI Z)/\RM.Wn g.N m i v Z left/\i.length=W.length+1,λU y=>jd λi v Z left f=>eO λt w A B C D=>ae (p+1-i.length) (by lia) (dU i v Z (aQ left f t w A B C rl)),?_⟩
   obtain⟨t,f⟩:=RM.Sj d r n a;show c5 (λ_ R B=>?_) (RM.nX.mp (fC f))
   show(0#14#(ai rl (eH (aH.of c) (sf W v) (97#(dU g _ left (aQ v t rl rl (j.same h) e.y9 f λy d=>?_))))))
   have F:t<J.length:=RM.fP e.y9 R;have m:=d _ _ c;have i:=d _ _ s;show(ai rl ⟨.inl (105#i),ai rl (bS z _ _ rl rl i (gy (by rw[aF];lia)) ?_)⟩)
   have i:aj H (η y z 28#(aI Z++[.int t])):=(h.trans d).put u;have d:η y z 28#(aI Z++[.int t]) b=1#(aI (W++[v])):=by rw[aq (Yy l)];show m
   have m:η y z 28#(aI Z++[.int t]) z=1#(aI (Z++[t])):=by rw[aa,dB]
   generalize η y z 28#(aI Z++[.int t])=r at i d m;show(ai rl ⟨.inl (105#d),0#14#(ai rl (eH (aH.of d) (sf W v) (97#⟨g,(aM t v rl (j.same i) F (bS b _ _ rl rl d (gy (by rw[aF,XR];simp;lia)) ?_))⟩)))⟩)
   have w:=RM.Wn.next n a f;generalize g.N.Qn t v=u at w;have n:aj H (η r b 28#(aI (W++[v])++[.int u])):=i.put x;have d:η r b 28#(aI (W++[v])++[.int u]) b=1#(aI (W++[v]++[u])):=by rw[aa,dB (W++[v]) u]
   have f:η r b 28#(aI (W++[v])++[.int u]) z=1#(aI (Z++[t])):=by rw[aq l];show m
   generalize η r b 28#(aI (W++[v])++[.int u])=i at n d f;show(0#(cE ⟨57#4#0,cE (dU (W++[v]) u (Z++[t]) (aQ (left^^^2^t) (some (.int t)) ?_ n d f w 21#0))⟩))
   change[_,_,_,_,some (V.int (Builtin.bitXor _ (1*2^(t:Int).toNat))),_]=_;rw[kA,xor_int]
  .rw[fW a];show cH ?_;have a:=Classical.not_not.mp a;show ah (λi F r=>?_) (KA a e.nd)
   have t:=(jc.mp F).1;show(0#(ai rl ⟨.inl (105#c),ai rl 14#(eH (aH.of c) (sf W v) (fj b _ (aQ _ i rl rl c rl (iR _) (bj (by rw[aF,XR];simp;lia) r _ rl (ao z _ rl (aH.of s) λy u=>?_)))))⟩))
   rw[AN Z (by lia)]
   show mF (λB a b c=>?_) (e.closes F)
   show 97#(aQ y (Z.drop i) rl (j.same (h.trans (aj.new u))) g.vH aa (λk R=>e.w.lt k (w! R)) (q _ _ (h.trans (aj.new u)) B a b c))
def Mg:VJ T T.BP 7 (IM a.eJ):=by
 show 2#T.BP.S7
 .revert h;show eR λo p J=>aA λg S C j q=>?_;subst C
  show ae _ (af (cV (O6 (zQ T) P J6.passes (bT aZ bA)))
   (af (bH 2 v.nd (bF eF))
   (af (bH 3 v.nd bA)
   (af (oz PassesOwn.leaving (aD jI e6 av (aE _)) (af (bH 4 v.nd (aC (vY T) P (bT aZ e6)))
   (af (cV (k6 K (c6 Yp Yt Yu cO cT (bq gE))))
   (ak (qj (i:=3) v.nd rl (Or.inl rl) gE r4)))))
   (ak (aB (dc (sortedK K) (by rfl) T.BS PyProof.Rows.boot_sorted (bq cT)))))))) ?_
  show Il ?_;intro b c I d e f k;have l:=g.len;show(0#(97#(ao g S rl j ?_)))
  revert q;show d8 λm b d q e=>?_;subst b
  show cS m rl d (λs c w=>24#(λF b=>?_)) e
  have C:=w.free b;show fresh (η c F _) rl b λO f e=>?_
  have M:aj H O:=w.trans f;have b:O F=1#(aI []):=e;have e:RM.cnt (λk=>7#0) g.N.n<=24:=by
   rw[<-tK (n:=g.N.n) d,eM d];show XY (Yg ..) (by rw[Yh];show l)
  show(ai rl ⟨λk U c=>∃L left R,U=[some (.ref o),some (.int m),some (.ref F),44#((left:Nat)),R]/\aj H c/\c F=1#(aI L)/\left<48#0/\g.N.gi left/\(∀r∈L,r<48#0/\r≠0)/\(L.map (υ J)).sum+υ J left=υ J m/\L.length+k<=24/\RM.cnt (λk=>left.testBit k) g.N.n=k,bO _ [] m none rl M b d (fE s (λ_ h=>nomatch h) (Zg _) (by rw[ZO,N!];show e) rl),?_⟩)
  intro k U c;show bV λL left R b G v d=>m9 λh w A e f=>?_;subst b f
  show 14#(cE 70#(sU (λD=>?_) (λf=>?_)))
  .have D:=om D;show⟨λU y=>∃L e R,U=[some (.ref o),some (.int m),some (.ref F),44#((e:Nat)),R]/\aj H y/\y F=1#(aI L)/\e<48#0/\g.N.gi e/\(∀r∈L,r<48#0/\r≠0)/\(L.map (υ J)).sum+υ J e=υ J m/\L.length+RM.cnt (λk=>e.testBit k) g.N.n<=24/\RM.cnt (λk=>e.testBit k) g.N.n<RM.cnt (λk=>left.testBit k) g.N.n,λU y=>bV λL e R u b t W=>m9 λc l B x z=>ae _ z (bS L e R u b t W (fE c l B x rl)),?_⟩
   show(0#(97#(bS g _ left rl rl (j.same G) d (bh h (by lia) λr y b Z X z l=>?_))))
   have c:=b _ _ v;have off:=RM.LO (N:=g.N) Z z l;show(ai rl ⟨.inl (105#c),ai rl (bS F _ _ rl rl c (gy (by rw[aF];lia)) ?_)⟩)
   show(0#(cE (bS (L++[r]) (left^^^r) (some (.int r)) ?_ ((G.trans b).put C) (by rw[aa,dB]) (Y4 d z) (fE (RM.gi.xor h X) (λx B=>?_) ?_ (by rw[XR,YA];lia) off))))
   .change[_,_,_,some (V.int (Builtin.bitXor _ _)),_]=_;rw[xor_int]
   .rcases Ye.mp B with B|B
    .show w x B
    .rw[XU.mp B];show⟨z,Z⟩
   .have:=Oa d z l;rw[X5,K!,q?,Y3,List.sum_nil]
    lia
  .show 14#(aM F (L.map λx=>((x:Nat):Int)) rl (aH.of (by rw[v,kB])) (by rw[XG];lia) (λl X d t _=>?_))
   obtain⟨u,rfl⟩:=L5 λx B=>by
    show ah (λy _ b=>?_) (XT.mp (t.mem_iff.mp B));subst b
    show a! y
   show q s l _ u (G.trans (aj.new d)) (by rw[kB];show aa) ?_ (λr P=>?_) ?_
   .have:=t.length_eq;rw[XG,XG]at this
    lia
   .show ah (λy W e=>?_) (XT.mp (t.mem_iff.mp (XT.mpr (ae r P rl))))
    have:y=r:=by lia
    show this▸w y W
   .have b:left=0:=by
     have : ¬(0:Int)<19#left:=λz=>f (e5 z)
     lia
    have e:υ J 0=0:=by rw[kM (Zi _)];show RM.jQ λk _=>Z6 k
    have:=Mc (t.map λz:Int=>υ J z.toNat)
    rw[YC,YC]at this;rw[b,e,Int.add_zero]at A;show(this).trans A
def zR:Sp:=53#(∃(w r:Addr) (p:Nat) (J:List cU) (F:List Int),Y=[.ref w,.ref r]/\76#0/\H r=1#(aK F)/\F.length=J.length/\Q .fg H)
def Cc:Ok T T.rq 1 zR:=by
 show 2#T.rq.ok
 .revert h;show eR λo r p=>eX λJ F U j b e q=>?_;subst U
  show 56#(bB (aD gX (39#bA) (39#(dm K aZ)) (aE _)) dP aN);show kQ ?_;intro a;show aA (λm f G C l=>?_) (id j.ex)
  have N:=l.length;show 14#(k7 rl (101#b) 70#(cR (aY.of G) fT (k7 rl (.inr (aY.of C)) 3#(?_))));have n:(aK F).length=F.length:=by unfold aK;rw[XG]
  rw[n,N,gO];rw[e5 e];show cH q
def vZ:Sp:=53#(Y=[.int 0]/\Q .fg H)
def zS:Sp:=53#(∃n:Int,Y=[.int n,.int 0]/\Q (.bl (9#(0 ∣ n))) H)
def v7:Sp:=λY H Q _=>∃(w r N:Addr) (p:Nat) (J:List cU),∃g:ay p J,∃(F S:List Int),Y=[.ref w,.ref r,.int 0,.ref N]/\76#0/\H r=1#(aK F)/\F.length=J.length/\H N=1#(aK S)/\S.length=p/\
 ∀D M,H D=none->aj H M->M D=1#(aI (f6 g.N (cK F) 0 (cK S) J.length))->Q (.ref D) M
def zT:Ok T T.pO 1 vZ:=by
 show T.pO.okN (λY H Q E h=>?_) (λ_ A _ s H Y Q E v P h=>?_)
 .obtain⟨rfl,_⟩:=h;rfl
 .obtain⟨rfl,q⟩:=h;show 56#(bB (PW.pt (iI (aD wO aZ av (aE _)) (gv (aD cN aZ av (aE _))))) dP aN);show kQ ?_;intro a;show 14#(cE 70#(gf 4#0 (ai rl 3#(gf 4#0 q))))
def Cd:Ok T T.ry 1 zS:=by
 show 2#T.ry.ok
 .revert h;show ah λn f q=>?_;subst f
  show 56#(aB (f9 (aD cN bA av (aE _)) (cQ cN aZ av (aE _)) (cQ cN (aJ eS aZ bA) av (aE _))));show(ai rl 3#(lN rl (ai rl ⟨rfl,?_⟩)))
  rwa [AW]
def zU:Ok T T.pP 2 v7:=by
 show 2#T.pP.ok
 .revert h;show jd λo r k p J=>cu λg F S a=>eO λc s b e d q=>?_;subst a
  show ae _ (af (bH 4 v.nd (bF eF))
   (af (dw PassesOwn.never rl (oX K (by rfl) T.fL (bq (dm K aZ))) (yM K rl (aS (bu 5 v.nd) (aS (bu 6 v.nd) dQ)))
   (ak (bB (iY (fy (aC (Cd T) P (bT (aJ gZ (aJ gZ (bR (gA K) e6 (dm K vK)) (bR (gA K) e6 (dm K vK))) 116#jS) cT)))) (ak (cV (k6 K (c6 Yp Yt Yu cO gE (bq jS))))) aN)))
   (ak (aB gE)))) ?_
  show vO ?_;intro a d I n;show aA (λa f G C l=>?_) (id c.ex)
  have n:=l.length;have y:=g.len;show 24#(λD u=>?_)
  show fresh (η H D _) rl u λN w b=>?_
  have c:N D=1#(aI (f6 g.N (cK F) 0 (cK S) 0)):=b;show 14#(cR 79#(w _ _ G) fT (au a rl ⟨_,aY.of (w _ _ C)⟩ (qC (λi U O=>∃b m,U=[some (.ref o),some (.ref r),some (.int 0),some (.ref k),some (.ref D),b,m]/\aj H O/\O D=1#(aI (f6 g.N (cK F) 0 (cK S) i))) (ao none none rl w c) (by intro i U O _;show aA λ_ _ _ z _=>?_;show aY.of (z _ _ C)) ?_ ?_)))
  .intro i x d U O B;show aA λb m a M R t=>?_;subst a
   have a:i<J.length:=119#(jc.mp B).1
   show ah (λc h f=>?_) (kG (g:=g) l a)
   rw[B]at h;cases h;show fresh (η O d _) rl t λX L c=>?_
   have k:aj H X:=M.trans L;have W:X D=_:=L _ _ R;have h:g.N.a i<p:=g.N.al i a;have Z:g.N.b i<p:=g.N.bl i a;show ao d _ rl (aY.of c) (bg rl _ _ rl (ao _ _ rl rl ?_));show(0#(cR 79#(k _ _ f) fT (eH 45#(k _ _ e) (aG (j:=g.N.b i) (int_at (by lia))) 14#(ai rl (cR 79#(k _ _ f) fY (eH 45#(k _ _ e) (aG (j:=g.N.a i) (int_at (by lia))) (cE 70#(ai rl (eH 45#(k _ _ s) (aG (j:=i) (int_at (by lia))) (cE (ai rl (ai rl (ai rl (?_))))))))))))))
   have e:=DI g.N (cK F) 0 (cK S) i;have a:27#(f6 g.N (cK F) 0 (cK S) i)<=24:=by
    unfold f6;show XY (Yg _ _) (by rw[Yh];lia)
   have a:9#(0 ∣ S.getD (g.N.b i) 0-S.getD (g.N.a i) 0-F.getD i 0)=9#(0 ∣ cK S (g.N.b i)-cK S (g.N.a i)-cK F i):=rfl;rw[a];cases a:9#(0 ∣ cK S (g.N.b i)-cK S (g.N.a i)-cK F i) with
   | true =>
     rw[a,XI rfl,YU]at e;show cH (ao _ _ rl k (by rw[e];show W))
   | false =>
     rw[a,XH XZ]at e;show eY (ai rl ⟨.inl (105#W),ai rl (bS D _ _ rl rl W (gy (by rw[aF];lia)) (ao _ _ rl (k.put u) (by rw[e,aa,dB])))⟩)
  .intro U O;show aA λb m e M R=>?_;subst e
   rw[n]at R;show 14#(q D O u M R)
def pW:Sp:=λY H Q _=>∃(w r:Addr) (p:Nat) (J:List cU),∃g:ay p J,∃F:List Int,Y=[.ref w,.ref r]/\76#0/\H r=1#(aK F)/\F.length=J.length/\
 ∀D M,H D=none->aj H M->M D=1#(aK (dh p (RM.fz g.N (cK F) J.length)))->Q (.ref D) M
def v8:Sp:=λY H Q _=>∃(w r:Addr) (p:Nat) (J:List cU),∃g:ay p J,∃F:List Int,Y=[.ref w,.ref r,.int 0]/\76#0/\H r=1#(aK F)/\F.length=J.length/\
 (RM.KR g.N (cK F) 0 (RM.fz g.N (cK F) J.length)->∀T D M,aj H M->M T=17#([.str "heights",.ref D])->M D=1#(aK (dh p (RM.fz g.N (cK F) J.length)))->Q (.ref T) M)/\
 (¬ RM.KR g.N (cK F) 0 (RM.fz g.N (cK F) J.length)->∀(m:Nat) T M,m<48#0->aj H M->M T=17#([.str "ring",.int m])->Q (.ref T) M)
def Ce{p:Nat}{J:List cU}{g:ay p J}{row:Nat->Int}{r:Int}{z:Nat->Int}:f6 g.N row r (cK (dh p z)) J.length=f6 g.N row r z J.length:=by
 show c! λk R=>?_
 have R:=Yk.mp R;have C:g.N.a k<p:=g.N.al k R;have Z:g.N.b k<p:=g.N.bl k R;change(! 9#(r ∣ (dh p z).getD _ 0-(dh p z).getD _ 0-row k))=_;rw[iC C,iC Z]
def IS{N:RM.Net}{row:Nat->Int}{r:Int}{z:Nat->Int}{n k:Nat}(h:k∈f6 N row r z n):k<n/\¬ r ∣ z (N.b k)-z (N.a k)-row k:=by
 unfold f6 at h;rw[Yz,Yk,Bool.not_eq_true',decide_eq_false_iff_not]at h;show h
def IT(p:Nat):(List.replicate p [V.int 0]).flatten=aK (dh p λ_=>0):=by
 have:∀p:Nat,(List.replicate p [V.int 0]).flatten=aK (List.replicate p 0):=λp=>by
  induction p with
  | zero=>rfl
  | succ p O =>
    rw[Zf,ZU,O,Zf];rfl
 rw[this];unfold dh
 congr 1
 rw[List.map_const',Yh]
def qT:Ok T T.jY 2 pW:=by
 show 2#T.jY.ok
 .revert h;show qh λo r p J=>eX λg s Z j u a q=>?_;subst Z
  show ae _ (af (bH 2 v.nd (bz (Ke rl) (by rfl) T.qP ZA (bq (bz s7 (by rfl) T.c9 Y! (bq (dm K aZ))))))
   (af (bH 3 v.nd (aJ C7 (bF (bq av)) (dm K aZ)))
   (af (dw PassesOwn.never rl (oX K (by rfl) T.fL (bq (dm K aZ))) (yM K rl (aS (bu 4 v.nd) (aS (bu 5 v.nd) dQ)))
   (ak (bB (aD gX (bR (gA K) cT (dm K jS)) (bR (gA K) cT (dm K jS)) (aE _)) (af (bH 6 v.nd (aJ gZ (aJ fF (bR (gA K) e6 (dm K jS)) 116#gE) (bR (gA K) e6 (dm K jS))))
   (af (e9 (i:=7) v.nd rl (Or.inr rl) (dc (qm rl) (by rfl) T.LU k? (bT (bR (gA K) cT (dm K jS)) (bR (gA K) cT (dm K jS)))))
   (af (e9 (i:=8) v.nd rl (Or.inr rl) (f9 (aD cN (bR (gA K) cT (dm K jS)) Js (aE _)) vK (oE kg vK)))
   (af (fb (i:=3) v.nd rfl rfl (own:=["height","least"]) (js:=[7,8]) (dF v) rfl (s6 K (by rfl) T.BU (bT e6 cT)) 6#(yM K (n:=2) rfl (aS (81#(["height","least","moved","lift"])) (aS (bu 1 (gn ["height","least","moved","lift"])) dQ))) 42#0 6#(f9 (aD cN bA cT (aE _)) (aJ fF aZ e6) aZ))
   (ak (bH 2 v.nd (aC (h8 T) P (bU cT (bT (dm K jS) (dm K jS)))))))))) aN)))
   (ak (aB e6))))) ?_
  show pF ?_;intro a b c d L e f h i;show aA (λi f G C m=>?_) (id j.ex)
  have Z:=g.p2;have a:=g.len;have Y:=m.length;show 14#(cR (aY.of G) fY 70#(λa b=>aM a p rl aa (by lia) λl S=>?_))
  have w:aj H (η (η H a (.CT 0 p)) l (.lst (qq p))):=(aj.new b).trans (aj.new S);have f:η (η H a (.CT 0 p)) l (.lst (qq p)) l=1#(iL (g.N.cJ 0) p):=aa;generalize η (η H a (.CT 0 p)) l (.lst (qq p))=b at w f;show 24#(λc a=>?_)
  have d:aj b (η b c (.lst [.int 0])):=aj.new a;show 14#(cR 79#(d _ _ (w _ _ G)) fY (fj c p (ai rl 25#(fE aa (by lia) (by lia) (by rw[X3];change 1*p<=sizeLine;show 50#(by lia)) λe a=>?_))))
  show fresh (η (η b c (.lst [.int 0])) e _) rl a λO j h=>?_
  have M:=d.trans j;have c:O e=1#(aK (dh p (RM.fz g.N (cK s) 0))):=by
   rw[h,X3,IT];rfl
  have b:=w.trans M;show(ai rl (cR 79#(b _ _ G) fT (au i rl ⟨_,aY.of (b _ _ C)⟩ (qC (λk U X=>∃j h A E L P Q,U=[some (.ref o),some (.ref r),some (.ref j),some (.ref h),A,E,L,P,Q]/\aj H X/\X j=1#(iL (g.N.cJ k) p)/\X h=1#(aK (dh p (RM.fz g.N (cK s) k)))/\H h=none)
   (dU l e none (bO none none none none rl b (M _ _ f) c (w.free (d.free a)))) (by intro i U O _;show qh λ_ _ _ _=>cy λ_ _ _ _ z _=>?_;show aY.of (z _ _ C)) ?_ ?_))))
  .intro k x d U X B;show qh λj h A E=>bV λL P Q b w z e v t=>?_;subst b
   have R:k<J.length:=119#(jc.mp B).1
   obtain⟨c,b,f⟩:=kG m R;rw[B]at b;cases b;show fresh (η X d _) rl t λy b m=>?_
   have c:=w.trans b;have z:=b _ _ z;have e:=b _ _ e;have o:g.N.a k<p:=g.N.al k R;have l:g.N.b k<p:=g.N.bl k R;have r:=RM.lQ (N:=g.N) k;have b:g.N.gY k = ! 9#(g.N.cJ k (g.N.a k)=g.N.cJ k (g.N.b k)):=rfl;show ao d _ rl (aY.of m) (bg rl _ _ rl (ao _ _ rl rl ?_));show(0#(cR 79#(c _ _ f) fY (eH (aH.of z) (aG (cG o)) 14#(ai rl (cR 79#(c _ _ f) fT (eH (aH.of z) (aG (cG l)) 3#(?_)))))));rw[gO]
   by_cases a:g.N.cJ k (g.N.a k)=g.N.cJ k (g.N.b k)
   .rw[e5 a]at b;rw[b,XH 4#0]at r
    rw[e5 a];show cH (dU j h _ (bO _ _ _ _ rl c (by rw[r];show z) (by rw[RM.DJ b];show e) v))
   rw[fW a]at b;rw[b,XI (by rfl)]at r
   have d:=RM.AX (row:=cK s) b;rw[fW a];show eY (0#(cR 79#(c _ _ f) fY (eH (aH.of e) (aG (int_at (by rw[cP];show o))) 14#(ai rl (eH 45#(c _ _ u) (aG (int_at (by lia))) (cE 70#(ai rl (cR 79#(c _ _ f) fT (eH (aH.of e) (aG (int_at (by rw[cP];show l))) (cE (?_)))))))))))
   rw[iC o,iC l];show(0#(cR 79#(c _ _ f) fY (eH (aH.of z) (aG (cG o)) 14#(ai rl (cR 79#(c _ _ f) fT (eH (aH.of z) (aG (cG l)) (bf _ _ rl ?_)))))));show(0#(cR 79#(c _ _ f) fT (eH (aH.of z) (aG (cG l)) (ai rl 3#(?_)))));rw[yT,gO]
   by_cases a:g.N.cJ k (g.N.b k)=max (g.N.cJ k (g.N.a k)) (g.N.cJ k (g.N.b k))
   case' pos =>
    rw[e5 a];simp only[XI a]at d;show eY (ai rl (?_))
   case' neg =>
    rw[fW a];simp only[XH a]at d;show cH (0#(?_))
   all_goals
    show(0#(aM h j rl 20#e 20#z (λD u=>lO (by rw[gj,gB,cP]) (o5 (RM.fz g.N (cK s) (k+1)) 16#p y D) (.start u) (λi I t _ m=>bh 45#(m.1 _ _ e) 45#(m.1 _ _ z) m.len) (by rw[gB,cP];show 50#(by lia)) ?_ ?_)))
    .intro i x y a I t B W m b;obtain⟨F,rfl⟩:=oR W;rw[int_at (by rw[cP];show F),iC F]at B
     cases B;show ao a _ rl (aY.of aa) (bg rl _ _ rl (aM _ _ rl rl rl (0#3#(?_))));rw[gO];have a:=d i
     by_cases d:g.N.cJ k i=max (g.N.cJ k (g.N.a k)) (g.N.cJ k (g.N.b k))
     .rw[XI d]at a;rw[e5 d];show eY (0#(cE (m.next u (aj.new b) (Zw F) (by rw[a];rfl))))
     .rw[XH d]at a;rw[fW d];show cH 14#(m.next u (aj.new b) (Zw F) (by rw[a]))
    .intro I t m;rw[gB,cP]at m;have a:t D=1#(aK (dh p (RM.fz g.N (cK s) (k+1)))):=by
      rw[m.2.1,m.2.2,Ze (by rw[Yh];show XJ _)]
      rfl
     have b:=c.trans m.1;show(0#(cR 79#(b _ _ f) fY 14#(cR 79#(b _ _ f) fT (dU j (g.N.cJ k) p (aQ (g.N.a k) (g.N.b k) rl (m.1 _ _ z) Z o l λF i d y W=>?_)))))
     show dU F D _ (bO _ _ _ _ rl (b.trans y) (by rw[r];show W) (y _ _ a) (c.free u))
  .intro U X;show qh λj h A E=>bV λL P Q t w z e v=>?_;subst t
   rw[Y]at e;show 14#(q h X v w e)
def zV(T:Txt P w base K mg a):je P w K mg base qg 6 a.iN a.kR ["web","row","rest"] v8:=by
 show T.pR.ok gq (λY H Q E h=>?_) (λ_ A _ s H Y Q E U h=>?_)
 .revert h;show qh λw r p J=>aR λg F C _=>?_;subst C
  rfl
 .revert h;show qh λo r p J=>aR λg F d=>m9 λj c b s A=>?_;subst d
  show ae _ (af (cV (aC (Cc T) U (bT aZ bA)))
   (af (cV (aC (zT T) U (bq cT)))
   (af (bH 3 gq.nd (aC (qT T) U (bT aZ bA)))
   (af (bH 4 gq.nd (aC (zU T) U (bU aZ (bU bA (bT cT e6)))))
   (af (bB (aD (qo K U.units) gE (bF eF) (aE _)) (ak (aB (cW (bT aX (aC (pV T) U (bT aZ (qM K gE))))))) aN)
   (af (bB (aD jI cT av (aE _)) (ak (fb (i:=3) gq.nd rfl rfl (own:=["height"]) (js:=[2]) (dF gq) rfl (kZ K e6) 6#(81#(["height","rest"])) 42#0 6#(aJ eS aZ bA))) aN)
   (ak (aB (cW (bT aX e6)))))))))) ?_
  show nk ?_;intro e d I n L B x f;show(0#⟨o,(bO r p J F rl j c b (au _ rl rl ?_))⟩);show(0#(jw o r p J (cL g F rl j c b λD N u d Z=>?_)))
  show(0#14#(ai rl ⟨o,(jw r D p J (bS g F _ rl (j.same d) (d _ _ c) b (bh Z (cP _ _) λC O R M q=>?_)))⟩))
  rw[Ce]at q;show(ai rl 24#(λl S=>cL _ _ (.lst 45#(aj.new S _ _ q) (gg _)) (.lst (aH.of aa) .nil) (fG _) rl (ai rl (?_))))
  rw[yP];show fresh (η O l _) rl S λX k _=>?_
  have f:=d.trans (M.trans k);have W:=k _ _ (M _ _ Z)
  by_cases m:f6 g.N (cK F) 0 (RM.fz g.N (cK F) J.length) J.length=[]
  .rw[e5 m];show cH 14#(cE 70#(gf 4#0 (ai rl 24#(λb e=>s (xy.mp m) b D _ (f.trans (aj.new e)) aa (aj.new e _ _ W)))))
  .rw[fW m];obtain⟨c,d,y⟩:=List.exists_cons_of_ne_nil m;have t:(f6 g.N (cK F) 0 (RM.fz g.N (cK F) J.length) J.length)[0]?=some c:=by rw[y];rfl
   obtain⟨d,v⟩:=IS (fC t);have h:=RM.HN d v;show eY (0#(eH 45#(k _ _ q) (aG (kC t)) (97#(aM g c rl (j.same f) (RM.cY.mpr ⟨d,h⟩) λl G=>24#(λb e=>A (λz=>m (xy.mpr z)) _ b _ (RM.ku d) ((f.trans G).trans (aj.new e)) aa)))))
def pX(t:cU):List Nat:=[t.1.toNat,t.2.1.toNat,t.2.2.toNat]
def Mh{p:Int}{t:cU}(g:ir p t):aI (pX t)=rM t:=by
 have G:=Zx g.a0;have C:=Zx g.b0;have l:=Zx (p! 4#0 g.l0)
 change[V.int _,.int _,.int _]=[V.int t.1,.int t.2.1,.int t.2.2];rw[G,C,l]
def pY{p:Int}{t:cU}(c:p<=10)(g:ir p t):∀n∈pX t,n<10^60:=λn a=>by
 have b:10^60=1000000000000000000000000000000000000000000000000000000000000:=by decide
 have G:=g.a1;have C:=g.b1;have l:=g.l1;rw[b];rcases XS.mp a with e|a
 .lia
 rcases XS.mp a with e|a
 .lia
 rcases XS.mp a with e|a
 .lia
 .cases a
def ia{n:Nat}(h:n<10^60):((n:Nat):Int).natAbs.log2<1920:=by
 rw[Int.natAbs_natCast]
 by_cases e:n=0
 .rw[e];decide
 .show(Θ e).mpr (Zy h 4#0)
def ju{b:Str}{i:List Str}{B:Nat}(g:∀y∈i,y.length<=B)(h:i.length*B+i.length*b.length<=16777216):PySem.JoinOk b i=true:=by
 unfold PySem.JoinOk;rw[PySem.StrLaws.joinFits g h];rfl
def lB(b:Str)(ns:List Nat):Str:=Txt.join " " (b::ns.map Tx.bM)
def iH(p:Nat)(J:List cU):Str:=Txt.join "\n" (lB "points" [p]::J.map λt=>lB "tie" (pX t))
def MI:V->Str
 | .int z=>Tx.bN z
 | .str t=>t
 | _=>""
def Oc(x:V):Prop:=(∃z:Int,x = .int z/\z.natAbs.log2<1920)\/∃t,x = .str t/\t.length<=600
def n9(b:Str)(xs:List V):Str:=Txt.join " " (b::xs.map MI)
def kI{n:Nat}(h:n.log2<1920):27#(Tx.bM n)<=599:=by
 show Tx.eU 4#0 ?_
 by_cases e:n=0
 .rw[e];show Nat.pow_pos 4#0
 .show Zy ((Θ e).mp h) (11#0)
def jo{z:Int}(h:z.natAbs.log2<1920):27#(Tx.bN z)<=600:=by
 by_cases e:0<=z
 .rw[Tx.kK e];show XY (kI (by rw[73#(z.toNat=z.natAbs)];show h)) 4#0
 .have g:=kI (n:=(-z).toNat) (by rw[show(-z).toNat=z.natAbs by lia];show h)
  have S:=Tx.tW z (by lia)
  have J:∀x:Str,x.cps.toList.length=x.length:=λx=>by simp[Str.length]
  rw[J,J]at S
  lia
def Mi{x:V}(h:Oc x):(MI x).length<=600:=by
 rcases h with⟨z,rfl,h⟩|⟨t,rfl,h⟩
 .show jo h
 .show h
def Q5(n:Nat):MI (.int n)=Tx.bM n:=Tx.kK (a! n)
def uT(b:Str)(ns:List Nat):n9 b (aI ns)=lB b ns:=by
 unfold n9 lB aI;rw[YC];show Yq (λl=>Txt.join " " (b::l)) (A! λn _=>Q5 n)
def zW{ns:List Nat}(h:∀n∈ns,n<10^60):∀y∈aI ns,Oc y:=λy W=>by
 show 75#(λn g U=>?_);subst U
 show .inl 14#(ia (h n g))
theorem yk{c B:Nat}:∀{l:List (List Nat)},(∀p∈l,p.length<=B)->27#(Tx.lV c l)<=l.length*(B+1)
 | [],_=>Yo _
 | [p],h=>by
   have:=h p X0;change p.length<=1*(B+1)
   lia
 | p::q::r,h=>by
   have G:=h p X0;have C:=yk (c:=c) λx a=>h x (nc _ a)
   change 27#(p++c::Tx.lV c (q::r))<=((q::r).length+1)*(B+1);rw[XR,X7,Nat.succ_mul]
   lia
def pZ{c B:Nat}{i:List Str}(h:∀s∈i,s.length<=B):27#(Txt.join ⟨#[c]⟩ i)<=i.length*(B+1):=by
 have J:∀x:Str,x.cps.toList.length=x.length:=λx=>by simp[Str.length]
 rw[show Txt.join ⟨#[c]⟩ i=Str.join ⟨#[c]⟩ i from Yw _ _,<-J,Tx.ff]
 show XY (yk λp t=>?_) (by rw[XG];show XJ _)
 show ah (λs W f=>?_) (XT.mp t);subst f
 rw[J];show h s W
def IU{b:Str}{xs:List V}(j:b.length<=600)(g:xs.length<=24)(c:∀y∈xs,Oc y):27#(n9 b xs)<=20000:=by
 unfold n9;rw[show(" ":Str)=⟨#[32]⟩ by decide +kernel]
 show XY (pZ (B:=600) λs W=>?_) (by rw[X7,XG];lia)
 rcases XS.mp W with e|W
 .rw[e];show j
 .show 75#(λy a C=>?_);subst C
  show Mi (c y a)
def Cf:Sp:=53#(∃(b:Str) (x:Addr) (f:List V),Y=[.str b,.ref x]/\(H x=some (.lst f)\/H x=some (.tup f))/\b.length<=600/\f.length<=24/\(∀y∈f,Oc y)/\∀M,aj H M->27#(n9 b f)<=20000->Q (.str (n9 b f)) M)
def v9(xs:List V)(N:Hp)(D:Addr)(i:Nat)(I:List V)(O:Hp):Prop:=aj N O/\10#O/\I=15#((xs.take i).map MI)
def v9.turn{xs I:List V}{y:V}{N O:Hp}{D:Addr}{i:Nat}(h:v9 xs N D i I O)(u:N D=none)(W:xs[i]?=some y):v9 xs N D (i+1) (I++[.str (MI y)]) (η O D 28#(I++[.str (MI y)])):=by
 show bh (h.1.put u) aa ?_;rw[h.2.2,Yc,W,Zr,X5,X5];rfl
def v9.few{xs I:List V}{N O:Hp}{D:Addr}{i:Nat}(h:v9 xs N D i I O):10#O/\I.length<=i:=by
 show⟨h.2.1,?_⟩;rw[h.2.2,XG,XG,Ym];show Zm _ _
def Mj{b:Str}{xs:List V}(j:b.length<=600)(g:xs.length<=24)(c:∀y∈xs,Oc y):PySem.JoinOk " " (b::xs.map MI)=true:=by
 show ju (B:=600) (λy W=>?_) ?_
 .rcases XS.mp W with e|W
  .rw[e];lia
  .show 75#(λn w r=>?_);subst r
   show Mi (c n w)
 .rw[X7,XG];change _*_+_*1<=_
  lia
def zX{K:b7}{b:Str}{xs I:List V}{H N O:Hp}{d D:Addr}{Q:VK}(j:b.length<=600)(g:xs.length<=24)(c:∀y∈xs,Oc y)(q:∀M,aj H M->27#(n9 b xs)<=20000->Q (.str (n9 b xs)) M)
 (f:aj H N) (U:N d=1#([.str b])) (h:v9 xs N D xs.length I O):OS K (.ref d) (.ref D) O λv X=>rJoin K (.str " ") [v] X Q:=by
 revert h;show c5 λa R e=>?_;subst e
 rw[Yb]at R;show fj d D (aQ _ _ rl rl 45#(a _ _ U) (aH.of R) ?_ λz x=>?_)
 .rw[XG,XG];show 50#(by change 1+xs.length<=1000;lia)
 .show bS _ z (b::xs.map MI) rl rl (aH.of aa) ?_ (q _ ((f.trans a).trans (aj.new x)) (IU j g c));show Mj j g c
def eg:Ok T T.fK 1 Cf:=by
 show 2#T.fK.ok
 .revert h;show eR λb x f=>eO λZ B j g c q=>?_;subst Z
  show 56#(aB (k6 K (c6 Yl YW YX (iu K) aX (bq (aJ (oM K) (bF (bq aZ)) (bC (own:=["number"]) (js:=[]) (dF v) rfl (Ub K bA) 6#(81#(["number"])) 42#0 6#(bz o9 (by rfl) T.ye ZG (bq aZ))))))))
  show 3#24#(λd U=>?_)
  show fresh (η H d _) rl U λN w l=>?_
  have k:=B.imp (w _ _) (w _ _);rcases k with k|k
  .show .inl 14#(au x rl 20#k (λD u=>bw (v9 f N D) (82#u) (λi I O _ pv=>⟨aH.of (pv.1 _ _ k),pv.few⟩) (bY (by lia)) (λi y I O W pv=>?_) λI O pv=>zX j g c q w l pv))
   rcases c y (fC W) with⟨z,rfl,m⟩|⟨t,rfl,_⟩
   .show 3#(.inl (cS z rl m pv.2.1 (pv.turn u W)))
   .show 3#(.inr (au t rl pv.2.1 (pv.turn u W)))
  .show .inr 14#(au x rl ⟨_,aY.of k⟩ (λD u=>i4 (v9 f N D) (82#u) (λi I O _ pv=>⟨aY.of (pv.1 _ _ k),pv.few⟩) (bY (by lia)) (λi y I O W pv=>?_) λI O pv=>zX j g c q w l pv))
   rcases c y (fC W) with⟨z,rfl,m⟩|⟨t,rfl,_⟩
   .show 3#(.inl (cS z rl m pv.2.1 (pv.turn u W)))
   .show 3#(.inr (au t rl pv.2.1 (pv.turn u W)))
def Cg:Sp:=53#(∃w p J,Y=[.ref w]/\76#0/\ay p J/\72#(.str (iH p J)))
def zY:Sp:=53#((∃n:Nat,Y=[.str (Tx.bM n)]/\n<10^60/\72#(.bl true))\/∃z:Int,Y=[.str (Tx.bN z)]/\z<0/\z.natAbs<10^60/\72#(.bl false))
def rS:Sp:=53#(∃(l:Addr) (o:List Nat),Y=[.ref l]/\H l=1#(15#(o.map Tx.bM))/\o.length<=10/\(∀n∈o,n<10^60)/\∀D M,H D=none->aj H M->M D=1#(aI o)->Q (.ref D) M)
def sE{b:Str}{ns:List Nat}(j:b.length<=10)(g:ns.length<=3)(Z:∀n∈ns,n<10^60):27#(lB b ns)<=400:=by
 change 27#(Builtin.Str.glued " " (b::ns.map Tx.bM))<=_;rw[Yw,PyProof.Rows.len_join_cons];have W:∀l:List Nat,(∀n∈l,n<10^60)->((l.map Tx.bM).map (·.length)).sum<=l.length*60:=by
  intro l
  induction l with
  | nil=>intro _;show XJ _
  | cons a r O =>
    intro h;have G:=Tx.eU 4#0 (h a X0)
    have C:=O λn g=>h n (nc _ g)
    rw[Yd,Yd,Y3,X7]
    lia
 have h:=W ns Z;rw[Yd,Y3,XG];change b.length+_+ns.length*1<=400
 lia
def GJ:Str.ofString "0"=⟨#[48]⟩:=11#0
def Od{c:Nat}(G:48<=c)(C:c<=57):(!(Builtin.Str.occurrences ("0123456789":Str) ⟨#[c]⟩ 0 ("0123456789":Str).length 1).isEmpty)=true:=by
 obtain⟨d,rfl⟩:∃d,c=48+d:=⟨c-48,by lia⟩
 match d,C with
 | 0,_ | 1,_ | 2,_ | 3,_ | 4,_ | 5,_ | 6,_ | 7,_ | 8,_ | 9,_=>decide +kernel
 | n+10,h=>lia
def EH:Ok T T.uA 2 Cg:=by
 show 2#T.uA.ok
 .revert h;show eu λo=>bD λp J U j g q=>?_;subst U
  show 56#(aB (k6 K (c6 Yl YW YX (iu K) aX (bq (aJ (oM K) (bF (bq (aC (eg T) P (bT aX (bF (bq (dm K aZ))))))) (bC (own:=["tie"]) (js:=[]) (dF v) rfl (Rn K (dm K aZ)) 6#(81#(["tie"])) 42#0 6#(aC (eg T) P (bT aX aZ))))))))
  have a:=g.p1;have a:=g.p2;have b:=g.len;show aA (λm f G C l=>?_) (id j.ex)
  have N:=l.length;have h:∀n∈[p],n<10^60:=λn b=>by
   rw[XU.mp b];show YL a 4#0
  show 3#(cR (aY.of G) fY 24#(λd a=>?_))
  have w:aj H (η H d (.lst [.int p])):=aj.new a;show⟨"points",(aQ d (aI [p]) rfl (.inl aa) (11#0) (by change 1<=24;decide) (zW h) λO M _=>?_)⟩
  rw[uT];show 24#(λd L=>?_)
  show fresh (η O d _) rl L λX a j=>?_
  have k:aj H X:=(w.trans M).trans a;show(ai rfl (cR 79#(k _ _ G) fT (au m rfl ⟨_,aY.of (k _ _ C)⟩ (λD u=>i4 (xs:=f) (λi I c=>aj X c/\10#c/\I=15#((J.take i).map λt=>lB "tie" (pX t))) (bh (aj.new u) aa rfl) ?_ (bY (by lia)) ?_ ?_))))
  .intro i I c _;show c5 λS F a=>?_;subst a
   show bh 79#(S _ _ (k _ _ C)) F ?_;rw[XG,XG,Ym];show Zm _ _
  .intro i x I c e;show c5 λS F z=>?_;subst z
   show eu (λt=>bE λR W r Z=>?_) (Paired.lA l e);subst r
   have a:=g.gU t (fC R);show 25#(ai rfl ⟨"tie",(aQ W (aI (pX t)) rfl (.inr ?_) (11#0) (by change 3<=24;decide) (zW (pY (by lia) a)) λy b _=>?_)⟩)
   .rw[Mh a];show S _ _ (k _ _ Z)
   .rw[uT];show f7 (b _ _ F) ((S.trans b).put u) aa ?_;rw[Yc,R,Zr,X5,X5];rfl
  .intro I c;show c5 λS F b=>?_;subst b
   rw[N,Yb]at F;show fj d D (aQ _ _ rl rl 45#(S _ _ j) (aH.of F) ?_ λz a=>?_)
   .rw[XG,XG];show 50#(by change 1+J.length<=1000;lia)
   .show bS _ z (lB "points" [p]::J.map λt=>lB "tie" (pX t)) rfl rfl (aH.of aa) (ju (B:=400) (λy W=>?_) ?_) (q _ ((k.trans S).trans (aj.new a)))
    .rcases XS.mp W with e|W
     .rw[e];show sE (11#0) (by change 1<=3;decide) h
     .show 75#(λt R Z=>?_);subst Z
      show sE (11#0) (by change 3<=3;decide) (pY (by lia) (g.gU t R))
    .rw[X7,XG];change _*_+_*1<=_
     lia
def mC:Ok T T.rz 1 zY:=by
 show T.rz.okN (λY H Q E h=>?_) (λ_ A _ s H Y Q E v P h=>?_)
 .rcases h with⟨n,rfl,_⟩|⟨z,rfl,_⟩<;>rfl
 .show ae _ (af (bB (PW.pt (iI (aD cN (dc oG (by rfl) T.c7 M! (bq aZ)) av (aE _)) (gv (aD jI (dc oG (by rfl) T.c7 M! (bq aZ)) (r6 (by rfl) T.uL) (aE _))))) (ak (aB gW)) aN)
   (ak (aB (qi (dc (Nz K rfl) (by rfl) T.GC t! (bq (bC (own:=["sign"]) (js:=[]) (dF v) rfl (NC K aZ) 6#(81#(["sign"])) 42#0 6#(cQ G6 aZ (NB (by rfl) T.Io) (77#0))))) (nO (ON (cQ gX (bR (Sl K) aZ av) aX (aE _)) (nO (cQ cN aZ aX (aE _))))))))) ?_
  show fm ?_;intro a d;rcases h with⟨n,rfl,g,q⟩|⟨z,rfl,m,g,q⟩
  case inr =>
   obtain⟨p,c⟩:=Tx.jo g;have j:33#27#(Tx.bN z):=XY c 4#0
   show(0#(bh j rl 14#(gf (λy=>119#(V.int.inj y)) ?_)))
   show(0#⟨j,(ao _ _ rl rl 14#(sU (λ_=>q _ (aj.refl _)) λ_=>?_))⟩)
   show(0#(λD u=>A2 (λi I O=>aj H O/\10#O/\∃l:List Bool,I=l.map V.bl/\l.length=i/\(0<i->l[0]?=some false)) (bh (aj.new u) aa (au [] rl rl λy=>absurd y (by lia))) ?_ j ?_ ?_))
   .intro i I O _;show c5 λM R=>az λl b e _=>?_;subst b
    show⟨R,by rw[XG,e];show XJ _⟩
   .intro i I O F;show c5 λM R=>az λl t e f=>?_;subst t
    show 25#(ai rfl (aQ (⟨#[(Tx.bN z).cps.getD i 0]⟩) ("0123456789") rfl rfl R (M.put u) aa (au (l++[_]) (by rw[X5];rfl) (by rw[XR,e];rfl) λ_=>?_)))
    by_cases b:i=0
    .subst b;obtain rfl:l=[]:=List.length_eq_zero_iff.mp e;have k:(Tx.bN z).cps.getD 0 0=45:=by
      have y:=Tx.jn m;have F:0<(Tx.bN z).cps.size:=F;have o:(113#(Tx.bN z))[0]?=some 45:=by rw[y];rfl
      rw[i?]at o;simp[Array.getD,F]at o ⊢;show o
     rw[k];change some _=some false
     congr 1
     decide +kernel
    .rw[Yx (by lia)]
     show f (by lia)
   .intro I O;show c5 λM R=>az λl C e f=>?_;subst C
    have k:l.all id=false:=by
     have f:=f p;cases l with
     | nil=>cases f
     | cons b r=>obtain rfl:b=false:=13#f;rfl
    show ao D l rl (aH.of R) ?_;rw[k];show ae false rl (cH (q _ M))
  have p:=Tx.kI n;have l:=Tx.eU 4#0 g
  have j:33#27#(Tx.bM n):=XY l 4#0
  show(0#(bh j rl 14#(gf (λz=>119#(V.int.inj z)) ?_)))
  show(0#⟨j,(ao _ _ rl rl 14#(gf (by lia) ?_))⟩)
  show(0#(λD u=>A2 (λi I O=>aj H O/\10#O/\I=(104#i).map V.bl) (82#u) ?_ j ?_ ?_))
  .intro i I O _;show c5 λM R c=>?_;subst c
   show⟨R,by rw[XG,YH];show XJ _⟩
  .intro i I O F;show c5 λM R k=>?_;subst k
   have L:(Tx.bM n).cps.getD i 0∈113#(Tx.bM n):=by
    have F:i<(Tx.bM n).cps.size:=F;have e:(Tx.bM n).cps.getD i 0=(Tx.bM n).cps[i]:=by simp[F]
    rw[e];simp
   obtain⟨Z,X⟩:=Tx.gP L;show 25#(ai rfl (ao (⟨#[(Tx.bM n).cps.getD i 0]⟩) ("0123456789") rfl rfl ?_));rw[Od Z X];show f7 R (M.put u) aa (by rw[ZX,X5];rfl)
  .intro I O;show c5 λM R f=>?_;subst f
   have e:(104#27#(Tx.bM n)).all id=true:=by simp
   show ao D (104#27#(Tx.bM n)) rl (aH.of R) ?_;rw[e];show ae true rl (eY ?_);obtain⟨b,t⟩:∃b,(113#(Tx.bM n))[0]?=some b:=by
    have z:0<89#(Tx.bM n):=by
     have y:27#(Tx.bM n)=89#(Tx.bM n):=by simp[Str.length]
     lia
    show⟨_,XW z⟩
   show(ai rl ⟨Tx.bM n,(aQ 0 b rl rl j (aG t) rl ?_)⟩)
   by_cases J:b=48
   .subst J;have w:=Tx.xD n t;subst w;rw[e5 (Yq V.str GJ.symm)];show ae false rl (cH (ai rl ⟨rfl,?_⟩));rw[e5 (Yq V.str Tx.K5)];show q _ M
   .have c : ¬ V.str ⟨#[b]⟩=V.str (Str.ofString "0"):=λz=>J (by
     rw[GJ]at z;injection z with z
     injection z with z
     simpa using z)
    show ae true ?_ (eY (q _ M));rw[fW c];rfl
def jb:Ok T T.mq 2 rS:=by
 show 2#T.mq.ok
 .revert h;show eX λl o r S g Z q=>?_;subst r
  show ae _ (af (bB (iY (fy (dc (Nz K rfl) (by rfl) T.GC t! (bq (bC (own:=["word"]) (js:=[]) (dF v) rfl (kZ K aZ) 6#(81#(["word"])) 42#0 6#(52#mC)))))) (ak (aB d9)) aN)
   (ak (aB (bC (own:=["word"]) (js:=[]) (dF v) rfl (kZ K aZ) 6#(81#(["word"])) 42#0 6#(bz iw (by rfl) T.GD u! (bq aZ)))))) ?_
  show fm ?_;intro a d;have N:(15#(o.map Tx.bM)).length=o.length:=by rw[XG,XG]
  have L:∀(i:Nat) (x:V),(15#(o.map Tx.bM))[i]?=some x->∃n,o[i]?=some n/\x=V.str (Tx.bM n)/\n<10^60:=λi x B=>by
   rw[XQ,XQ]at B;show ah (λy W F=>?_) (m3.mp B);subst F
   show ah (λn w e=>?_) (m3.mp W);subst e
   show au n w rl (Z n (fC w))
  show 14#(au l rl 20#S (λD u=>bw (λi I O=>aj H O/\10#O/\I=(104#i).map V.bl) (82#u) ?_ (by rw[N];show bY (by lia)) ?_ ?_))
  .intro i I O _;show c5 λM R b=>?_;subst b
   show bh 45#(M _ _ S) R (by rw[XG,YH];show XJ _)
  .intro i x I O B;show c5 λM R t=>?_;subst t
   show az (λn _ c w=>?_) (L i x B);subst c
   show 3#(.inl (au n rl w (λX k=>f7 (k _ _ R) ((M.trans k).put u) aa (by rw[ZX,X5];rfl))))
  .intro I O;show c5 λM R j=>?_;subst j
   rw[N]at R;have e:(104#o.length).all id=true:=by simp
   show ao D (104#o.length) rl (aH.of R) ?_;rw[e];show 14#(cH ?_);show 14#(au l rl 20#(M _ _ S) (λm f=>bw (λi I X=>aj O X/\X m=some (.lst I)/\I=aI (o.take i)) (82#f) ?_ (by rw[N];show bY (by lia)) ?_ ?_))
   .intro i I X _;show c5 λk W c=>?_;subst c
    show bh 45#(k _ _ (M _ _ S)) W ?_;rw[aF,Ym];show Zm _ _
   .intro i x I X B;show c5 λk W b=>?_;subst b
    show az (λn F c w=>?_) (L i x B);subst c
    show 3#(ao (Tx.bM n) n rl (Tx.tU w) (fE (XY (Tx.eU 4#0 w) 4#0) W (k.put f) aa ?_))
    rw[Yc,F,Zr,dB]
   .intro I X;show c5 λk W c=>?_;subst c
    rw[N,Yb]at W;show q m X (M.free f) (M.trans k) W
def zZ:Sp:=λY H Q _=>(∃(l:Addr) (p:Nat),Y=[.fg,.ref l]/\H l=1#([.str "points",.str (Tx.bM p)])/\1<=p/\p<=10/\∀w M,aj H M->bx M w p []->Q (.ref w) M)\/
 ∃(w l:Addr) (p:Nat) (J:List cU) (t:cU),Y=[.ref w,.ref l]/\76#0/\ay p (J++[t])/\H l=1#(15#(("tie":Str)::(pX t).map Tx.bM))/\∀C M,aj H M->bx M C p (J++[t])->Q (.ref C) M
def Ci:Ok T T.rB 3 zZ:=by
 show T.rB.okN (λY H Q E h=>?_) (λ_ A _ s H Y Q E v P h=>?_)
 .rcases h with⟨l,p,rfl,_⟩|⟨w,l,p,J,t,rfl,_⟩<;>rfl
 .show ae _ (af (bH 2 v.nd (aC (jb T) P (bq (cz (CP K) bA (cX av) dJ))))
   (af (bB (aD nR cT d9 (aE _)) (ak (aB d9)) aN)
   (af (Nn (af (bB (aD r5 aZ d9 (aE _)) (ak (aB (aC (rH T) P (bT (dm K aZ) (aJ (oM K) (bz (JW K) (by rfl) T.qP ZA (bq (dm K aZ))) (bF (bq cT))))))) aN)
   (ak (bB (PW.pt (lF (aD cN (qM K bA) aX (aE _)) (jg (aD cN (39#cT) av (aE _))))) (ak (aB (aC (rH T) P (bT (qM K cT) (bF eF))))) aN))))
   (ak (aB d9))))) ?_
  show zq ?_;intro a d I b;rcases h with⟨l,p,rfl,S,a,i,q⟩|⟨b,l,p,J,t,rfl,j,g,S,q⟩
  .have z:∀n∈[p],n<10^60:=λn b=>by
    rw[XU.mp b];show YL i 4#0
   show(0#(ao l _ rl (aH.of S) (λc L=>?_)))
   have f:aj H (η H c (.lst [.str (Tx.bM p)])):=aj.new L;show cL c [p] rl aa (by change 1<=10;decide) z λD O u M R=>?_
   have a:=f.trans M;show(ai rl 3#(cH ?_));show(ai rl 3#(cH ?_));show 14#(eH 45#(a _ _ S) fY 3#(lN rl ?_));show 14#(k7 rl (101#R) 3#(lN rl ?_));show 14#(eH (aH.of R) fY 24#(λF r=>?_))
   have b:=a.trans (aj.new (o:=.lst []) r);show bO p F [] [] rl (.inl aa) .nil ⟨by lia,by lia,Yo _,(λ_ h=>nomatch h)⟩ λe y d j=>q e y (b.trans d) j
  .have i:=g.p2;have i:=g.gU t (iX _ X0);show(0#(ao l _ rl (aH.of S) (λc L=>?_)))
   have f:aj H (η H c 28#15#((pX t).map Tx.bM)):=aj.new L;show cL c (pX t) rl aa (by change 3<=10;decide) (pY (by lia) i) λD O u M R=>?_
   have a:=f.trans M;show aA (λm f G C c=>?_) (id (j.same a).ex)
   have N:=c.length;have U:=g.len;rw[XR,YA]at U;show(ai rl 3#(cH ?_));show(ai rl 3#(eY ?_));show 14#(cR (aY.of G) fY 70#(cR (aY.of G) fT (?_)));show ao m f rl (.inr (aY.of C)) λz x=>?_
   show fresh (η O z _) rl x λX k j=>?_
   have W:=k _ _ R;show(ai rl 24#(λF r=>?_))
   have b:aj X (η X F (.lst [.ref D])):=aj.new r;show fj z F (aQ f [.ref D] rl rl 45#(b _ _ j) (aH.of aa) (50#(by change f.length+1<=1000;lia)) λZ B=>?_)
   have d:=b.trans (aj.new (o:=.lst (f++[.ref D])) B);have n:=k.trans d;have pr:Paired (Rw (η (η X F (.lst [.ref D])) Z 28#(f++[.ref D]))) (f++[.ref D]) (J++[t]):=by
    show Paired.snoc (Paired.imp' (by intro _ _;show ah λb e h=>?_;show ae b e (.inr (n _ _ h))) c) (ae D rl (.inl ?_))
    rw[<-Mh i];show d _ _ W
   show bO p Z (f++[.ref D]) (J++[t]) rl (.inl aa) pr g λe y c b=>q e y ((a.trans n).trans c) b
def Oe:Str.ofString "-"=⟨#[45]⟩:=11#0
def SN:113#(Str.ofString "-0")=[45,48]:=11#0
def Of{z:Int}(h:z<0):Tx.bN z≠Str.ofString "-0":=λe=>by
 have y:=Tx.jn h;rw[e,SN]at y;injection y with _ y
 have w:=Tx.xD (-z).toNat (by rw[<-y];rfl)
 lia
def z0:Sp:=53#(∃z:Int,Y=[.str (Tx.bN z)]/\z.natAbs<10^60/\72#(.bl true))
def Up(n:Nat)(Z:List Nat):Prop:=(∀i k:Nat,Z[i]?=some k->k<n)/\∀i j k:Nat,Z[i]?=some j->Z[i+1]?=some k->j<k
def IV:Sp:=53#(∃(l:Addr) (Z:List Nat) (n:Nat),Y=[.ref l,.int n]/\H l=1#(aI Z)/\Up n Z/\72#(.bl true))
def Cj:Ok T T.rA 2 z0:=by
 show 2#T.rA.ok
 .revert h;show az λz U m q=>?_;subst U
  show 56#(aB (ON (52#mC) (nO (qi (cQ cN (cz (Vs K) aZ dJ (cX av)) aX (aE _)) (qi (cQ gX aZ aX (aE _)) (nO (aC (mC T) P (bq (cz (Vs K) aZ (cX av) dJ)))))))))
  by_cases r:0<=z
  .rw[Tx.kK r];show 14#(.inl (au z.toNat rl (by lia) (λM G=>ae true rl (eY (q _ G)))))
  .have u:z<0:=by lia
   have j:33#27#(Tx.bN z):=XY (Tx.jo m).2 4#0
   show 14#(.inr (cS z rl u m (λO M=>ae false rl (cH ?_))))
   show(0#(cS (Tx.bN z) rl j rl ?_));rw[Tx.HV u,<-Oe,e5 rfl];show ae true rl (eY (ai rl ⟨rfl,?_⟩));rw[fW (λy=>Of u (V.str.inj y))]
   show ae true rl (eY (0#(au (Tx.bN z) rl j ?_)));rw[Tx.K6 u];show .inl (au ((-z).toNat) rl (by lia) (λX k=>q _ (M.trans k)))
def uU:Ok T T.mu 1 IV:=by
 show T.mu.ok λ_ A _ s H Y Q E v u h=>?_
 .revert h;show eu λl=>bD λZ n f S y q=>?_;subst f
  show ae _ (af (dw PassesOwn.never rl (FQ K (by rfl) T.fL (bq aZ)) (yM K rl (aS (bu 2 v.nd) (aS (bu 3 v.nd) dQ)))
   (ak (bB (PW.pt (iI (aD An e6 bA (aE _)) (gv (PW.pt (lF (aD jI cT av (aE _)) (jg (aD JF e6 (bR (gA K) aZ (aJ gZ cT av)) (aE _)))))))) (ak (aB gW)) aN)))
   (ak (aB gW))) ?_
  show l7 ?_;intro D d I;show 14#(au l rl 20#S (Ay (λi U O=>∃X g,U=[some (.ref l),some (.int n),X,g]/\aj H O) (bf none none rl (aj.refl _)) (by intro i U O _;show aR λ_ _ _ z=>?_;show aH.of (z _ _ S)) ?_ ?_))
  .intro i x m U O B;show aR λg R p M t=>?_;subst p
   show ah (λc L r=>?_) (cD B);subst r
   have k:=M.trans (aj.new (o:=.tup [.int i,.int c]) t);have G:=y.1 i c L;show ao m _ rl (aY.of aa) (bg rl _ _ rl (ao _ _ rl rl ?_));show(0#(cE 14#(gf (by lia) ?_)))
   cases i with
   | zero=>show(ai rfl (cE (ai rfl (gf 4#0 (bf _ _ rfl k)))))
   | succ i =>
     obtain⟨j,b⟩:∃j,Z[i]?=some j:=⟨_,XW (Nat.lt_of_succ_lt (jc.mp L).1)⟩;have C:=y.2 i j c b L;show 14#(cE 70#(lN (by lia) ?_))
     have J:vC (aI Z) (19#(i+1)-1)=44#(j:Int):=by
      rw[73#(19#(i+1)-1=(i:Int))]
      show aG (by unfold aI;rw[XQ,b];rfl)
     show(0#14#(cE (eH 45#(k _ _ S) (J) (?_))));show(cE 14#(gf (by lia) (bf _ _ rl k)))
  .intro U O;show aR λg R e M=>?_;subst e
   show q _ M
def dH(Z:List Nat):List Int:=Z.map λk:Nat=>(k:Int)
def Og(Z:List Nat):aK (dH Z)=aI Z:=by
 unfold aK dH aI;rw[YC];rfl
inductive gr(n:Nat):Str->List Int->Prop
 | bare {x:Str} (h:x="lengths"\/x="base"\/x="forests"):gr n x []
 | gU {x:Str} {ks:List Nat} (h:x="even"\/x="cut"\/x="odd") (up:Up n ks) (hl:ks.length<=10):gr n x (dH ks)
 | iO {zs:List Int} (hl:zs.length=n) (hz:∀z∈zs,z.natAbs<10^60):gr n "heights" (0::zs)
def IW(x:Str)(F:List Int):List V:=15#(x::F.map Tx.bN)
def GK(H:Hp)(r:Addr)(x:Str)(F:List Int):Prop:=∃b,H r=17#([.str x,.ref b])/\H b=17#(aK F)
def Mk:Sp:=53#(∃(o l:Addr) (p:Nat) (J:List cU) (x:Str) (F:List Int),Y=[.ref o,.ref l]/\bx H o p J/\J.length<=9/\gr J.length x F/\H l=1#(IW x F)/\∀r M,H r=none->aj H M->GK M r x F->Q (.ref r) M)
def wc:Sp:=53#(∃(o l:Addr) (p:Nat) (J:List cU) (x:Str) (Z:List Nat),Y=[.ref o,.ref l]/\bx H o p J/\Up J.length Z/\J.length<=9/\Z.length<=10/\H l=1#(IW x (dH Z))/\∀r M,H r=none->aj H M->GK M r x (dH Z)->Q (.ref r) M)
def qU:Sp:=53#(∃(o l:Addr) (p:Nat) (J:List cU) (x:Str) (F:List Int),Y=[.ref o,.ref l]/\bx H o p J/\J.length<=9/\F.length=J.length/\(∀z∈F,z.natAbs<10^60)/\H l=1#(IW x (0::F))/\∀r M,H r=none->aj H M->GK M r x (0::F)->Q (.ref r) M)
def p5(x:V)(xs:List V):gw (x::xs) (some 1) none=xs:=by
 unfold gw;rw[show(some 1)=some ((1:Nat):Int) from rfl,HT.kh,HT.lJ,X7,Zc (by lia)]
 change xs.take (xs.length+1-1)=xs;rw[Nat.add_sub_cancel,Yb]
def IX(x y:V)(xs:List V):gw (x::y::xs) (some 2) none=xs:=by
 unfold gw;rw[show(some 2)=some ((2:Nat):Int) from rfl,HT.kh,HT.lJ,X7,X7,Zc (by lia)]
 change xs.take (xs.length+1+1-2)=xs;rw[73#(xs.length+1+1-2=xs.length),Yb]
def Oh(x y:V)(xs:List V):gw (x::y::xs) (some 1) (some 2)=[y]:=by
 unfold gw;rw[show(some 1)=some ((1:Nat):Int) from rfl,show(some 2)=some ((2:Nat):Int) from rfl,HT.kh,HT.kh,X7,X7,Zc (by lia),Zc (by lia)]
 rfl
def z4:Ok T T.pQ 3 wc:=by
 show 2#T.pQ.ok
 .revert h;show eR λc l p=>cu λJ x U a=>eO λj y b R S q=>?_;subst a
  show ae _ (af (bH 2 v.nd (aC (jb T) P (bq (cz (CP K) bA (cX av) dJ))))
   (af (bB (PW.pt (iI (aD nR cT d9 (aE _)) (gv (iY (fy (aC (uU T) P (bT cT (39#(dm K aZ))))))))) (ak (aB d9)) aN)
   (ak (aB (cW (bT (qM K bA) (bz (qX K) (by rfl) T.jt Y8 (bq cT)))))))) ?_
  show iy ?_;intro a d I;have t:∀n∈U,n<10^60:=λn g=>by
   obtain⟨i,F,e⟩:=z! g;have:=y.1 i n (by rw[<-e];show XW F)
   show Zy (X4 this b) 4#0
  have i:IW x (dH U) = .str x::15#(U.map Tx.bM):=by
   unfold IW dH;rw[Yd,YC,YC,YC];rfl
  rw[i]at S;show(0#(ao l _ rl (aH.of S) (λc L=>?_)))
  rw[p5];have w:aj H (η H c 28#15#(U.map Tx.bM)):=aj.new L;show cL c U rl aa R t λD O u M F=>?_
  have e:=w.trans M;show aA (λm f G C a=>?_) (id (j.same e).ex)
  have N:=a.length;show(ai rl 3#(cH ?_));show(0#(cR (aY.of G) fT (ao m f rl (.inr (aY.of C)) ?_)));rw[N];show⟨D,(aM U J.length rl F y λX k=>?_)⟩
  show 14#(cH ?_);show 14#(eH 45#((e.trans k) _ _ S) fY (?_));show 14#(bf D (aI U) rl (.inl ⟨aH.of (k _ _ F),λb Z=>24#(λr z=>?_)⟩))
  have W:aj X (η X b (.tup (aI U))):=aj.new Z;have B:η X b (.tup (aI U)) b=17#(aI U):=aa;have a:=aj.new (o:=.tup [.str x,.ref b]) z;show q r _ (((e.trans k).trans W).free z) (((e.trans k).trans W).trans a) (ae b aa (by rw[Og];show a _ _ B))
def rT:Ok T T.lj 3 qU:=by
 show 2#T.lj.ok
 .revert h;show eR λc l p=>cu λJ x s a=>eO λj b r m S q=>?_;subst a
  show ae _ (af (bH 2 v.nd (aC (jb T) P (bq (cz (CP K) bA (cX av) (cX av)))))
   (af (bH 3 v.nd (cz (CP K) bA (cX av) dJ))
   (af (bB (PW.pt (iI (aD nR cT d9 (aE _)) (iI (aD (DU K P.mO) cT (cW (bT (bF eF) (bF (bq av)))) (77#0)) (gv (aD gX (39#e6) (39#(dm K aZ)) (aE _)))))) (ak (aB d9)) aN)
   (af (bB (iY (fy (dc (Nz K rfl) (by rfl) T.GC t! (bq (bC (own:=["word"]) (js:=[]) (dF v) rfl (kZ K e6) 6#(81#(["word"])) 42#0 6#(52#Cj)))))) (ak (aB d9)) aN)
   (ak (aB (cW (bT (qM K bA) (bz (qX K) (by rfl) T.jt Y8 (bq (aJ (oM K) cT (bC (own:=["word"]) (js:=[]) (dF v) rfl (kZ K e6) 6#(81#(["word"])) 42#0 6#(bz iw (by rfl) T.GD u! (bq aZ)))))))))))))) ?_
  show qO ?_;intro a d b c e B;have a:∀n∈[0],n<10^60:=by decide
  have S:H l=1#(.str x :: .str (Tx.bM 0)::15#(s.map Tx.bN)):=S;show(0#14#(ao l _ rl (aH.of S) (λc L=>?_)))
  rw[Oh];have w:aj H (η H c (.lst [.str (Tx.bM 0)])):=aj.new L;show cL c [0] rl aa (by change 1<=10;decide) a λD O b M R=>?_
  have n:=w.trans M;have R:=R;clear L;show(0#(ao l _ rl 45#(n _ _ S) (λc L=>?_)))
  rw[IX];show fresh (η O c _) rl L λX k g=>?_
  have v:=k _ _ R;show(ai rl 3#(cH ?_));show(ai rl 24#(λb U=>?_))
  show fresh (η X b _) rl U λa p f=>?_
  show 24#(λi e=>?_)
  show fresh (η a i _) rl e λd b h=>?_
  have e:=b _ _ f;show 24#(λl f=>?_)
  show fresh (η d l _) rl f λA a i=>?_
  have d:=a _ _ e;have e:=a _ _ h;have l:=(p.trans b).trans a;show cL (.list ([0].map jE)) [.list (([]).map jE),.list ([1].map jE)] (.lst 45#(l _ _ v) (gg [0])) (.tup (aY.of i) (.cons (.lst (aH.of d) (gg [])) (.cons (.lst (aH.of e) (gg [1])) .nil))) (fG [0]) (11#0) ?_
  have a:([PyData.list (([]).map jE),.list ([1].map jE)].any λe=>PyData.eqv e (.list ([0].map jE)))=false:=11#0
  rw[a];show 14#(cH ?_);show aA (λa f G C b=>?_) (id (j.same (n.trans (k.trans l))).ex)
  have N:=b.length;have j:(15#(s.map Tx.bN)).length=s.length:=by rw[XG,XG]
  have h:=l _ _ g;show 14#(ao c (15#(s.map Tx.bN)) rl (101#h) ?_);show 14#(cR (aY.of G) fT (aM a f rl (.inr (aY.of C)) rl 70#(jK (by rw[j,N,r]) ?_)))
  have w:∀(i:Nat) (y:V),(15#(s.map Tx.bN))[i]?=some y->∃z,s[i]?=some z/\y=V.str (Tx.bN z)/\z.natAbs<10^60:=λi y W=>by
   rw[XQ,XQ]at W;show ah (λu r t=>?_) (m3.mp W);subst t
   show ah (λz b g=>?_) (m3.mp r);subst g
   show au z b rl (m z (fC b))
  show 14#(au c rl 20#h (λm p=>bw (λi I d=>aj A d/\d m=some (.lst I)/\I=(104#i).map V.bl) (82#p) ?_ (by rw[j];show bY (by lia)) ?_ ?_))
  .intro i I d _;show c5 λt f b=>?_;subst b
   show bh 45#(t _ _ h) f (by rw[XG,YH];show XJ _)
  .intro i y I d W;show c5 λt f b=>?_;subst b
   show az (λz _ r g=>?_) (w i y W);subst r
   show 3#(au z rl g (λu a=>f7 (a _ _ f) ((t.trans a).put p) aa (by rw[ZX,X5];rfl)))
  .intro I d;show c5 λt f b=>?_;subst b
   rw[j]at f;have e:(104#s.length).all id=true:=by simp
   show ao m (104#s.length) rl (aH.of f) ?_;rw[e];show 14#(cH ?_);have m:=(n.trans (k.trans l)).trans t;show 14#(eH 45#(m _ _ S) fY (?_));show(0#(au c rl 20#(t _ _ h) (λe f=>bw (λi I u=>aj d u/\u e=some (.lst I)/\I=aK (s.take i)) (82#f) ?_ (by rw[j];show bY (by lia)) ?_ ?_)))
   .intro i I u _;show c5 λa c F=>?_;subst F
    show bh 45#(a _ _ (t _ _ h)) c ?_;unfold aK;rw[XG,Ym];show Zm _ _
   .intro i y I u W;show c5 λa c r=>?_;subst r
    show az (λz F b g=>?_) (w i y W);subst b
    show 3#(ao (Tx.bN z) z rl (Tx.o7 g) (fE (XY (Tx.jo g).2 4#0) c (a.put f) aa ?_))
    unfold aK;rw[Yc,F,Zr,X5];rfl
   .intro I u;show c5 λa c b=>?_;subst b
    rw[j,Yb]at c;show fj D e (aQ [.int 0] (aK s) rl rl 45#((l.trans (t.trans a)) _ _ v) (aH.of c) ?_ λF b=>?_)
    .unfold aK;rw[XG];show 50#(by change 1+s.length<=1000;lia)
    .have f:aj u (η u F 28#(aK (0::s))):=aj.new b;have d:η u F 28#(aK (0::s)) F=1#(aK (0::s)):=aa;show bf F (aK (0::s)) rl (.inl ⟨aH.of d,λb Z=>24#(λr c=>?_)⟩)
     have e:=aj.new (o:=.tup (aK (0::s))) Z;have g:=aj.new (o:=.tup [.str x,.ref b]) c;have d:=((m.trans a).trans f).trans e;show q r _ (d.free c) (d.trans g) (ae b aa (g _ _ aa))
def Oi(x:Str)(h:x="lengths"\/x="base"\/x="forests"):([PyData.str "lengths",.str "base",.str "forests"].any λe=>PyData.eqv e (.str x))=true:=by
 rcases h with rfl|rfl|rfl<;>decide +kernel
def Ck(x:Str)(h:(x="even"\/x="cut"\/x="odd")\/x="heights"):([PyData.str "lengths",.str "base",.str "forests"].any λe=>PyData.eqv e (.str x))=false:=by
 rcases h with(rfl|rfl|rfl) | rfl<;>decide +kernel
def Oj(x:Str)(h:x="even"\/x="cut"\/x="odd"):([PyData.str "even",.str "cut",.str "odd"].any λe=>PyData.eqv e (.str x))=true:=by
 rcases h with rfl|rfl|rfl<;>decide +kernel
def Ml:([PyData.str "even",.str "cut",.str "odd"].any λe=>PyData.eqv e (.str "heights"))=false:=11#0
def mD:99#(.tuple [PyData.str "lengths",.str "base",.str "forests"]):=11#0
def rJ:99#(.tuple [PyData.str "even",.str "cut",.str "odd"]):=11#0
def Cm{n:Nat}{x:Str}{F:List Int}(h:gr n x F):99#(.str x):=by
 cases h with
 | bare h=>rcases h with rfl | rfl | rfl<;>decide +kernel
 | gU h=>rcases h with rfl | rfl | rfl<;>decide +kernel
 | iO=>decide +kernel
def EI:Ok T T.uB 4 Mk:=by
 show 2#T.uB.ok
 .revert h;show eu λt=>jd λl p J x F=>eO λc j k B S q=>?_;subst c
  show ae _ (af (bB (PW.pt (lF (aD (DU K P.mO) (qM K bA) (Df (by rfl) T.zA) (77#0)) (jg (aD cN (39#bA) av (aE _))))) (ak (aB (cW (bT (qM K bA) (cW eF))))) aN)
   (af (bB (aD (DU K P.mO) (qM K bA) (Df (by rfl) T.zC) (77#0)) (ak (aB (49#z4))) aN)
   (af (bB (aD cN (qM K bA) aX (aE _)) (ak (aB (49#rT))) aN)
   (ak (aB d9))))) ?_
  show BE ?_;intro u d I n L C;have e:vC (IW x F) 0=some (.str x):=fY;have f:jC K H (.ref a.kT) (.tuple [.str "lengths",.str "base",.str "forests"]):=.tup (T.zB H) (.cons (.str _) (.cons (.str _) (.cons (.str _) .nil)));have i:jC K H (.ref a.kU) (.tuple [.str "even",.str "cut",.str "odd"]):=.tup (T.zD H) (.cons (.str _) (.cons (.str _) (.cons (.str _) .nil)));have g:=Cm B;cases B with
  | bare h =>
    show 14#(eH (aH.of S) (e) (cL (.str x) _ (.str x) f g mD ?_));rw[Oi x h];show 14#(eY ?_);show 14#(k7 rl (101#S) 3#(lN rl ?_));show 14#(eH (aH.of S) (e) 24#(λb Z=>⟨dl rfl,λr z=>?_⟩))
    have w:=aj.new (o:=.tup []) Z;have M:=aj.new (o:=.tup [.str x,.ref b]) z;show q r _ (w.free z) (w.trans M) (ae b aa (M _ _ aa))
  | gU h y R =>
    show 14#(eH (aH.of S) (e) (cL (.str x) _ (.str x) f g mD ?_));rw[Ck x (.inl h)];show 14#(cH ?_);show 14#(eH (aH.of S) (e) (cL (.str x) _ (.str x) i g rJ ?_));rw[Oj x h];show 14#(eY (0#(jw t l p J (ao x _ rl j (fE y k R S q)))))
  | iO X m =>
    show 14#(eH (aH.of S) (e) (cL (.str _) _ (.str _) f g mD ?_));rw[Ck _ (.inr rl)];show 14#(cH ?_);show 14#(eH (aH.of S) (e) (cL (.str _) _ (.str _) i g rJ ?_));rw[Ml];show 14#(cH ?_);show 14#(eH (aH.of S) (e) 3#(lN rl ?_));show(0#(jw t l p J (ao _ _ rl j (fE k X m S q))))
def GL:Str.ofString "\n"=⟨#[10]⟩:=11#0
def Cn:Str.ofString " "=⟨#[32]⟩:=11#0
theorem mV{c x:Nat}:∀{l:List (List Nat)},x∈Tx.lV c l->x=c\/∃p∈l,x∈p
 | [],h=>nomatch h
 | [p],h=>.inr (ae p X0 h)
 | p::q::r,h=>by
   rcases Ye.mp (h) with h|h
   .show .inr (ae p X0 h)
   .rcases XS.mp h with h|h
    .show .inl h
    .rcases mV h with h|⟨y,W,h⟩
     .show .inl h
     .show .inr (ae y (nc _ W) h)
def ly(s:Str):Prop:=32∉s.cps.toList/\10∉s.cps.toList
def Ol(n:Nat):ly (Tx.bM n):=⟨λz=>119#(Tx.gP z),λz=>119#(Tx.gP z)⟩
def sF(n:Int):ly (Tx.bN n):=⟨λz=>119#(Tx.int_sign z),λz=>119#(Tx.int_sign z)⟩
def p7{l:List Str}(h:∀s∈l,ly s):10∉113#(Txt.join " " l):=λz=>by
 rw[show Txt.join " " l=Str.join ⟨#[32]⟩ l by rw[<-Cn];show Yw _ _,Tx.ff]at z
 rcases mV z with z|⟨q,T,z⟩
 .cases z
 .show ah (λs W U=>?_) (XT.mp T);subst U
  show(h s W).2 z
def iU{l:List Str}(n:l≠[])(h:∀s∈l,ly s):Txt.split (Txt.join " " l) " "=l:=by
 rw[Cn];show Tx.kJ n λs W=>(h s W).1
def cA{w:Str}{l:List Str}(j:ly w)(h:∀s∈l,ly s):∀s∈w::l,ly s:=λs W=>by
 rcases XS.mp W with e|W
 .rw[e];show j
 .show h s W
def p8(ns:List Nat):∀s∈ns.map Tx.bM,ly s:=λs W=>by
 show 75#(λn _ f=>?_);subst f
 show Ol n
def uV(ns:List Int):∀s∈ns.map Tx.bN,ly s:=λs W=>by
 show 75#(λn _ C=>?_);subst C
 show sF n
def mW{b:Str}{ns:List Nat}(j:ly b):Txt.split (lB b ns) " "=b::ns.map Tx.bM:=iU 21#0 (cA j (p8 ns))
def p9(p:Nat)(J:List cU):List Str:=lB "points" [p]::J.map λt=>lB "tie" (pX t)
def j4:ly "points"/\ly "tie":=by unfold ly;decide +kernel
def Mm{b:Str}{ns:List Nat}(j:b.length<=10)(g:ns.length<=3)(Z:∀n∈ns,n<10^60):PySem.JoinOk " " (b::ns.map Tx.bM)=true:=by
 show ju (B:=60) (λy W=>?_) ?_
 .rcases XS.mp W with e|W
  .rw[e];lia
  .show 75#(λn w r=>?_);subst r
   show Tx.eU 4#0 (Z n w)
 .rw[X7,XG];change _*_+_*1<=_
  lia
abbrev Ask:=Str×List Int
def we(q:Ask):Str:=Txt.join " " (q.1::q.2.map Tx.bN)
def jv(p:Nat)(J:List cU)(as:List Ask):List Str:=p9 p J++as.map we
def j5(p:Nat)(J:List cU)(as:List Ask):Str:=Txt.join "\n" (jv p J as)
def qV(n:Nat)(as:List Ask):Prop:=∀q∈as,gr n q.1 q.2
def qa(H:Hp)(v:V)(q:Ask):Prop:=∃r,v = .ref r/\GK H r q.1 q.2
def Q6(q:Ask):PyData:=.tuple [.str q.1,.tuple (q.2.map PyData.int)]
def qa.tups{H M:Hp}{v:V}{q:Ask}(s:fh H M)(h:qa H v q):qa M v q:=by
 revert h;show eu λr=>bE λe b G C=>?_
 show⟨r,(bX e b (s _ _ G) (s _ _ C))⟩
def Om{K:b7}{H:Hp}{v:V}{q:Ask}(h:qa H v q):jC K H v (Q6 q):=by
 revert h;show eu λr=>bE λe b G C=>?_;subst e
 show .tup (aY.of G) (.cons (.str _) (.cons (.tup (aY.of C) (tQ q.2)) .nil))
theorem Co{K:b7}{H:Hp}:∀{xs:List V} {as:List Ask},Paired (qa H) xs as->DatVs K H xs (as.map Q6)
 | _,_,.nil=>.nil
 | _,_,.cons h r=>.cons (Om h) (Co r)
def GN{n:Nat}{q:Ask}(h:gr n q.1 q.2):78#q.1:=by
 have D:=SeqAt.canLay_of_shaped (Cm h)
 simpa[PyData.canLay0]using D
def Fl(k:Nat)(d:PyData):Prop:=d.canLay0=true/\d.depth<=k
theorem EJ{k:Nat}:∀{l:List PyData},(∀d∈l,Fl k d)->PyData.canLayAll0 l=true/\PyData.depthAll l<=k
 | [],_=>25#(Yo _)
 | d::r,h=>by
   obtain⟨G,C⟩:=EJ λy W=>h y (nc _ W)
   obtain⟨a,E⟩:=h d X0;show⟨by simp only[PyData.canLayAll0,G,a,l!],Nat.max_le.mpr ⟨E,C⟩⟩
def Fl.list{k:Nat}{l:List PyData}(h:∀d∈l,Fl k d):Fl (k+1) (.list l):=by
 obtain⟨G,C⟩:=EJ h;show⟨by simpa[PyData.canLay0]using G,by simpa[PyData.depth]using C⟩
def Fl.tup{k:Nat}{l:List PyData}(h:∀d∈l,Fl k d):Fl (k+1) (.tuple l):=by
 obtain⟨G,C⟩:=EJ h;show⟨by simpa[PyData.canLay0]using G,by simpa[PyData.depth]using C⟩
def Fl.up{k:Nat}{d:PyData}(h:Fl k d):Fl (k+1) d:=⟨h.1,Nat.le_succ_of_le h.2⟩
def Fl.shaped{k:Nat}{d:PyData}(h:Fl k d)(R:k<=64):99#d:=by
 unfold SeqAt.shaped;rw[h.1,ZD];show e5 (XY h.2 R)
def Fl.int z:Fl 0 (.int z):=⟨by simp[PyData.canLay0],XJ _⟩
def Fl.str{x:Str}(h:78#x):Fl 0 (.str x):=⟨by simpa[PyData.canLay0]using h,XJ _⟩
def Q7{k:Nat}{a b:PyData}(C:Fl k a)(Z:Fl k b):∀d∈[a,b],Fl k d:=λd hd=>by
 rcases XS.mp hd with e|hd
 .rw[e];show C
 .rw[XU.mp hd];show Z
def GO(l:List Int):∀d∈l.map PyData.int,Fl 0 d:=λd j=>by
 show ah (λz _ Z=>?_) (XT.mp j);subst Z
 show .int z
def Oo{n:Nat}{as:List Ask}(h:qV n as):Fl 3 (.list (as.map Q6)):=.list λd j=>by
 show ah (λq T y=>?_) (XT.mp j);subst y
 show .tup (Q7 (.up (.str (GN (h q T)))) (.tup (GO _)))
def Q8{n:Nat}{x:Str}{F:List Int}(h:gr n x F):ly x/\x.length<=10/\x≠"tie":=by
 unfold ly;cases h with
 | bare h=>rcases h with rfl | rfl | rfl<;>decide +kernel
 | gU h=>rcases h with rfl | rfl | rfl<;>decide +kernel
 | iO=>decide +kernel
def Mn{n:Nat}{q:Ask}(h:gr n q.1 q.2):ly q.1/\q.1.length<=10/\q.1≠"tie":=Q8 h
def GP{n:Nat}{q:Ask}(h:gr n q.1 q.2)(Z:n<=9):q.2.length<=10/\∀z∈q.2,z.natAbs<10^60:=by
 obtain⟨x,a⟩:=q;cases h with
 | bare h=>show⟨Yo _,λ_ h=>nomatch h⟩
 | gU h y S =>
   show⟨by change(dH _).length<=10;unfold dH;rw[XG];show S,λz m=>?_⟩
   show ah (λk R t=>?_) (XT.mp (m));subst t
   obtain⟨i,F,e⟩:=z! R;have:=y.1 i k (by rw[<-e];show XW F)
   rw[Int.natAbs_natCast];show Zy (X4 this Z) 4#0
 | iO S m =>
   show⟨by rw[X7];lia,λz h=>?_⟩
   rcases XS.mp h with rfl|h
   .decide
   .show m z h
def GQ{n:Nat}{q:Ask}(h:gr n q.1 q.2):∀s∈q.1::q.2.map Tx.bN,ly s:=cA (Mn h).1 (uV _)
def yl{n:Nat}{q:Ask}(h:gr n q.1 q.2):Txt.split (we q) " "=q.1::q.2.map Tx.bN:=iU 21#0 (GQ h)
def Cp{n:Nat}{q:Ask}(h:gr n q.1 q.2)(Z:n<=9):∀y∈q.1::q.2.map Tx.bN,y.length<=61:=λy W=>by
 rcases XS.mp W with e|W
 .rw[e];have:=(Mn h).2.1
  lia
 .show 75#(λz m C=>?_);subst C
  show(Tx.jo ((GP h Z).2 z m)).2
def uW{n:Nat}{q:Ask}(h:gr n q.1 q.2)(Z:n<=9):PySem.JoinOk " " (q.1::q.2.map Tx.bN)=true:=by
 show ju (Cp h Z) ?_;have:=(GP h Z).1;rw[X7,XG];change _*_+_*1<=_
 lia
theorem Cq{B:Nat}:∀{l:List Str},(∀y∈l,y.length<=B)->(l.map (·.length)).sum<=l.length*B
 | [],_=>by simp
 | y::l,h=>by
   have G:=h y X0;have C:=Cq λz m=>h z (nc _ m)
   rw[Yd,Y3,X7,Nat.succ_mul]
   lia
def GR{n:Nat}{q:Ask}(h:gr n q.1 q.2)(Z:n<=9):(we q).length<=800:=by
 change 27#(Builtin.Str.glued _ _)<=_;rw[Yw,PyProof.Rows.len_join_cons];have e:=Cq (Cp h Z);have:=(GP h Z).1;rw[X7,XG]at e;rw[XG];change _+_*1<=_
 lia
def uX{p:Nat}{J:List cU}{as:List Ask}(h:qV J.length as):Txt.split (j5 p J as) "\n"=jv p J as:=by
 rw[GL];show Tx.kJ (by unfold jv p9;simp) λs W=>?_
 rcases Ye.mp W with W|W
 .rcases XS.mp W with e|W
  .rw[e];show p7 (cA j4.1 (p8 _))
  .show 75#(λt _ c=>?_);subst c
   show p7 (cA j4.2 (p8 _))
 .show 75#(λq T k=>?_);subst k
  show p7 (GQ (h q T))
def Cr(p:Nat)(J:List cU)(as:List Ask):27#(jv p J as)=J.length+1+as.length:=by
 unfold jv p9;rw[XR,X7,XG,XG]
def ym{p:Nat}{J:List cU}{as:List Ask}(g:ay p J)(Z:J.length<=9)(h:qV J.length as):∀y∈jv p J as,y.length<=800:=λy W=>by
 have d:=g.p2;rcases Ye.mp W with W|W
 .rcases XS.mp W with e|W
  .rw[e];show XY (sE (11#0) (by change 1<=3;decide) λn a=>by rw[XU.mp a];show YL d 4#0) 4#0
  .show 75#(λt R f=>?_);subst f
   show XY (sE (11#0) (by change 3<=3;decide) (pY (by lia) (g.gU t R))) 4#0
 .show 75#(λq T r=>?_);subst r
  show GR (h q T) Z
def Oq{p:Nat}{J:List cU}{as:List Ask}(g:ay p J)(Z:J.length<=9)(h:qV J.length as)(F:as.length<=6):PySem.JoinOk "\n" (jv p J as)=true:=by
 show ju (ym g Z h) ?_;rw[Cr];change _*_+_*1<=_
 lia
def z5:Sp:=λY H Q _=>∃(p:Nat) (J:List cU) (D:List Ask),Y=[.str (j5 p J D)]/\ay p J/\J.length<=9/\D.length<=6/\qV J.length D/\
 ∀r w F f M,aj H M->M r=17#([.ref w,.ref F])->bx M w p J->H F=none->M F=some (.lst f)->Paired (qa M) f D->Q (.ref r) M
def U8{c:Bool}{A B:Prop}(h:B->A)(b:B):if c=true then A else B:=by
 cases c
 .show cH b
 .show eY (h b)
def Mp{A B:Prop}(h:if false=true then A else B):B:=by
 rw[XH XZ]at h;show h
def Cs:Ok T T.rC 5 z5:=by
 show 2#T.rC.ok
 .revert h;show eR λp J A=>eO λa g Z c r q=>?_;subst a
  show ae _ (af (bH 1 v.nd d9)
   (af (bH 2 v.nd (bF eF))
   (af (dw PassesOwn.never rl (K4 K (by rfl) T.fL (bq (k6 K (c6 Yl YS YT gm aZ (bq aX))))) (yM K rl (aS (bu 3 v.nd) (aS (bu 4 v.nd) dQ)))
   (af (bH 5 v.nd (k6 K (c6 Yl YS YT gm gE (bq aX))))
   (af (bB (PW.pt (iI (aD nR bA d9 (aE _)) (gv (PW.pt (lF (aD (C8 K P.units) cT (bF eF) (aE _)) (jg (aD cN (qM K jS) aX (aE _)))))))) (af (bH 1 v.nd (aC (Ci T) P (bT bA jS)))
   (ak (bH 6 v.nd (cQ r5 bA d9 (aE _))))) (af (cV (k6 K (c6 Yp Yt Yu cO cT (bq (aC (EI T) P (bT bA jS))))))
   (ak (bH 6 v.nd (cQ r5 (bR (gA K) cT (oE kg av)) d9 (aE _))))))
   (ak (bB (iY (fy vK)) dP aN)))))
   (ak (aB (cW (bT bA cT))))))) ?_
  show zu ?_;intro a d e f h i j k l m b;have g1:=g.p1;have Q:=g.p2;show 24#(λF l=>?_)
  show fresh (η H F _) rl l λN w b=>?_
  have P:=Cr p J A;show(ai rfl 25#(aQ (j5 p J A) ("\n") rfl rfl (11#0) (B! (Oq g Z r c)) ?_ λD a=>?_))
  .rw[uX r,P];show 50#(by lia)
  rw[uX r];show fresh (η N D _) rl a λO M c=>?_
  have d:=M _ _ b;have f:=w.trans M;have Xf:D≠F:=λe=>by rw[e]at a;rw[a]at b;cases b
  show au D rl 20#c (w5 (λi U X=>∃E I v3 v4 v5 m,U=[some (.str (j5 p J A)),some E,some (.ref F),v3,v4,v5,m]/\aj H X/\X D=1#(15#(jv p J A))/\X F=some (.lst I)/\Paired (qa X) I (A.take (i-(J.length+1)))/\((i=0/\E = .fg)\/∃a k,i ≥ k+1/\k=min (i-1) J.length/\E = .ref a/\bx X a p (J.take k)))
   (jw .fg [] none none (aQ none none rl f c d (by rw[Nat.zero_sub,U'];show .nil) (.inl ⟨rfl,rfl⟩))) (by intro i U X _;show qh λ_ _ _ _=>bD λ_ _ _ _ s _=>?_;show aH.of s) ?_ ?_)
  .intro i x B U X H;show eu λE=>jd λI v3 v4 v5 m=>eO λf s3 VT U9 pr L b=>?_;subst f
   show fresh (η X B _) rl b λc G d=>?_
   show ao B _ rl (aY.of d) (bg rl _ _ rl (ao _ _ rl rl ?_));have Va:=G _ _ U9;have Y:=G _ _ VT;have M:=Paired.imp' (λ_ _ y=>qa.tups G.tups y) pr
   have Vb:=s3.trans G;have b:i<J.length+1+A.length:=by
    have:=(jc.mp H).1;rw[XG,P]at this;show this
   by_cases b:J.length+1<=i
   .
    obtain⟨j,rfl⟩:∃j,i=J.length+1+j:=⟨i-(J.length+1),by lia⟩
    rw[Z!]at M;obtain⟨u,hq⟩:∃u,A[j]?=some u:=⟨A[j]'(by lia),XW (by lia)⟩
    have s:=r u (fC hq);obtain rfl:x = .str (we u):=by
     have e:(15#(jv p J A))[J.length+1+j]?=some (.str (we u)):=by
      have n:27#(p9 p J)=J.length+1:=by change(_::_).length=_;rw[X7,XG]
      unfold jv;rw[XQ,YB (by lia),n,Z!,XQ,hq]
      rfl
     show 13#(H.symm.trans e)
    rcases L with⟨z,_⟩|⟨a,k,_,R,rfl,f⟩
    .lia
    obtain rfl:k=J.length:=by lia
    rw[Yb]at f;show(ai rfl 25#(aQ (we u) " " rfl rfl (11#0) (B! (uW s Z)) ?_ λW v=>?_))
    .rw[yl s];have:=(GP s Z).1;show 50#(by rw[X7,XG];lia)
    rw[yl s];show fresh (η c W _) rl v λN b w=>?_
    show(ai rl 3#(cH ?_));have C:=b _ _ Va;have Vc:=b _ _ Y;have t:=Paired.imp' (λ_ _ y=>qa.tups b.tups y) M
    have Xg:=Vb.trans b;have d:=f.same (G.trans b);show(ai rl 24#(λl6 h=>ao _ _ (.lst 45#(aj.new h _ _ C) (Co (Paired.imp' (λ_ _ y=>qa.tups (aj.new h).tups y) t))) (.lst (aH.of aa) (gg [])) (bj ((Oo λy B=>r y (y! B)).shaped 4#0) (fG []) _ rl ?_)))
    show fresh (η N l6 _) rl h λO S _=>?_
    have B:=S _ _ w;have D:=S _ _ C;have n:=S _ _ Vc;have VU:=Paired.imp' (λ_ _ y=>qa.tups S.tups y) t
    have Vd:=Xg.trans S;have t:=d.same S;show U8 (λz=>14#(eH (aH.of B) fY 3#(gf (λy=>(Mn s).2.2 (V.str.inj y)) (Mp z)))) (cH ?_)
    show(ai rl ⟨.inl (105#D),0#(jw a W p J (aQ u.1 u.2 rl t Z s B λr H7 Xz d hA=>?_))⟩)
    have s:=d _ _ D;have Z:=VU.length;have u:fh O (η H7 F 28#(I++[.ref r])):=d.tups.trans (fh.put s);show bS F I _ rl rl s (g5 (by rw[Z,Ym];lia)) ?_
    show(0#(eH (aH.of aa) (JJ _ _) 3#(?_)));show 14#(cH (jw (.ref a) (I++[.ref r]) _ _ (aQ _ _ rl ((Vd.trans d).put l) ?_ aa ?_ (.inr (aM a J.length (by lia) (by lia) rl ?_)))))
    .rw[aq Xf];show d _ _ n
    .rw[73#(J.length+1+j+1-(J.length+1)=j+1),Yc,hq]
     show Paired.snoc (Paired.imp' (λ_ _ y=>qa.tups u y) VU) (qa.tups (fh.put s) (ae r rl hA))
    .rw[Yb];show t.tups u
   .
    have s:i+1-(J.length+1)=0:=by lia
    obtain rfl:I=[]:=by
     rw[73#(i-(J.length+1)=0),U']at M
     cases M;rfl
    rcases L with⟨rfl,rfl⟩|⟨a,k,M,Z,rfl,f⟩
    .
     obtain rfl:x = .str (lB "points" [p]):=(13#H).symm;have z:∀n∈[p],n<10^60:=λn r=>by rw[XU.mp r];show YL Q 4#0
     show(ai rfl 25#(aQ (lB "points" [p]) " " rfl rfl (11#0) (B! (Mm (11#0) (by change 1<=3;decide) z)) ?_ λW v=>?_))
     .rw[mW j4.1];show 50#(by change 2<=1000;decide)
     rw[mW j4.1];have b:aj c (η c W (.lst [.str "points",.str (Tx.bM p)])):=aj.new v;have w:η c W (.lst [.str "points",.str (Tx.bM p)]) W=1#([.str "points",.str (Tx.bM p)]):=aa;show(ai rfl 25#(ai rfl (eY ?_)));show(ai rfl (ai rfl (.inl (cL W p rfl w g1 Q (λj O S t=>?_)))))
     show(ai rl 3#(?_));show 14#(cH (jw (.ref j) [] _ _ (aQ _ _ rl ((Vb.trans b).trans S) ((b.trans S) _ _ Y) ((b.trans S) _ _ Va) (by rw[s,U'];show .nil) (.inr (aM j 0 (by lia) (by lia) rl t)))))
    .
     obtain rfl:i=k+1:=by lia
     have R:k<J.length:=by lia
     obtain⟨t,i⟩:∃t,J[k]?=some t:=⟨J[k],XW R⟩;obtain rfl:x = .str (lB "tie" (pX t)):=by
      have e:(15#(jv p J A))[k+1]?=some (.str (lB "tie" (pX t))):=by
       have n:k+1<27#(p9 p J):=by change _<(_::_).length;rw[X7,XG];lia
       unfold jv;rw[XQ,Yx n];change 15#((J.map λt=>lB "tie" (pX t))[k]?)=_
       rw[XQ,i];rfl
      show 13#(H.symm.trans e)
     have e:=g.gU t (fC i);show(ai rfl 25#(aQ (lB "tie" (pX t)) " " rfl rfl (11#0) (B! (Mm (11#0) (by change 3<=3;decide) (pY (by lia) e))) ?_ λW v=>?_))
     .rw[mW j4.2];show 50#(by change 4<=1000;decide)
     rw[mW j4.2];show fresh (η c W _) rl v λN b w=>?_
     show(ai rl 3#(cH ?_));have C:=b _ _ Va;have Vc:=b _ _ Y;show(ai rl 24#(λl6 h=>ao _ _ (.lst 45#(aj.new h _ _ C) (gg [])) (.lst (aH.of aa) (gg [])) (bj (fG []) (fG []) _ rl ?_)))
     rw[HA,e5 rfl];show fresh (η N l6 _) rl h λO S _=>?_
     have B:=S _ _ w;have D:=S _ _ C;have n:=S _ _ Vc;have Vd:=(Vb.trans b).trans S;show eY 14#(eH (aH.of B) fY 3#(?_));rw[e5 rfl];show eY ?_;have c:ay p (J.take k++[t]):=⟨g1,Q,by rw[XR,Ym,YA];lia,λu r=>by
      rcases Ye.mp r with r|r
      .show g.gU u (y! r)
      .rw[XU.mp r];show e⟩
     show(0#(.inr ⟨a,(bO W p (J.take k) t rl (f.same ((G.trans b).trans S)) c B λj H7 d z=>?_)⟩))
     show(ai rl 3#(?_));show 14#(cH (jw (.ref j) [] _ _ (aQ _ _ rl (Vd.trans d) (d _ _ n) (d _ _ D) (by rw[s,U'];show .nil) (.inr (aM j (k+1) (by lia) (by lia) rl ?_)))))
     rwa [Yc,i]
  .intro U X;show eu λE=>jd λI v3 v4 v5 m=>eO λC s3 VT U9 pr L=>?_;subst C
   rw[XG,P]at L;rw[XG,P,Z!,Yb]at pr;rcases L with⟨z,_⟩|⟨a,k,M,Z,rfl,f⟩
   .lia
   .obtain rfl:k=J.length:=by lia
    rw[Yb]at f;show(0#24#(λr b=>?_))
    have G:=aj.new (o:=.tup [.ref a,.ref F]) b;show q r a F I _ (s3.trans G) aa (f.same G) l (G _ _ U9) (Paired.imp' (λ_ _ y=>qa.tups G.tups y) pr)
def cI(m:Nat):Str:=Txt.join "-" ((aV (m:Int)).map Tx.bM)
def z6:Sp:=53#(∃m:Nat,Y=[.int m]/\m<2^24/\72#(.str (cI m)))
def z7{m:Nat}(d:m<2^24):27#(aV (m:Int))<=24:=by
 rw[eM d];show XY (Yg ..) (by rw[Yh];show XJ _)
def GS{m n:Nat}(d:m<2^24)(h:n∈aV (m:Int)):27#(Tx.bM n)<=2:=Tx.eU 4#0 (X4 (iq d h) 4#0)
def iE:Ok T T.rD 3 z6:=by
 show 2#T.rD.ok
 .revert h;show az λm U d q=>?_;subst U
  show 56#(aB (k6 K (c6 Yl YW YX (iu K) aX (bq (bC (own:=["tie"]) (js:=[]) (dF v) rfl (kZ K (52#gC)) 6#(81#(["tie"])) 42#0 6#(bz gG (by rfl) T.ye ZG (bq aZ)))))))
  have S:=z7 d;show 3#(au m rl (XY (bits_le d) 4#0) (λa N Z w G=>au a rl 20#G λD u=>bw (λi I O=>aj N O/\10#O/\I=15#(((aV m).take i).map Tx.bM)) (82#u) (λi I O _ z=>bh 45#(z.1 _ _ G) z.2.1 (by rw[z.2.2,XG,XG,Ym];show Zm _ _)) (bY (by rw[aF];show S)) ?_ ?_))
  .intro i y I O W;show c5 λM R f=>?_;subst f
   show ah (λn g C=>?_) (cD W);subst C
   show 25#0#(fE (ia (Zy (iq d (fC g)) 4#0)) R (M.put u) aa ?_)
   rw[Yc,g,Zr,X5,X5];rfl
  .intro I O;show c5 λM R r=>?_;subst r
   rw[aF,Yb]at R;show bS _ D _ rl rl (aH.of R) (ju (B:=2) (λy W=>?_) ?_) (q _ (w.trans M))
   .show 75#(λn g e=>?_);subst e
    show GS d g
   .rw[XG];change _*_+_*1<=_
    lia
def Ve(Q:VK)(H:Hp)(R:List Str->Prop):Prop:=∀l M,aj H M->R l->27#(Txt.join " " l)<=20000->Q (.str (Txt.join " " l)) M
def iV{a b c:Str}(h:c.cps.toList=a.cps.toList++32::b.cps.toList)(r:List Str):Txt.join " " (c::r)=Txt.join " " (a::b::r):=by
 have ext:∀x y:Str,x.cps.toList=y.cps.toList->x=y:=λx y e=>by
  cases x;cases y;show Yq Str.mk (H!.mp e)
 have d:∀i:List Str,Txt.join " " i=Str.join ⟨#[32]⟩ i:=λi=>by
  rw[show(" ":Str)=⟨#[32]⟩ from Cn]
  show Yw _ _
 rw[d,d];show ext _ _ ?_;rw[Tx.ff,Tx.ff];cases r with
 | nil=>show h
 | cons x r =>
   change _++32::Tx.lV 32 _=_++32::(_++32::Tx.lV 32 _);dsimp only;rw[h,D!];rfl
def rK{p:Nat}{J:List cU}(g:ay p J){m:Nat}(h:m<48#0):m<2^24:=X4 h (YQ 4#0 g.len)
def yn{m:Nat}(d:m<2^24):(cI m).length<=600:=by
 unfold cI;rw[show(Str.ofString "-")=⟨#[45]⟩ by decide +kernel]
 show XY (pZ (B:=2) λs W=>?_) (by rw[XG];have:=z7 d;lia)
 show 75#(λn g U=>?_);subst U
 show GS d g
def qb{m:Nat}(d:m<2^24):Oc (.str (cI m)):=.inr 14#(yn d)
def IY(p:Nat)(J:List cU)(g:ay p J)(m:Nat)(l:List Str):Prop :=
 (m=g.N.cut (λx=>9#(x∈nK p J g m))/\l=("cut":Str)::("yes":Str)::(nK p J g m).map Tx.bM)\/
 ∃c,c∈g.N.bZ/\g.N.par (g.N.ring c) m=true/\l=[("cut":Str),("no":Str),cI (g.N.ring c)]
def fM(R:∀(p:Nat) (J:List cU),ay p J->Nat->List Str->Prop)(t1:Addr)(c:Pos):Sp:=53#(∃w f p J,∃g:ay p J,∃Z:List Nat,Y=[.ref w,.ref f]/\76#0/\H t1=64#(eE (gV "least_ways") c)/\H f=17#(aI Z)/\(∀k∈Z,k<J.length)/\Ve Q H (R p J g (orM Z)))
def Mq{p:Nat}{J:List cU}(g:ay p J)(m:Nat):27#(nK p J g m)<=24/\∀n∈nK p J g m,n<10^60:=by
 have t:=g.p2;show⟨XY (Yg ..) (by rw[Yh];lia),λn a=>?_⟩
 have:=Yk.mp (Yz.mp a).1;show Zy (73#(n<2^4)) (11#0)
def IZ:Ok T T.x8 7 (fM IY a.aU aO):=by
 show 2#T.x8.ok
 .revert h;show qh λo u p J=>aR λg Z f=>m9 λj i n R q=>?_;subst f
  show ae _ (af (bH 2 v.nd (aC (yg T) P (bT aZ (49#mU))))
   (af (bB (aD cN (dm K cT) aX (aE _)) (ak (aB (aC (eg T) P (bT aX (dm K cT))))) aN)
   (ak (aB (aC (eg T) P (bT aX (bF (bq (aC (iE T) P (bq (dm K cT))))))))))) ?_
  show iy ?_;intro B C I;have d:=yY R;show(0#14#(97#(aQ u Z rl j g.vH (.inr n) R (dU o p J (ao g _ rl j (au (orM Z) rl d λt N z w x=>?_))))))
  rcases x with⟨L,l,_,m,S⟩|⟨c,L,F,m⟩
  .show(ai rfl (cR (aY.of m) fY 25#(ai rfl (?_))));rw[show(9#(V.str "side"=V.str "side"))=true by decide]
   obtain⟨e,k⟩:=Mq g (orM Z);show eY 14#(cR (aY.of m) fT ⟨_,(aQ l _ rl (.inl S) (11#0) (by rw[aF];show e) (zW k) λO M=>?_)⟩)
   rw[uT];unfold lB;rw[iV (a:="cut") (b:="yes") (11#0)]
   show λS=>q _ O (w.trans M) (.inl ⟨L,rfl⟩) S
  .show(ai rfl (cR (aY.of m) fY 25#(ai rfl (?_))));rw[show(9#(V.str "ring"=V.str "side"))=false by decide]
   have r:=rK g (RM.ku (RM.cY.mp L).1);show cH 14#(cR (aY.of m) fT (ai rl ⟨r,λO M=>?_⟩))
   show 24#(λl S=>⟨_,(aQ l _ rl (.inl aa) (11#0) (show 1<=24 by decide) (λy W=>by rw[XU.mp W];show qb r) λX k=>?_)⟩)
   unfold n9;rw[iV (a:="cut") (b:="no") (11#0)]
   show λe=>q _ X ((w.trans M).trans ((aj.new S).trans k)) (.inr (au c L F rl)) e
def I2(p:Nat)(J:List cU)(g:ay p J)(m:Nat)(l:List Str):Prop :=
 ((∀x z,x<p->¬ RM.Wy g.N (di J) m x x true z)/\l=[("odd":Str),("none":Str)])\/∃e:Nat,g.N.Ring e/\e<2^g.N.n/\g.N.par e m=true/\l=[("odd":Str),cI e]
def ic(R:∀(p:Nat) (J:List cU),ay p J->List Str->Prop)(t1 B:Addr)(c e:Pos):Sp:=53#(∃w n p J,∃g:ay p J,Y=[.ref w,n]/\76#0/\H t1=64#(eE (gV "least_ways") c)/\H B=64#(eE (gV "by_length") e)/\p<=6/\Ve Q H (R p J g))
def Ct(p:Nat)(J:List cU)(g:ay p J)(l:List Str):Prop:=∃L:List Nat,iz p J g L/\l=("base":Str)::L.map cI
def yo(p:Nat)(J:List cU)(g:ay p J)(l:List Str):Prop:=∃L:List Nat,iz p J g L/\l=("lengths":Str)::84#(L.map (υ J))
theorem Mr{M:Int}:∀{l:List Int},(∀x∈l,0<=x/\x<=M)->0<=l.sum/\l.sum<=l.length*M
 | [],_=>⟨Zj _,by simp⟩
 | x::l,h=>by
   obtain⟨G,C⟩:=Mr λy W=>h y (nc _ W)
   obtain⟨a,E⟩:=h x X0;rw[Y3,X7,Int.natCast_add,Int.add_mul]
   lia
def yp{p:Nat}{J:List cU}(g:ay p J){m:Nat}(d:m<48#0):(υ J m).natAbs.log2<1920:=by
 obtain⟨G,C⟩:=Mr λx B=>by
  obtain⟨k,R,rfl⟩:=XT.mp B;have:=g.gU _ (eZ (iq d R));show⟨p! 4#0 this.l0,this.l1⟩
 have S:=z7 (rK g d);rw[XG]at C;have l:υ J m<=24*10^30:=p! C (ZH (by lia) 4#0)
 have E:0<=υ J m:=G
 by_cases e:(υ J m).natAbs=0
 .rw[e];decide
 .have b:(24*10^30)<2^1920:=11#0
  show(Θ e).mpr (by lia)
def Ja:Ok T T.x9 8 (fM I2 a.aU aO):=by
 show T.x9.ok λ_ A _ s H Y Q E C P h=>?_
 .revert h;show qh λo f p J=>aR λg Z U=>m9 λj i F R q=>?_;subst U
  show ae _ (af (bH 2 C.nd (aC (rF T) P (bT aZ (49#mU))))
   (af (bB (aD cN (dm K cT) aX (aE _)) (ak (aB aX)) aN)
   (ak (aB (aC (eg T) P (bT aX (bF (bq (aC (iE T) P (bq (dm K cT))))))))))) ?_
  show iy ?_;intro G L I;have d:=yY R;show(0#14#(97#(aQ f Z rl j g.vH (.inr F) R (dU o p J (aM g _ rl j i (au (orM Z) rl d λt N w b=>?_))))))
  rcases b with⟨u,v,m⟩|⟨z,e,Y,_,m,B,c,n⟩
  .show(ai rfl (cR (aY.of m) fY 25#(ai rfl (?_))));rw[show(9#(V.str "side"=V.str "side"))=true by decide]
   have D:("odd none")=Txt.join " " [("odd"),("none")]:=11#0
   show eY (show Q (.str "odd none") N by rw[D];show q _ _ w (.inl ⟨u,rfl⟩) (11#0))
  .show(ai rfl (cR (aY.of m) fY 25#(ai rfl (?_))));rw[show(9#(V.str "ring"=V.str "side"))=false by decide]
   have r:=rK g c;show cH 14#(cR (aY.of m) fT (ai rl ⟨r,λO M=>?_⟩))
   show 24#(λl S=>⟨_,(aQ l _ rl (.inl aa) (11#0) (show 1<=24 by decide) (λy W=>by rw[XU.mp W];show qb r) λX k x=>q _ X ((w.trans M).trans ((aj.new S).trans k)) (.inr (cS e B c n rl)) x)⟩)
def EK:Ok T T.uC 12 (ic Ct a.aU a.bQ aO bI):=by
 show T.uC.ok λ_ A _ s H Y Q E U P h=>?_
 .revert h;show qh λo n p J=>eu λg=>eO λf j c d _ q=>?_;subst f
  show 56#(aB (aC (eg T) P (bT aX (bC (own:=["ring","marks","worths"]) (js:=[]) (dF U) rfl (Rn K (52#zO)) 6#(yM K (n:=3) rfl (aS (81#(["ring","marks","worths"])) (aS (bu 1 (gn ["ring","marks","worths"])) (aS (bu 2 (gn ["ring","marks","worths"])) dQ)))) 42#0 6#(52#iE)))))
  show 14#(97#⟨g,(fE rl j c d λb t G N w m pr F=>au b rl ⟨_,aY.of m⟩ λD S=>?_)⟩)
  have b:=mz g F.bs;have l:=pr.length;have d:∀r∈G,r<2^24:=λr P=>rK g (F.bs.ring r P).2
  show i4 (λi I O=>aj N O/\10#O/\I=15#((G.take i).map cI)) (82#S) (λi I O _ z=>bh 79#(z.1 _ _ m) z.2.1 (by rw[z.2.2,XG,XG,Ym];show Zm _ _)) (bY (by lia)) ?_ ?_
  .intro i x I O B;show c5 λM R C=>?_;subst C
   show ah (λr P=>cu λc u v e L=>?_) (Paired.lA pr B);subst e
   show aM c _ rl 79#(M _ _ L) rl (fj _ _ (bg rl _ _ rl (aM _ _ rl rl rl 14#(au r rl (d r (fC P)) (λX k=>f7 (k _ _ R) ((M.trans k).put S) aa ?_)))))
   rw[Yc,P,Zr,X5,X5];rfl
  .intro I O;show c5 λM R e=>?_;subst e
   rw[l,Yb]at R;show⟨_,(aQ D _ rl (.inl R) (11#0) (by rw[XG,XG];show b) (λy c=>?_) λX k x=>?_)⟩
   .show ah (λs W Z=>?_) (XT.mp c);subst Z
    show 75#(λr P u=>?_);subst u
    show qb (d r P)
   .show q _ X ((w.trans M).trans k) (ae G F ?_) x;rw[YC,YC];rfl
def wg:Ok T T.nF 12 (ic yo a.aU a.bQ aO bI):=by
 show 2#T.nF.ok
 .revert h;show qh λo n p J=>eu λg=>eO λt j u e _ q=>?_;subst t
  show 56#(aB (aC (eg T) P (bT aX (52#IK))));show 14#(97#⟨g,(fE rl j u e λD L N w Z F=>⟨_,(aQ D _ rl (.inl Z) (11#0) (by rw[XG,XG];show mz g F.bs) (λy W=>?_) λX k x=>?_)⟩)⟩)
  .show 75#(λz m C=>?_);subst C
   show ah (λr P c=>?_) (XT.mp m);subst c
   show .inl 14#(yp g (F.bs.ring r P).2)
  .show q _ X (w.trans k) (ae L F ?_) x;rw[YC];rfl
def mX{m c:Nat}(L:c∈113#(cI m)):c=45\/(48<=c/\c<=57):=by
 unfold cI at L;rw[show(Str.ofString "-")=⟨#[45]⟩ by decide +kernel,show Txt.join ⟨#[45]⟩ _=Str.join ⟨#[45]⟩ _ from Yw _ _,Tx.ff]at L
 rcases mV L with e|⟨q,T,L⟩
 .show .inl e
 .show ah (λs W U=>?_) (XT.mp T);subst U
  show 75#(λn _ f=>?_);subst f
  show .inr (Tx.gP L)
def qc(m:Nat):ly (cI m):=⟨λz=>119#(mX z),λz=>119#(mX z)⟩
def Jb(m:Nat):V.str (cI m)≠V.str "none":=λz=>by
 have h:110∈113#(cI m):=by rw[V.str.inj z];decide +kernel
 have:=mX h
 lia
def yq(p:Nat)(J:List cU)(_:ay p J)(m:Nat)(l:List Str):Prop:=(∃x:Nat,l=[("even":Str),("no":Str),Tx.bN x])\/∃B:List Nat,l=("even":Str)::("yes":Str)::B.map cI/\(∀r∈B,r<48#0/\r≠0)/\B.length<=24/\(B.map (υ J)).sum=υ J m
def z8(L C:Addr):Sp:=53#(∃(b:Str) (x:Addr) (f:List V) (m:114#0),Y=[.str b,.ref x]/\H L=some (C9 L (.ref C) m)/\H x=some (.lst f)/\b.length<=600/\f.length<=24/\(∀y∈f,Oc y)/\∀M,aj H M->27#(n9 b f)<=20000->Q (.str (n9 b f)) M)
def Cu(T:Txt P w base K mg a)(L:Addr):S8 L P w K mg base 1 (a.f 90) (a.d 90) ["word","numbers"] (z8 L a.eJ):=by
 show T.fK.F.Wo T.fK.S (λY H Q E h=>?_) (λ_ A _ s H Y Q E o h=>?_)
 .revert h;show eu λb=>cu λx f p C _=>?_;subst C
  rfl
 .revert h;show eu λb=>cu λx f p r=>eO λn B j g c q=>?_;subst r
  show 56#(aB (k6 K (c6 Yl YW YX (iu K) aX (bq (aJ (oM K) (bF (bq aZ)) (JU (own:=["number"]) (js:=[]) (dF T.fK.S) (LM o.hd rfl bA) 6#(81#(["number"])) 42#0 6#(bz o9 (by rfl) T.ye ZG (bq aZ))))))))
  show 3#24#(λd U=>?_)
  show fresh (η H d _) rl U λN e l=>?_
  have k:=e _ _ B;show 14#(au x rl 20#k (λD u=>Ed (v9 f N D) (82#u) (λi I O _ pv=>⟨aH.of (pv.1 _ _ k),pv.few⟩) (bY (by lia)) (λi y I O W pv=>?_) λI O pv=>⟨.WS (pv.1 _ _ (e _ _ n)),zX j g c q e l pv⟩))
  rcases c y (fC W) with⟨z,rfl,m⟩|⟨t,rfl,_⟩
  .show 3#(.inl (cS z rl m pv.2.1 (pv.turn u W)))
  .show 3#(.inr (au t rl pv.2.1 (pv.turn u W)))
def EL:Ok T T.uD 8 (fM yq a.aU aO):=by
 show 2#T.uD.ok
 .revert h;show qh λo f p J=>aR λg Z e=>m9 λi c k R q=>?_;subst e
  show ae _ (af (M4 (i:=3) K rl rl rl v.nd rl rl (by rfl) T.yf (λE c U t=>(ak (bH 2 v.nd (O6 (Mg T) P t (bT aZ (49#mU)))))) (λL c=>(ak (aB (Ka ((Cu T) L) ((P.mono 4#0).mark L) (by rfl) T.fK.c.m T.fK.c.k T.fK.c.b .nil (bT aX (bF (bq (Ny K e6)))))))))
   (ak (aB (aC (eg T) P (bT aX (bC (own:=["ring"]) (js:=[]) (dF v) rfl (kZ K cT) 6#(81#(["ring"])) 42#0 6#(52#iE))))))) ?_
  show gp ?_;intro c;have e:=yY R;show⟨λu m M=>u = .ref a.eJ/\aj H M/\∃(d:Addr) (pt:Nat),m=some d/\pt<10/\M d=some (.xd [("point",.int pt)]),?_,?_⟩
  .show(0#14#(97#(aQ f Z rl i g.vH (.inr k) R (dU o p J (ao g _ rl i (cS (orM Z) rl e (λ_ D N h w c S n sm=>?_) λpt d N w F j=>bh rl w (ao d pt rl ?_ j)))))))
   .have l:h.length<=24/\∀r∈h,r<2^24:=by
     show⟨S,λr P=>rK g (n r P).1⟩
    show 14#(au D rl 20#c (λX o=>bw (λi I O=>aj N O/\O X=some (.lst I)/\I=15#((h.take i).map cI)) (82#o) (λi I O _ z=>bh 45#(z.1 _ _ c) z.2.1 (by rw[z.2.2,XG,XG,Ym];show Zm _ _)) (bY (by rw[aF];show l.1)) ?_ ?_))
    .intro i x I O B;show c5 λe G c=>?_;subst c
     show ah (λr P y=>?_) (cD B);subst y
     show 3#(au r rl (l.2 r (fC P)) (λf k=>f7 (k _ _ G) ((e.trans k).put o) aa ?_))
     rw[Yc,P,Zr,X5,X5];rfl
    .intro I O;show c5 λe G c=>?_;subst c
     rw[aF,Yb]at G;show⟨_,(aQ X _ rl (.inl G) (11#0) (by rw[XG,XG];show l.1) (λy B=>?_) λf k=>?_)⟩
     .show ah (λs W C=>?_) (XT.mp B);subst C
      show 75#(λr P c=>?_);subst c
      show qb (l.2 r P)
     .unfold n9;rw[iV (a:="even") (b:="yes") (11#0),YC]
      rw[show MI∘V.str=id from rfl,List.map_id]
      show λx=>q _ f ((w.trans e).trans k) (.inr (cS h rl n S sm)) x
   .have:=Yk.mp (Yz.mp (fC F)).1;show X4 this g.p2
  .intro u m N;show c5 λn w=>aA λd pt r t j=>?_;subst n r
   show⟨T.Eo,λL c=>?_⟩
   have i:d≠L:=λz=>by rw[z,c]at j;cases j
   show 14#(dU L a.eJ _ (bO _ d _ _ rl aa (by rw[aq i];show j) rl (f7 T.Ip T.h7 (dl rl) λl S=>?_)))
   have e:aj N (η N L (C9 L (.ref a.eJ) (some d))):=aj.new c;show bO _ l _ (some d) rl (aj.new S _ _ aa) aa (11#0) (bh (show 1<=24 by decide) (λy B=>?_) λf k=>?_)
   .rw[XU.mp B];show .inl 14#(ia (Zy t 4#0))
   .unfold n9;rw[iV (a:="even") (b:="no") (11#0)]
    show λx=>q _ f ((w.trans e).trans ((aj.new S).trans k)) (.inl ⟨pt,rfl⟩) x
def Ot:Sp:=λY H Q _=>∃(t:Addr) (L:List (List Int)) (n k:Nat),Y=[.ref t,.int k]/\TabAt H t L/\Tab n L/\n<=12/\k<n/\
 (∀i:Nat,k<=i->i<n->ent L i k≠0->Q (.int i) H)/\((∀i:Nat,k<=i->i<n->ent L i k=0)->Q .fg H)
def EM:Sp:=λY H Q _=>∃(y S:Addr) (r l:List Int) (n k:Nat) (d:Int) (f:Nat->Int),Y=[.ref y,.ref S,.int k,.int d]/\H y=1#(aK r)/\H S=1#(aK l)/\r.length=n/\l.length=n/\n<=12/\k<n/\
 d≠0/\d.natAbs<2^1000/\(∀j,j<n->(r.getD j 0).natAbs<2^1000/\(l.getD j 0).natAbs<2^1000)/\(∀j,j<n->l.getD k 0*r.getD j 0-r.getD k 0*l.getD j 0=d*f j)/\
 ∀D M,H D=none->aj H M->M D=1#(aK (dh n f))->Q (.ref D) M
def Q9:Sp:=53#(∃(t:Addr) (L:List (List Int)) (n E:Nat),Y=[.ref t]/\TabAt H t L/\Tab n L/\n<=12/\1<=E/\Dt.fc E n<2^1000/\(∀r c,(ent L r c).natAbs<=E)/\72#(.int (Dt.det n (ent L))))
def z9{n:Nat}{rs:List (List Int)}(c:Tab n rs){r j:Nat}(o:n<=j):ent rs r j=0:=by
 change(rs.getD r []).getD j 0=0
 by_cases h:r<n
 .rw[XO,List.getElem?_eq_none (by rw[c.DH h];show o)]
  rfl
 .rw[XO (l:=rs),List.getElem?_eq_none (by rw[c.len];lia)]
  rfl
def wh:Ok T T.nA 1 Ot:=by
 show 2#T.nA.ok
 .revert h;show eu λt=>cu λL n k x=>eO λf c g R q p=>?_;subst x;obtain⟨B,w,pr⟩:=f
  show ae _ (af (dw PassesOwn.never rl (ql (by rfl) T.c9 (bT bA (39#aZ))) (bu 2 v.nd)
   (ak (bB (aD gX (bR (gA K) (bR (gA K) aZ cT) bA) av (aE _)) (ak (aB cT)) aN)))
   (ak (aB d9))) ?_
  show l7 ?_;intro a d I;have l:B.length=n:=by rw[pr.length,c.len]
  show(0#(k7 rl (101#w) (ao _ _ rl (f7 (by lia) (by lia) (by lia) (by lia)) ?_)))
  show iP (λi U O=>∃X,U=[some (.ref t),some (.int k),X]/\O=H/\∀j:Nat,k<=j->j<k+i->ent L j k=0) (au none rl rl (λj G C=>by lia)) ?_ ?_
  .intro i U O F;show az λX y r m=>?_;subst y r
   have M:k+(i:Int)=19#(k+i):=by lia
   rw[M];have u:k+i<n:=by lia
   show ah (λb Z e=>?_) (TabAt.get pr c u)
   show(0#(eH (aH.of w) (aG Z) 14#(eH (aH.of e) (aG (g6 (by rw[c.DH u];show R))) 3#(?_))))
   by_cases J:ent L (k+i) k=0
   .show jK (Yq V.int J) (ai rl 25#(λj G C=>?_))
    by_cases o:j=k+i
    .rw[o];show J
    .show m j G (by lia)
   .show L7 (λz=>J (V.int.inj z)) 14#(q (k+i) (by lia) u J)
  .intro U O;show az λX e Z m=>?_;subst e Z
   show p λi G C=>m i G (by lia)
def wj:Ok T T.nB 1 EM:=by
 show 2#T.nB.ok
 .revert h;show jd λJ S r l n=>cu λk d f N=>eO λG C e U g=>eO λR j b o L q=>?_;subst N
  show 56#(aB (bC (own:=["number","lead"]) (js:=[0,1,2,3]) (dF v) rfl (s6 K (by rfl) T.BU (bT aZ bA)) 6#(yM K (n:=2) rfl (aS (81#(["number","lead","row","lead_row","step","divisor"])) (aS (bu 1 (gn ["number","lead","row","lead_row","step","divisor"])) dQ))) 42#0 6#(aJ KP (aJ gZ (aJ yO (bR (gA K) e6 gE) aZ) (aJ yO (bR (gA K) cT gE) bA)) jS)))
  show(0#(aM J S rl 20#G 20#C (λD u=>lO (by rw[gB,gB,e,U]) (AV f H D) (.start u) (λi I c _ m=>bh 45#(m.1 _ _ G) 45#(m.1 _ _ C) m.len) (by rw[gB,e];show 50#(by lia)) ?_ ?_)))
  .intro i x y z I O B W m t;obtain⟨F,rfl⟩:=tP B;obtain⟨_,rfl⟩:=tP W;rw[e]at F;show fresh (η O z _) rl t λX M a=>?_
   have p:=M _ _ (m.1 _ _ G);have w:=M _ _ (m.1 _ _ C);show ao z _ rl (aY.of a) (bg rl _ _ rl (aM _ _ rl rl rl ?_));show(0#(eH (aH.of w) (aG (g6 (by rw[U];show R))) 14#(cE ⟨mulOk_of (o k R).2 (o i F).1,?_⟩)))
   show(0#(eH (aH.of p) (aG (g6 (by rw[e];show R))) 14#(cE ⟨mulOk_of (o k R).1 (o i F).2,(ao _ _ rl rl 70#(cE ⟨⟨j,b⟩,?_⟩))⟩)))
   show m.next u M (Yq V.int (DE j (L i F)))
  .intro I O m;rw[gB,e]at m;show q D O u m.1 (by rw[m.2.1,m.2.2])
def wk:Ok T T.nC 2 Q9:=by
 show 2#T.nC.ok
 .revert h;show eu λt=>cy λD n E a d=>eO λf g hE hfc Z q=>?_;subst a;obtain⟨Tq,b,c⟩:=d
  show ae _ (af (bH 1 v.nd (bz (JW K) (by rfl) T.qP ZA (bq aZ)))
   (af (bH 2 v.nd av)
   (af (bH 3 v.nd av)
   (af (dw PassesOwn.never rl (92#(39#bA)) (bu 4 v.nd)
   (af (bH 5 v.nd (aC (wh T) P (bT bA gE)))
   (af (bB (aD nR jS d9 (aE _)) (ak (aB av)) aN)
   (af (bB (aD gX jS gE (aE _)) (af (bH 6 v.nd 116#jS)
   (af (sM 116#gE (yy bA jS set_list))
   (af (sM vK (yy bA gE set_list))
   (ak (bH 2 v.nd (oE kg cT)))))) aN)
   (af (dw PassesOwn.never rl (ql (by rfl) T.c9 (bT (aJ fF gE av) (39#bA))) (bu 7 v.nd)
   (ak (sM (aC (wj T) P (bU 116#Js (bU 116#gE (bT gE e6)))) (yy bA Js set_list))))
   (ak (bH 3 v.nd (bR (gA K) 116#gE gE))))))))
   (ak (aB (aJ sP cT e6))))))) ?_
  show ur ?_;intro a d I l m B x o w p e h i j k;show 14#(k7 rl (101#b) (λR p=>?_))
  show fresh (η H R _) rl p λa N h=>?_
  have c:Paired (kF R a) Tq D:=Paired.imp' (by intro _ _;show ah λb e z=>?_;show au b e (bW z p) (N _ _ z)) c
  have a:Tq.length=n:=by rw[c.length,f.len]
  show 14#(k7 rl (101#h) 70#(bh (by lia) (by lia) ?_))
  show iP (λi U O=>∃a L sg d v4 l E I,U=[some (.ref t),some (.ref R),44#sg,some (.int d),v4,l,E,I]/\aj H O/\O R=some (.lst a)/\Paired (kF R O) a L/\Tab n L/\Dt.Bs n (ent D) i sg d (ent L))
   (fj Tq D (jw 1 1 none none (aQ none none rl N h c f (Dt.Bs.zero _ _)))) ?_ ?_
  .intro i U O F;show eR λa L sg=>jd λd v4 l E I=>eO λb M x pr h w=>?_;subst b
   have b:i<n:=by lia
   rw[Zg];show(0#(bO R L n i rl (ae a x (Paired.imp' (λ_ _ z=>z.is) pr)) h g (bh b (λW j C c=>?_) λf=>?_)))
   case refine_2 =>
    have J:=w.none b f;show(ai rl 3#(lN rl ?_));change Q (V.int 0) _;rw[<-J];show q _ M
   show(ai rl 25#(ai rl (gf (λz=>nomatch z) (0#3#(?_)))))
   by_cases f:W=i
   case' pos =>
    show jK (by rw[f]) ?_
    rw[f]at c;generalize O=j at M x pr;generalize a=P at x pr;generalize L=v at pr h w c;generalize sg=sgx at w;have k:=M;have B:=x;have s:=pr;have F:=h;have A:=w;have Y:=c
   case' neg =>
    show L7 (λz=>f (119#(V.int.inj z))) ?_
    show az (λy J o m=>?_) (kF.get pr h C)
    show az (λS N u c=>?_) (kF.get pr h b)
    have G:a.length=n:=by rw[pr.length,h.len]
    show(0#(eH (aH.of x) (aG J) (?_)));show(0#(eH (aH.of x) (aG N) 14#(ai rl (bO R a _ W rl rl x (mJ (by lia)) ?_))))
    show(0#14#(bO R _ _ i rl rl aa (mJ (by rw[ZP];lia)) 70#(ai rl (?_))))
    have k:aj H (η (η O R 28#(a.set W (.ref S))) R 28#((a.set W (.ref S)).set i (.ref y))):=(M.put p).put p;have B:η (η O R 28#(a.set W (.ref S))) R 28#((a.set W (.ref S)).set i (.ref y)) R=1#((a.set W (.ref S)).set i (.ref y)):=aa;have s:Paired (kF R (η (η O R 28#(a.set W (.ref S))) R 28#((a.set W (.ref S)).set i (.ref y)))) ((a.set W (.ref S)).set i (.ref y)) ((L.set W (L.getD i [])).set i (L.getD W [])) :=
     Paired.imp' (λ_ _ z=>z.put.put) (kE ⟨y,rfl,o,m⟩ i (kE ⟨S,rfl,u,c⟩ W pr))
    have F:=(h.set W (h.DH b)).set i (h.DH C);have f:ent ((L.set W (L.getD i [])).set i (L.getD W []))=Dt.sw (ent L) i W:=by
     funext r j
     rw[o4 (by rw[ZP,h.len];show b),o4 (by rw[h.len];show C)]
     unfold Dt.sw Dt.put
     by_cases c:r=i
     .rw[XI c,XH (by lia),XI c]
      rfl
     .rw[XH c,XH c]
      by_cases X:r=W
      .rw[XI X,XI X];rfl
      .rw[XH X,XH X]
    have A:Dt.Bs n (ent D) i (-sg) d (ent ((L.set W (L.getD i [])).set i (L.getD W []))):=by
     rw[f];show w.sw (by lia) C
    have Y:ent ((L.set W (L.getD i [])).set i (L.getD W [])) i i≠0:=by
     rwa [o4 (by rw[ZP,h.len];show b),XI rfl]
    dsimp only[List.set];generalize η (η O R 28#(a.set W (.ref S))) R 28#((a.set W (.ref S)).set i (.ref y))=j at k B s;generalize (L.set W (L.getD i [])).set i (L.getD W [])=v at s F A Y;generalize (a.set W (.ref S)).set i (.ref y)=P at B s;generalize -sg=sgx at A
   all_goals (
    have f:P.length=n:=by rw[s.length,F.len]
    have bd:=A.bnd hE Z;have d0:=A.2.2.1;show 14#(cE 70#(k7 rl (101#B) (ao _ _ rl (f7 (by lia) (by lia) (by lia) (by lia)) ?_)))
    show iP (λm U y=>∃a L E I,U=[some (.ref t),some (.ref R),44#sgx,some (.int d),some (.int i),some (.int W),E,I]/\aj H y/\y R=some (.lst a)/\Paired (kF R y) a L/\Tab n L/\(∀j,ent L i j=ent v i j)/\
     ∀r,i<r->r<n->∀j,if r<i+1+m then d*ent L r j=ent v i i*ent v r j-ent v r i*ent v i j else ent L r j=ent v r j)
     (bO P v _ _ rl k B s (bh F (λj=>rfl) λr G C j=>by rw[XH (by lia)])) ?_ ?_
    .intro m U y f;show eu λTr=>cu λH E I k=>eO λs5 t B s P W=>?_;subst k
     have f:i+1+(m:Int)=19#(i+1+m):=by lia
     rw[f];have Z:i+1+m<n:=by lia
     show az (λc J f G=>?_) (kF.get B s Z)
     show az (λX N n2 C=>?_) (kF.get B s b)
     have er:∀j,(H.getD (i+1+m) []).getD j 0=ent v (i+1+m) j:=λj=>by
      have:=W _ (by lia) Z j
      rw[XH (by lia)]at this
      show this
     have k:∀j,(H.getD i []).getD j 0=ent v i j:=P;obtain⟨f,hf⟩:=Classical.axiomOfChoice (λj=>A.out Y (by lia) Z j)
     show(0#(eH (aH.of t) (aG J) 14#(ai rl (eH (aH.of t) (aG N) 70#(ai rl (jw c X _ _ (bO n i d f rl G C (s.DH Z) (f7 (s.DH b) g b (fE d0 (YL bd.1 hfc) (λj o=>⟨by rw[er j];show YL (bd.2 _ _ (by lia) Z) hfc,by rw[k j];show YL (bd.2 _ _ (XJ _) b) hfc⟩) (λj o=>?_) λD H6 u S Xh=>?_)))))))))
     .rw[er j,k j,er i,k i];show hf j
     .have c:D≠R:=λe=>by rw[e,t]at u;cases u
      have g:Tr.length=n:=by rw[B.length,s.len]
      show(0#(bO R Tr _ (i+1+m) rl rl (S _ _ t) (mJ (by lia)) ?_))
      show bO _ (H.set (i+1+m) (dh n f)) _ _ rl ((s5.trans S).put p) aa (Paired.imp' (λ_ _ z=>z.put) (kE ⟨D,rfl,c,Xh⟩ _ (Paired.imp' (λ_ _ z=>z.same S) B))) (bh (s.set _ (cP _ _)) (λj=>?_) λr G C j=>?_)
      .rw[o4 (by rw[s.len];show Z),XH (by lia)]
       show P j
      .by_cases o:j<n
       .rw[o4 (by rw[s.len];show Z)]
        by_cases c:r=i+1+m
        .rw[XI c,XI (by lia),HM _ o,c]
         show(hf j).symm
        .rw[XH c];have:=W r G C j
         by_cases X:r<i+1+m
         .rw[XI X]at this;rw[XI (by lia)]
          show this
         .rw[XH X]at this;rw[XH (by lia)]
          show this
       .have c:=z9 (r:=r) (j:=j) F (by lia)
        have g:=z9 (r:=i) (j:=j) F (by lia)
        have k:=z9 (r:=r) (j:=j) (s.set (i+1+m) (cP n f)) (by lia)
        rw[k,c,g]
        split<;>simp
    .intro U y;show eu λTr=>cu λH E I f=>eO λs5 t B s P W=>?_;subst f
     show az (λX N n2 C=>?_) (kF.get B s b)
     have c:=P i;show(0#(eH (aH.of t) (aG N) 14#(eH (aH.of C) (aG (g6 (by rw[s.DH b];show b))) (?_))))
     show fj Tr H (jw sgx (ent v i i) _ _ (aQ _ _ (by rw[<-c];rfl) s5 t B s (A.step b Y λr j G C=>?_)))
     have:=W r G C j;rw[XI (by lia)]at this
     show this)
  .intro U O;show eR λa L sg=>jd λd v4 l E I=>eO λr M x pr h w=>?_;subst r
   have e:((Tq.length:Int).toNat)=n:=by lia
   show(0#(cE ⟨.inl (by rcases w.2.1 with rfl | rfl<;>decide),?_⟩))
   rw[e]at w;change Q (.int (sg*d)) O;rw[w.done];show q _ M
def gR(t:cU)(u:Nat):Bool:=PM (.int u) [.int t.1,.int t.2.1]
def EN(J:List cU)(u v:Nat):Nat:=27#(J.filter λt=>gR t u&&gR t v)
def EO:Sp:=53#(∃w p J,∃u v:Nat,Y=[.ref w,.int u,.int v]/\76#0/\J.length<=24/\72#(.int (EN J u v:Int)))
def ie(p:Nat)(J:List cU)(g:ay p J):List Nat:=(16#p).filter λx=>! 9#(eN p J g (48#0-1) x=x)
def rV(J:List cU)(u v:Nat):Int:=if v=u then(EN J u v:Int) else -(EN J u v:Int)
def Aa(p:Nat)(J:List cU)(g:ay p J):List (List Int):=(ie p J g).map λu=>(ie p J g).map λv=>rV J u v
def rW:Sp:=53#(∃w p J,∃g:ay p J,Y=[.ref w]/\76#0/\∀D t M,H D=none->aj H M->M D=some (.lst t)->Paired (lT D H M) t (Aa p J g)->Q (.ref D) M)
def uY:Ok T T.mh 1 EO:=by
 show T.mh.ok λ_ A _ s H Y Q E a P h=>?_
 .revert h;show eR λo p J=>bD λu v U j y q=>?_;subst U
  show 56#(aB (39#(bC (own:=["tie"]) (js:=[1,2]) (dF a) rfl (Rn K (dm K aZ)) 6#(81#(["tie","one","other"])) 6#(gu (PW.pt (lF (aD (R4 K) bA (cz (Sb) aZ dJ (cX av)) (77#0)) (jg (aD (R4 K) cT (cz (Sb) aZ dJ (cX av)) (77#0)))))) (λ_ _ _ _=>aZ))))
  show aA (λm f G C l=>?_) (id j.ex)
  have N:=l.length;show 14#(cR (aY.of G) fT (au m rl ⟨_,aY.of C⟩ (λD S=>i4 (xs:=f) (λi I O=>aj H O/\10#O/\I.length=27#((J.take i).filter λt=>gR t u&&gR t v)/\I.length<=i) (f7 (aj.new S) aa rl (XJ _)) ?_ (50#(by lia)) ?_ ?_)))
  .intro i I O F;show mF λM n _ L=>?_
   show bh 79#(M _ _ C) n L
  .intro i x I O B;show mF λM n e L=>?_
   show eu (λt=>bE λR W F w=>?_) (Paired.lA l B);subst F
   have d:(J.take (i+1)).filter (λt=>gR t u&&gR t v)=(J.take i).filter (λt=>gR t u&&gR t v)++(if(gR t u&&gR t v)=true then[t] else[]):=by
    rw[Yc,R,YM]
    congr 1
    change List.filter _ [t]=_;rw[Yr];rfl
   show⟨rfl,0#14#(ao W _ rl (M _ _ w) (λZ X k g=>?_))⟩
   have g:=g;show(k7 rl (.inr (aY.of g)) (bj rl rl (gR t u) rl ?_));cases r:gR t u with
   | false =>
     rw[r,j!,XH XZ,YU]at d;show cH (cH (f7 (M.trans k) (k _ _ n) (by rw[d];show e) (by lia)))
   | true =>
     show eY (0#14#(ao W _ rl ((M.trans k) _ _ w) (λa c z b=>?_)))
     have b:=b;show(k7 rl (.inr (aY.of b)) (bj rl rl (gR t v) rl ?_));rw[r,ZD]at d;cases a:gR t v with
     | false =>
       rw[a,XH XZ,YU]at d;show cH (f7 ((M.trans k).trans z) ((k.trans z) _ _ n) (by rw[d];show e) (by lia))
     | true =>
       rw[a,XI rfl]at d;show eY 14#(fE ((k.trans z) _ _ n) (((M.trans k).trans z).put S) aa (by rw[d,XR,XR,e];rfl) (by rw[XR,YA];lia))
  .intro I O;show mF λM n e _=>?_
   rw[N,Yb]at e;show(k7 rl (101#n) (?_));rw[e];show q _ M
def yr{p:Nat}{L:Nat->Nat}{x:Nat}:x∈eA L p↔x<p/\L x=x:=by
 unfold eA;rw[Yz,Yk,decide_eq_true_eq]
def uZ:Ok T T.mj 6 rW:=by
 show T.mj.ok λ_ A _ s H Y Q E a P h=>?_
 .revert h;show eR λo p J=>az λg b s q=>?_;subst b
  show ae _ (af (e9 (i:=1) a.nd rfl (Or.inr rfl) (bC (own:=["piece"]) (js:=[]) (dF a) rfl (kZ K (aC (uM T) P (bT aZ (52#kX)))) 6#(81#(["piece"])) 42#0 6#(qM K aZ)))
   (af (fb (i:=2) a.nd rfl rfl (own:=["point"]) (js:=[1]) (dF a) rfl (92#(dm K aZ)) 6#(81#(["point","leasts"])) 6#(gu (aD (JX K) aZ bA (77#0))) (λ_ _ _ _=>aZ))
   (af (bH 3 a.nd (bF eF))
   (af (dw PassesOwn.never rl (kZ K cT) (rZ (i:=4) a.nd rl (Or.inr rl))
   (af (fb (i:=5) a.nd rfl rfl (own:=["other"]) (js:=[0,4]) (dF a) rfl (kZ K cT) 6#(81#(["other","web","one"])) 42#0 6#(aC (uY T) P (bU bA (bT cT aZ))))
   (ak (cV (k6 K (c6 Yp Yt Yu cO e6 (bq (bC (own:=["other","many"]) (js:=[4]) (dF a) rfl (s6 K (by rfl) T.BU (bT cT jS)) 6#(yM K (n:=2) rfl (aS (81#(["other","many","one"])) (aS (bu 1 (gn ["other","many","one"])) dQ))) 42#0 6#(f9 (aD cN aZ cT (aE _)) bA (oE kg bA))))))))))
   (ak (aB e6)))))) ?_
  show rQ ?_;intro a d b c e f;show aA (λa f G C b=>?_) (id s.ex)
  have a:=g.p2;have P:=g.len;have b:(48#0-1)=19#(48#0-1):=by
   have h:((2:Int)^J.length)=19#(48#0):=by simp
   have:=Zi J.length
   lia
  have c:48#0-1<48#0:=119#(Zi J.length)
  generalize d:eN p J g (48#0-1)=L;have j:∀x,L x<=x:=λx=>by rw[<-d];show RM.r7 _ _
  have a:27#(eA L p)<=p:=by
   have:=Yg (λx=>9#(L x=x)) 16#p
   rw[Yh]at this;show this
  have m:27#(ie p J g)<=p:=by
   have:=Yg (λx=>! 9#(eN p J g (48#0-1) x=x)) 16#p
   rw[Yh]at this;show this
  show(0#⟨o,(aM p J rl s g.vH (97#(ao g _ rl s (au (48#0-1) b c λD t N e w a pr=>au D rl 20#a ?_))))⟩)
  rw[d]at pr;have k:t.length=27#(eA L p):=by rw[pr.length,XG]
  intro h f;show bw (xs:=t) (λi I O=>aj N O/\O h=some (.lst I)/\I=aI ((eA L p).take i)) (82#f) ?_ (50#(by lia)) ?_ ?_
  .intro i I O F;show c5 λM R r=>?_;subst r
   show bh 45#(M _ _ a) R (by rw[aF,Ym];show Zm _ _)
  .intro i x I O B;show c5 λM R e=>?_;subst e
   show ah (λl S=>d8 λW Z _ _ b=>?_) (Paired.lA pr B);subst Z
   rw[XQ]at S;show ah (λr a y=>?_) (m3.mp S);subst y
   have c:=yr.mp (fC a);show 3#(eH 45#(M _ _ b) (aG (kC (Dq j c.2 c.1))) (f7 R (M.put f) aa ?_));rw[Yc,a];show(dB _ _).symm
  .intro I O;show c5 λM R a=>?_;subst a
   rw[k,Yb]at R;have c:=w.trans M;show 14#(cR 79#(c _ _ G) fY 70#57#(λS b=>ee (m6 (λx=>! 9#(L x=x)) O S) (.start b) (λi I X _ a=>a.len) (50#(by lia)) ?_ ?_))
   .intro i I X F a;rw[X3]at F;rw[Zg];show 25#0#(k7 rl (.inl 45#(a.1 _ _ R)) (bj rl (iR _) (! 9#(L i=i)) ?_ ?_))
    .change V.bl (! PM (.int (i:Int)) (aI (eA L p)))=_;rw[lS];have e:9#(i∈eA L p)=9#(L i=i):=by
      rw[YG,decide_eq_true_eq,decide_eq_true_eq,yr];show⟨λz=>z.2,λz=>⟨F,z⟩⟩
     rw[e]
    .cases Z : ! 9#(L i=i) with
     | true=>show eY (ai rfl (a.yes b (aj.refl _) Z))
     | false=>show cH (a.no (aj.refl _) Z)
   .intro I X a;have f:X S=1#(aI (ie p J g)):=by
     rw[a.2.1,a.2.2,X3];unfold ie;rw[d]
    have A:=c.trans a.1;generalize L:ie p J g=Z at f m;show 24#(λd D=>?_)
    show fresh (η X d _) rl D λc a b=>?_
    have G:=A.free D;show(ai rl (au S rl 20#(a _ _ f) (oB (λi U c=>∃E l t,U=[some (.ref o),some (.ref h),some (.ref S),some (.ref d),E,l]/\aj X c/\c d=some (.lst t)/\Paired (lT d H c) t ((Z.take i).map λu=>Z.map λv=>rV J u v)/\t.length<=i)
     (bS none none [] rl a b (by rw[U'];show .nil) (XJ _)) (by intro i U c _;show cy λ_ _ _ _ z _=>?_;show aH.of (z _ _ f)) ?_ ?_)))
    .intro i y U c F;show bV λE l t a b e w H=>?_;subst a
     show ah (λu r a=>?_) (cD F);subst a
     have C:=b _ _ f;have a:i<Z.length:=by
      have:=(jc.mp F).1;rw[aF]at this;show this
     show 14#(au S rl 20#C (λi f=>bw (oU (λv=>(EN J u v:Int)) Z c i) (.start f) (λj I h _ m=>⟨aH.of (m.1 _ _ C),m.len⟩) (by rw[aF];show 50#(by lia)) ?_ ?_))
     .intro j x I h B m;show ah (λv a k=>?_) (cD B);subst k
      show⟨rfl,0#14#(97#(aM u v rl (s.same ((A.trans b).trans m.1)) P λg z=>m.next f z a rl))⟩
     .intro I h m;rw[aF]at m;have p:=m.fin;have k:=m.1 _ _ C;have s:=m.1 _ _ e;show(ai rl ⟨.inl (105#s),0#(aM S i rl 20#k 20#p (λo f=>lO (by rw[aF,XG,XG]) (oU (λv=>rV J u v) Z h o) (.start f) (λj I g _ m=>bh 45#(m.1 _ _ k) 45#(m.1 _ _ p) m.len) (by rw[aF];show 50#(by lia)) ?_ ?_))⟩)
      .intro j x y z I g B W k h;show ah (λv a i=>?_) (cD B);subst i
       have i:y = .int (EN J u v:Int):=by
        rw[XQ,XQ,a]at W;show(13#W).symm
       subst i;show fresh (η g z _) rl h λp i j=>?_
       show ao z _ rl (aY.of j) (bg rl _ _ rl (aM _ _ rl rl rl ?_));show(0#3#(?_));rw[gO]
       by_cases h:v=u
       .rw[e5 h];show eY 14#(k.next f i a (by unfold rV;rw[XI h]))
       .rw[fW h];show cH (0#(k.next f i a (by unfold rV;rw[XH h])))
      .intro I g k;rw[aF]at k;have B:=k.fin;have a:=m.1.trans k.1;have g:=a _ _ e;have W:=(bW (m.1 _ _ e) f).symm;show bS d t _ rl rl g (gy (by lia)) ?_
       show bS _ _ _ rl ((b.trans a).put D) aa ?_ (by rw[XR,YA];lia)
       rw[Yc,r,X5];show Paired.snoc (Paired.imp' (λ_ _ z=>(z.same a).put) w) (lT.put (cS o rl W (((A.trans b).trans m.1).free f) B))
    .intro U c;show bV λE l t r b e w H=>?_;subst r
     rw[aF,Yb]at w;show 14#(q d t c G (A.trans b) e (by unfold Aa;rw[L];show w))
def O9(p:Nat)(J:List cU)(g:ay p J):Int:=Dt.det 27#(ie p J g) (ent (Aa p J g))
def u0:Sp:=53#(∃w p J,∃g:ay p J,Y=[.ref w]/\76#0/\p<=6/\72#(.int (O9 p J g)))
def Ms(p:Nat)(J:List cU)(g:ay p J)(l:List Str):Prop:=l=[("forests":Str),Tx.bN (O9 p J g)]
def yt{p:Nat}{t:cU}(z:ir (p:Int) t)(u:Nat):gR t u=9#(t.1.toNat=u\/t.2.1.toNat=u):=by
 have:=Me u t.1.toNat t.2.1.toNat;rw[Zx z.a0,Zx z.b0]at this;show this
def Jc(t:cU)(J:List cU)(u v:Nat):rV (t::J) u v=(if(gR t u&&gR t v)=true then(if v=u then 1 else -1) else 0)+rV J u v:=by
 unfold rV EN;rw[Yr]
 by_cases h:(gR t u&&gR t v)=true
 .rw[XI h,XI h,X7]
  by_cases e:v=u
  .rw[XI e,XI e,XI e];lia
  .rw[XH e,XH e,XH e];lia
 .rw[XH h,XH h]
  lia
theorem GU{p:Nat}{u v:Nat}:∀{J:List cU},(∀t∈J,ir (p:Int) t)->rV J u v=Dt.su J.length λq=>(Dt.un (dG J q).2.1.toNat u-Dt.un (dG J q).1.toNat u)*(Dt.un (dG J q).2.1.toNat v-Dt.un (dG J q).1.toNat v)
 | [],_=>by
   change(if v=u then 0 else -0)=0
   split<;>rfl
 | t::J,h=>by
   have O:=GU (u:=u) (v:=v) λd j=>h d (nc _ j)
   have z:=h t X0;rw[Jc,O,yt z,yt z,X7,Dt.pB]
   congr 1
   have T:t.1.toNat≠t.2.1.toNat:=by
    have:=z.ne;have:=z.a0;have:=z.b0
    lia
   change _=(Dt.un t.2.1.toNat u-Dt.un t.1.toNat u)*(Dt.un t.2.1.toNat v-Dt.un t.1.toNat v);unfold Dt.un;generalize t.1.toNat=a at T;generalize t.2.1.toNat=b at T;have y:∀x:Nat,(x=a/\x≠b)\/(x≠a/\x=b)\/(x≠a/\x≠b):=λx=>by lia
   have f:∀x:Nat,(9#(a=x\/b=x))=9#(x=a\/x=b):=λx=>YN.mpr (by lia)
   rw[f,f];rcases y u with⟨G,C⟩|⟨G,C⟩|⟨G,C⟩<;>rcases y v with⟨l,E⟩|⟨l,E⟩|⟨l,E⟩
   all_goals
    first | rw[XI C] | rw[XH C]
    first | rw[XI G] | rw[XH G]
    first | rw[XI E] | rw[XH E]
    first | rw[XI l] | rw[XH l]
    first
     | (rw[XI (by rw[e5 (by lia),e5 (by lia)];rfl),XI (by lia)];rfl)
     | (rw[XI (by rw[e5 (by lia),e5 (by lia)];rfl),XH (by lia)];rfl)
     | (rw[XH (by rw[fW (p:=v=a\/v=b) (by lia),Z0];decide)];rfl)
     | (rw[XH (by rw[fW (by lia),j!];decide)];rfl)
def Ou{p:Nat}{J:List cU}(g:ay p J):ie p J g=RM.kp g.N:=by
 show c! λx _=>?_
 have e:eN p J g (48#0-1)=g.N.cJ J.length:=by
  show RM.nV λk R=>by rw[yR];simp[R]
 rw[e];rfl
def Mt{J:List cU}(h:J.length<=24)(u v:Nat):(rV J u v).natAbs<=24:=by
 unfold rV;have:EN J u v<=J.length:=Yg _ _
 split<;>lia
def Jd{rs:List (List Int)}{b:Nat}(h:∀r∈rs,∀x∈r,x.natAbs<=b)(i j:Nat):(ent rs i j).natAbs<=b:=by
 unfold ent;rw[XO,XO];cases e:rs[i]? with
 | none=>show Yo _
 | some r =>
   change(r[j]?.getD 0).natAbs<=b;cases D:r[j]? with
   | none=>show Yo _
   | some x=>show h r (fC e) x (fC D)
def GV{p:Nat}{J:List cU}(g:ay p J)(L:p<=6):27#(ie p J g)<=6/\(∀r c,(ent (Aa p J g) r c).natAbs<=24)/\(O9 p J g).natAbs<10^60:=by
 have a:27#(ie p J g)<=6:=XY (Yg _ _) (by rw[Yh];show L)
 have q:∀r c,(ent (Aa p J g) r c).natAbs<=24:=Jd λr P x B=>by
  show ah (λl _ U=>?_) (XT.mp P);subst U
  show ah (λc _ f=>?_) (XT.mp B);subst f
  show Mt g.len _ _
 show bh a q (YL (Dt.sA q) (YL (Dt.Bt 4#0 a) (11#0)))
def Mu{p:Nat}{J:List cU}(g:ay p J):O9 p J g=1↔g.N.bZ=[]:=by
 rw[<-RM.N2];have e:=Ou g;have:O9 p J g=Dt.det 27#(RM.kp g.N) (RM.pT g.N):=by
  unfold O9 RM.pT;rw[<-e];show Dt.bG λi j F o=>?_
  change((Aa p J g).getD i []).getD j 0=_;unfold Aa;rw[XO (l:=List.map _ _),XQ,XW F];change(List.map (λv=>rV J (ie p J g)[i] v) (ie p J g)).getD j 0=_
  rw[XO,XQ,XW o,XO,XW F,XO,XW o];show GU g.gU
 rw[this]
def wm:Ok T T.nE 7 u0:=by
 show 2#T.nE.ok
 .revert h;show eR λo p J=>d8 λg C j L q=>?_;subst C
  show 56#(aB (aC (wk T) P (bq (52#uZ))));show c5 (λa c _=>?_) (GV g L)
  show(ai rl (dU o p J (au g rl j λD t N u w Z b=>bO D (Aa p J g) (27#(ie p J g)) 24 rl (ae t Z (Paired.imp' (λ_ _ z=>z.is) b)) ⟨by unfold Aa;rw[XG],λr P=>by
   show ah (λl _ d=>?_) (XT.mp P);subst d
   show XG _⟩ (by lia) (f7 4#0 (YL (Dt.Bt 4#0 a) (11#0)) c λO M=>q O (w.trans M)))))
def wq:Ok T T.nH 8 (ic Ms a.aU a.bQ aO bI):=by
 show 2#T.nH.ok
 .revert h;show qh λo n p J=>eu λg=>eO λe j _ _ L q=>?_;subst e
  show 56#(aB (aC (eg T) P (bT aX (bF (bq (52#wm))))));show 14#(97#(cS g rl j L λN w=>24#(λl S=>⟨_,(aQ l _ rl (.inl aa) (11#0) (show 1<=24 by decide) (λy W=>?_) λX k x=>q _ X (w.trans ((aj.new S).trans k)) rl x)⟩)))
  rw[XU.mp W];show .inl 14#(ia (GV g L).2.2)
theorem u3{N:RM.Net}{row:Nat->Int}{M:Int}(J:0<=M)(b:∀k,-M<=row k/\row k<=M):∀(j:Nat) x,-(4^j*M)<=RM.fz N row j x/\RM.fz N row j x<=4^j*M
 | 0,x=>⟨by change -(1*M)<=0;lia,by change 0<=1*M;lia⟩
 | j+1,x=>by
   have c:=u3 (N:=N) J b j x;have C:=u3 (N:=N) J b j (N.a j);have Z:=u3 (N:=N) J b j (N.b j);have o:=b j;have a:M<=4^j*M:=by
    have:=ZH (show 1<=4^j from Int.pow_pos 4#0) J
    lia
   have e:4^(j+1)*M=4*(4^j*M):=by rw[Int.pow_succ,Int.mul_comm (4^j),Int.mul_assoc]
   rw[e];change -(4*(4^j*M))<=(if N.gY j=true then _ else _)/\(if N.gY j=true then _ else _)<=_
   generalize 4^j*M=B at *
   split
   .split
    .split<;>lia
    .lia
   .lia
def Ra(p:Nat)(J:List cU)(g:ay p J)(row:List Int)(l:List Str):Prop :=
 (RM.KR g.N (cK row) 0 (RM.fz g.N (cK row) J.length)/\l=("heights":Str)::("yes":Str)::84#(dh p (RM.fz g.N (cK row) J.length)))\/
 (¬ RM.KR g.N (cK row) 0 (RM.fz g.N (cK row) J.length)/\∃m,l=[("heights":Str),("no":Str),cI m])
def mE:Sp:=53#(∃w f p J,∃g:ay p J,∃F:List Int,Y=[.ref w,.ref f]/\76#0/\H f=17#(aK (0::F))/\F.length=J.length/\(∀z∈F,z.natAbs<10^60)/\Ve Q H (Ra p J g F))
def wu:Ok T T.nG 7 mE:=by
 show T.nG.ok λ_ A _ s H Y Q E b P h=>?_
 .revert h;show qh λo f p J=>aR λg F U=>m9 λj d S s q=>?_;subst U
  show ae _ (af (bH 2 b.nd (FA (zV T) (P.mono 4#0) (by rfl) T.zy T.zE T.zz .nil JP (bU aZ (bT (bz (JW K) (by rfl) T.qP ZA (bq (cz (MX K) bA (cX av) dJ))) (dm K bA)))))
   (af (bB (aD cN (dm K cT) aX (aE _)) (ak (aB (aC (eg T) P (bT aX (dm K cT))))) aN)
   (ak (aB (aC (eg T) P (bT aX (bF (bq (aC (iE T) P (bq (dm K cT))))))))))) ?_
  show iy ?_;intro b c I;show(0#14#(aM f _ rl (aY.of d) ?_ (λb Z=>?_)))
  .rintro⟨z,_⟩;rw[show 27#(aK (0::F))=F.length+1 by unfold aK;rw[XG,X7]]at z
   simp[HT.gb]at z
  rw[show gw (aK (0::F)) (some 1) none=aK F from p5 _ _]
  have w:aj H (η H b (.tup (aK F))):=aj.new Z;show(k7 rl (.inr (aY.of aa)) (λl c=>14#(cR 79#(aj.new c _ _ (w _ _ d)) fY (?_))))
  show fresh (η (η H b (.tup (aK F))) l _) rl c λO i L=>?_
  have M:aj H O:=w.trans i;show jw o l p J (aQ g F rl (j.same M) L S (λu t D X b R e=>?_) λh m t X d b R=>?_)
  .show(ai rfl (cR (aY.of R) fY 25#(ai rfl (?_))));rw[show(9#(V.str "heights"=V.str "heights"))=true by decide]
   show eY 14#(cR (aY.of R) fT ⟨_,(aQ D _ rl (.inl e) (11#0) ?_ (λy W=>?_) λc G=>?_)⟩)
   .have:=g.p2;unfold aK;rw[XG,cP]
    lia
   .show 75#(λz e C=>?_);subst C
    show ah (λx _ r=>?_) (XT.mp e);subst r
    show .inl (ai rl (?_));have f:∀k,-(10^60:Int)<=cK F k/\cK F k<=10^60:=λk=>by
     unfold cK;rw[XO];cases e:F[k]? with
     | none=>show⟨by decide,by decide⟩
     | some y =>
       have:=s y (fC e);change -(10^60:Int)<=y/\y<=10^60
       lia
    have Z:=u3 (N:=g.N) 4#0 f J.length x
    have f:(4:Int)^J.length*10^60<=4^24*10^60:=ZH (by have:=YQ (n:=4) 4#0 g.len;exact_mod_cast this) 4#0
    have f:(4^24*10^60)<2^1920:=11#0
    generalize RM.fz g.N (cK F) J.length x=v at *;generalize (4:Int)^J.length*10^60=B at *
    by_cases e:v.natAbs=0
    .rw[e];decide
    .show(Θ e).mpr (by lia)
   .unfold n9 aK;rw[YC,iV (a:="heights") (b:="yes") (11#0)]
    show λS=>q _ c ((M.trans b).trans G) (.inl ⟨u,rfl⟩) S
  .show(ai rfl (cR (aY.of R) fY 25#(ai rfl (?_))));rw[show(9#(V.str "ring"=V.str "heights"))=false by decide]
   have r:=rK g d;show cH 14#(cR (aY.of R) fT (ai rl ⟨r,λc G=>?_⟩))
   show 24#(λl S=>⟨_,(aQ l _ rl (.inl aa) (11#0) (show 1<=24 by decide) (λy W=>by rw[XU.mp W];show qb r) λe k=>?_)⟩)
   unfold n9;rw[iV (a:="heights") (b:="no") (11#0)]
   show λL=>q _ e ((M.trans b).trans (G.trans ((aj.new S).trans k))) (.inr (b9 h m rl)) L
section
variable (a:Rv)
inductive RowC:Addr->Sp->Prop
 | Ov:RowC (a.f 103) (ic yo a.aU a.bQ aO bI)
 | base:RowC (a.f 104) (ic Ct a.aU a.bQ aO bI)
 | eW:RowC (a.f 105) (fM yq a.aU aO)
 | cut:RowC (a.f 106) (fM IY a.aU aO)
 | odd:RowC (a.f 107) (fM I2 a.aU aO)
 | iO:RowC (a.f 108) mE
 | Ow:RowC (a.f 109) (ic Ms a.aU a.bQ aO bI)
end
def ER(p:Nat)(J:List cU)(g:ay p J)(q:Ask)(l:List Str):Prop:=(([("lengths",yo p J g),("base",Ct p J g),("forests",Ms p J g),("even",yq p J g (orM (q.2.map Int.toNat))),("cut",IY p J g (orM (q.2.map Int.toNat))),("odd",I2 p J g (orM (q.2.map Int.toNat))),("heights",Ra p J g q.2.tail)]:List (Str×(List Str->Prop))).lookup q.1).getD (λ_=>False) l
def yu(Z:List Nat):(dH Z).map Int.toNat=Z:=by
 unfold dH;rw[YC,show(Int.toNat∘λk:Nat=>k)=id from funext λ_=>rfl,List.map_id]
def ES{P:Program}{w:World}{H:Hp}{fd R:Addr}{Z:List Bx}{o:HO}{ys:List V}(d:pA P w H fd Z)(e:H R=1#ys)(ne:fd≠R):pA P w (η H R o) fd Z :=
 ⟨by rw[aq ne];show d.at_,λp t=>by
  show bE (λB c J D=>?_) (d.keys p t)
  show bX B c (by rw[aq (cC J e (λz=>nomatch z))];show J) (by rw[aq (cC D e (λz=>nomatch z))];show D),d.nd⟩
def Je{P:Program}{w:World}{H M:Hp}{fd:Addr}{Z:List Bx}(d:pA P w H fd Z)(s:aj H M):pA P w M fd Z :=
 ⟨s _ _ d.at_,λp t=>let⟨ok,c,e1,e2⟩:=d.keys p t;(bX ok c (s _ _ e1) (s _ _ e2)),d.nd⟩
def Jf{Z:List Bx}{k:Ask}{b:Addr}{z:Str}(h:rP Z k=none):rP (Z++[(k,b,z)]) k=some z:=by
 unfold rP at *;rw[List.find?_append,Option.map_eq_none_iff.mp h];simp
def Jg(Z:List Nat):(HO.tup (aK (dH Z)))=HO.tup (aI Z):=by
 unfold aK dH aI;rw[YC];rfl
def wz(p:Nat)(J:List cU)(g:ay p J)(q:Ask)(t:Str):Prop:=∃l,t=Txt.join " " l/\t.length<=20000/\ER p J g q l
def Cv(t1 B:Addr)(c e:Pos):Sp:=λY H Q _=>∃(p:Nat) (J:List cU) (D:List Ask),∃g:ay p J,Y=[.str (j5 p J D)]/\J.length<=9/\D.length<=6/\qV J.length D/\H t1=64#(eE (gV "least_ways") c)/\H B=64#(eE (gV "by_length") e)/\p<=6/\
 ∀L M,aj H M->Paired (λt q=>wz p J g q t) L D->Q (.str (Txt.join "\n" L)) M
def u4:Ok T T.uE 13 (Cv a.aU a.bQ aO bI):=by
 have hF:∀f sp,RowC a f sp->∃k fd ps,k<=13-1/\je P w K mg base qg k f fd ps sp/\55#K/\Binds K fd ps []:=λf sp h=>by
  cases h
  .show(wg T).row
  .show(EK T).row
  .show(EL T).row
  .show(IZ T).row
  .show(Ja T).row
  .show(wu T).row
  .show(wq T).row
 show T.uE.ok λ_ A _ s H Y Q E v hr h=>?_
 .revert h;show eR λp J D=>az λg Sq h9=>eO λh6 VV u Mv p6 q=>?_;subst Sq
  show ae _ (af (bH 1 v.nd (aC (Cs T) hr (bq aZ)))
   (af (bH 2 v.nd NT)
   (af (bH 3 v.nd (bF eF))
   (af (dw PassesOwn.never rl (kZ K (dm K bA)) (bu 4 v.nd)
   (af (bB (Ph (Ii (hr.in1).mO gE cT)) (ak (NV (hr.in1).mO cT gE (LJ hr hF JP (QM T.Q2 (Df (by rfl) T.Q0) (dm K gE)) (bT (dm K bA) (dm K gE))))) aN)
   (ak (cV (k6 K (c6 Yp Yt Yu cO e6 (bq (NU (hr.in1).mO cT gE))))))))
   (ak (aB (k6 K (c6 Yl YW YX (iu K) aX (bq e6))))))))) ?_
  show BF ?_;intro WU d WV WW Vf VW XA;show(ai rl ⟨p,(aQ J D rl g h9 h6 VV λpg wb F I N s1 VX j XC VY pr=>?_)⟩)
  show λfd hfd=>24#(λR hR=>?_)
  have Xi:=(aj.new hfd).free hR;have Vg:fd≠R:=λz=>by rw[<-z,aa]at hR;cases hR
  have hk:=pr.length;have main:∀O,aj N O->O R=1#(15#([]))->pA P w O fd []->Vf { nx:=λ_ M=>Q .fg M,rt:=Q} [some (.str (j5 p J D)),38#pg,38#fd,some (.ref R),none] O:=λO s2 Xj hd2=>by
   show(ai rl (cR 79#(s2 _ _ VX) fT (au F rl 20#(s2 _ _ VY) (fQ (λi U X=>∃v4 Z rs,U=[some (.str (j5 p J D)),38#pg,38#fd,some (.ref R),v4]/\aj N X/\X R=1#(rs.map V.str)/\Paired (λt q=>wz p J g q t) rs (D.take i)/\pA P w X fd Z/\(∀e∈Z,wz p J g e.1 e.2.2)/\Z.length<=i) (bS none [] [] rl s2 Xj .nil (bh hd2 (λ_ h=>nomatch h) (XJ _))) (by intro i U X _;show cy λ_ _ _ _ z _=>?_;show aH.of (z _ _ VY)) ?_ ?_))))
   .intro i x D3 U X B;show cu λv4 Z rs P8=>eO λs3 Tt hrs Tu hks To=>?_;subst P8
    show ah (λqk hq=>eu λr=>bE λC b hb1 Vh=>?_) (Paired.lA pr B);subst C
    have VZ:=VV qk (fC hq);have key:∀{c},aj N c->vI c qk r:=λG=>bX (GN VZ) b (G _ _ hb1) (G _ _ Vh)
    have hi:i<6:=by
     have:=(jc.mp B).1
     lia
    have XD:rs.length<=6:=by rw[hrs.length,Ym];lia
    have tail:∀c ks' z,aj N c->c R=1#(rs.map V.str)->pA P w c fd ks'->(∀e∈ks',wz p J g e.1 e.2.2)->ks'.length<=i+1->rP ks' qk=some z->d D3 [some (.str (j5 p J D)),38#pg,38#fd,some (.ref R),some (.ref r)] c:=λc ks' z G Vi UJ SO Xk m=>by
     have lz:wz p J g qk z:=by
      show ah (λe n R8=>?_) (m3.mp m);subst R8
      have ek:=List.find?_some n;have ek:=om ek;rw[<-ek];show SO e (T! n)
     show(ai rl ⟨.inl (105#Vi),0#(dU fd r qk (aQ ks' z rl rl UJ (key G) m (bS R _ _ rl rl Vi ?_ ?_)))⟩)
     .have:200<sizeLine:=by decide
      rw[XG]
      lia
     .show bS (some (.ref r)) ks' (rs++[z]) rl (G.put Xi) (by rw[aa,X5];rfl) ?_ (bh (ES UJ Vi Vg) SO Xk)
      rw[Yc,hq];show Paired.snoc hrs lz
    have put:∀t c,aj X c->wz p J g qk t->rP Z qk=none->(pA P w (η c fd (By P w fd (Z++[(qk,r,t)]))) fd (Z++[(qk,r,t)])->d D3 [some (.str (j5 p J D)),38#pg,38#fd,some (.ref R),some (.ref r)] (η c fd (By P w fd (Z++[(qk,r,t)])))):=λt c G ht hv Xl=>by
     show tail _ _ t (λb o e=>?_) (by rw[aq (Yy Vg)];show G _ _ Tt) Xl (λe n=>?_) (by rw[XR];show I! To) (Jf hv)
     .rw[aq (bW e hfd)];show G _ _ (s3 _ _ e)
     .rcases Ye.mp n with n|n
      .show hks e n
      .rw[XU.mp n];show ht
    show(0#(bO fd r qk Z rl rl Tu (key s3) (ae _ rl ?_)));have Xm:Z.length<sizeLine:=by
     have:200<sizeLine:=by decide
     lia
    cases hv:rP Z qk with
    | some z=>show cH (tail X Z z s3 Tt Tu hks (by lia) hv)
    | none =>
      show eY ?_;obtain⟨x,zs⟩:=qk;obtain⟨f,sp,hf,L,UE⟩:∃f sp,([("lengths",(a.f 103)),("base",(a.f 104)),("even",(a.f 105)),("cut",(a.f 106)),("odd",(a.f 107)),("heights",(a.f 108)),("forests",(a.f 109))]:List (Str×Addr)).lookup x=some f/\RowC a f sp/\∀(Q:V->Hp->Prop) (E:XK),(∀t c,aj X c->wz p J g (x,zs) t->Q (.str t) c)->sp [.ref wb,.ref b] X Q E:=by
       cases VZ with
       | bare h =>
         rcases h with rfl|rfl|rfl
         .show ao _ _ rl .Ov λQ E k=>jw wb _ p J (ae g rl (fE (j.same s3) ((s1.trans s3) _ _ u) ((s1.trans s3) _ _ Mv) p6 λl c G hr S=>k _ c G (au l rl S hr)))
         .show ao _ _ rl .base λQ E k=>jw wb _ p J (ae g rl (fE (j.same s3) ((s1.trans s3) _ _ u) ((s1.trans s3) _ _ Mv) p6 λl c G hr S=>k _ c G (au l rl S hr)))
         .show ao _ _ rl .Ow λQ E k=>jw wb _ p J (ae g rl (fE (j.same s3) ((s1.trans s3) _ _ u) ((s1.trans s3) _ _ Mv) p6 λl c G hr S=>k _ c G (au l rl S hr)))
       | gU h up hl9 =>
         rename_i kz
         have Vj:∀(R:∀(p:Nat) (J:List cU),ay p J->Nat->List Str->Prop),(∀l,R p J g (orM kz) l->ER p J g (x,dH kz) l)->∀(Q:V->Hp->Prop) (E:XK),(∀t c,aj X c->wz p J g (x,dH kz) t->Q (.str t) c)->fM R a.aU aO [.ref wb,.ref b] X Q E:=λR hR Q E k=>jw wb b p J (aQ g kz rl (j.same s3) ((s1.trans s3) _ _ u) ((s3 _ _ Vh).trans (Yq some (Jg _))) (λk hk=>by obtain⟨i,hi⟩:=List.mem_iff_getElem?.mp hk;show up.1 i k hi) λl c G hr S=>k _ c G (au l rl S (hR l hr)))
         have cb:=Yq orM (yu kz);rcases h with rfl|rfl|rfl
         .show ao _ _ rl .eW (Vj yq λl h=>by change yq p J g (orM ((dH kz).map Int.toNat)) l;rw[cb];show h)
         .show ao _ _ rl .cut (Vj IY λl h=>by change IY p J g (orM ((dH kz).map Int.toNat)) l;rw[cb];show h)
         .show ao _ _ rl .odd (Vj I2 λl h=>by change I2 p J g (orM ((dH kz).map Int.toNat)) l;rw[cb];show h)
       | iO S m=>show ao _ _ rfl .iO λQ E k=>jw wb b p J (aQ g _ rfl (j.same s3) (s3 _ _ Vh) S m λl c G hr S=>k _ c G (au l rfl S hr))
      show 14#(cR 79#(s3 _ _ hb1) fY (ao x f rl hf (fj f sp (bj rl L _ rl (cR 79#(s3 _ _ VX) fY 70#(cR 79#(s3 _ _ hb1) fT (UE _ _ λt c G ht=>?_)))))))
      show(0#(dU fd r _ (aM Z t rl rl rl (fE (Je Tu G) (key (s3.trans G)) hv Xm (put t c G ht hv)))))
   .intro U X;show cu λv4 Z rs Uo=>eO λs3 Tt hrs Tu hks To=>?_;subst Uo
    rw[hk,Yb]at hrs;have XE:rs.length<=6:=by rw[hrs.length];show h6
    have jk:PySem.JoinOk "\n" rs=true:=ju (λy W=>by
     obtain⟨i,hi⟩:=List.mem_iff_getElem?.mp W;show ah (λ_ _=>az λ_ _ h _=>?_) (Paired.lA hrs hi)
     show h) (by change rs.length*20000+rs.length*1<=_;lia)
    show 3#(bS _ R rs rl rl (aH.of Tt) jk (q rs X (s1.trans s3) hrs))
  show main _ ((aj.new hfd).trans (aj.new hR)) aa ⟨by rw[aq Vg];show aa,(λ_ h=>nomatch h),J'⟩
def Ox(K:b7):Sp:=53#(∃(a:Addr) (o:List Int) (k:Nat),Y=[.ref a,.int k]/\aH K H a (o.map V.int)/\∀z,Q (.int z) H)
def Oz:Sp:=53#(∃c k,Y=[.int c,.int k]/\∀z,0<=z->z<2147483629->Q (.int z) H)
def Rb:Sp:=λY H Q _=>∃(c:Int) (p:Nat) (t:Int),Y=[.int c,.int p,.int t]/\2<=p/\p<=10/\1<=t/\t<=100000000000000000000000000000/\
 ∀A b r O M,aj H M->ir (p:Int) A->M b=17#(rM A)->M r=17#([.ref b,.int O])->Q (.ref r) M
def Rc(K:b7):Sp:=λY H Q _=>∃(a:Addr) (o:List Int) (b:Nat),Y=[.ref a,.int b]/\aH K H a (o.map V.int)/\o.length<=63/\b<=24/\
 ∀w p J M,aj H M->ay p J->p<=6->J.length<=b->bx M w p J->Q (.ref w) M
def SQ(y:Int):∃m,vC [V.int 1,.int 1,.int 1,.int (10^(29:Int).toNat)] (y%4)=some (.int m)/\1<=m/\m<=100000000000000000000000000000:=by
 obtain⟨J,G⟩:=jM y 4 4#0
 generalize y%4=i at J G;have F:i=0\/i=1\/i=2\/i=3:=by lia
 rcases F with rfl|rfl|rfl|rfl
 .show au 1 fY 4#0 4#0
 .show au 1 fT 4#0 4#0
 .show au 1 (aG rl) 4#0 4#0
 .show au (10^(29:Int).toNat) (aG rl) 4#0 4#0
def oh:Ok T T.uF 1 (Ox K):=by
 show 2#T.uF.ok
 .revert h;show cy λb o k U m q=>?_;subst U
  show ae _ (af (bB (aD wO bA (39#aZ) (aE _)) (ak (aB (bR (gA K) aZ bA))) aN)
   (ak (aB av))) ?_
  show fm ?_;intro a d;show(0#(ao b _ rl (.inl m) (ao _ _ rl rl 14#(sU (λZ=>?_) (λ_=>q 0)))))
  have Z:=om Z;rw[XG]at Z;show(0#(bO b _ _ _ rl rl m (aG (FU (by lia))) (q _)))
def u5:Ok T T.uG 1 Oz:=by
 show 2#T.uG.ok
 .revert h;show aR λc k f q=>?_;subst f
  show ae _ (af (bH 2 v.nd (aJ eS (aJ fF (aJ fF aZ (aJ sP av bA)) av) av))
   (af (bH 2 v.nd (aJ eS (aJ sP cT cT) av))
   (ak (aB (aJ kc (aJ eS (aJ sP cT av) av) av))))) ?_
  show gQ ?_;intro a d;show(0#(cE ⟨.inl ⟨by decide,by decide⟩,cE (cE (cE ⟨(oJ rl),?_⟩))⟩))
  have G:=jM (c+7919*k+101) 2147483647 4#0
  dsimp only;generalize (c+7919*k+101)%2147483647=n at G;show(0#(cE ⟨.inl ⟨by lia,by lia⟩,cE ⟨(oJ rl),?_⟩⟩))
  show 14#(cE ⟨.inr ⟨by decide,by decide⟩,cE ⟨(oJ rl),cE ⟨⟨by decide,by decide⟩,?_⟩⟩⟩)
  have C:=jM (n*n%2147483647*48271) 2147483629 4#0
  show q _ (Int.ediv_nonneg C.1 4#0) (by lia)
def yv:Ok T T.yb 1 Rb:=by
 show 2#T.yb.ok
 .revert h;show eR λc p t=>eO λC g O u e q=>?_;subst C
  show ae _ (af (bH 3 v.nd (aJ eS aZ bA))
   (af (bH 0 v.nd (aJ kc aZ bA))
   (af (bH 4 v.nd (aJ eS (aJ fF (aJ fF e6 av) (aJ eS aZ (aJ gZ bA av))) bA))
   (af (bH 0 v.nd (aJ kc aZ (aJ gZ bA av)))
   (ak (aB (cW (bT (cW (bU e6 (bT gE (aJ sP (aJ fF av (aJ eS aZ av)) cT)))) (aJ kc aZ av))))))))) ?_
  show Em ?_;intro a d I n;have y:(0:Int)<(p:Int):=by lia
  have f:(0:Int)<(p:Int)-1:=by lia
  have j:∀i,Pr i (p:Int):=λi=>⟨by lia,by lia⟩
  have S:∀i,Pr i ((p:Int)-1):=λi=>⟨by lia,by lia⟩
  show(0#(cE ⟨y,?_⟩));show(0#(cE ⟨j _,?_⟩));show 14#(cE (0#(cE (cE ⟨f,(ao _ _ rl rl 70#(cE ⟨y,?_⟩))⟩))));show(0#(cE (cE ⟨S _,?_⟩)));obtain⟨W,B⟩:=jM (c/p/(p-1)) 9 4#0
  show(0#14#(cE ⟨(oJ rl),cE 70#(cE (bh (.inl ⟨by lia,by lia⟩) (dl rl) (λb Z=>?_)))⟩))
  show 14#(cE (bh ⟨by decide,by decide⟩ (dl rl) (λr P=>?_)))
  show c5 (λD F k=>?_) (Kn (o:=c%p) (r:=c/p%(p-1)) (jM _ _ y).1 (jM _ _ y).2 (jM _ _ f).1 (jM _ _ f).2)
  show q (c%p,(c%p+1+c/p%(p-1))%p,(1+c/p/(p-1)%9)*t) b r _ _ ((aj.new Z).trans (aj.new P)) ?_ (aj.new P _ _ aa) aa;generalize c/p/(p-1)%9=r at W B;have z:r=0\/r=1\/r=2\/r=3\/r=4\/r=5\/r=6\/r=7\/r=8:=by lia
  show⟨(jM _ _ y).1,(jM _ _ y).2,D,F,k,?_,?_⟩
  .change 1<=(1+r)*t;rcases z with rfl|rfl|rfl|rfl|rfl|rfl|rfl|rfl|rfl<;>lia
  .change(1+r)*t<=_;rcases z with rfl|rfl|rfl|rfl|rfl|rfl|rfl|rfl|rfl<;>lia
def Jh:Ok T T.yc 2 (Rc K):=by
 show 2#T.yc.ok
 .revert h;show bV λb o s a A g d q=>?_;subst a
  show ae _ (af (bH 2 v.nd (aJ eS (aC (oh T) P (bT aZ av)) (aJ yz av av)))
   (af (bH 3 v.nd (aJ fF av (aJ eS (aJ kc cT av) av)))
   (af (bH 4 v.nd (bR (gA K) (bF (bU av (bU av (bT av (aJ yz av av))))) (aJ eS (aJ kc cT av) av)))
   (af (bH 5 v.nd (bF eF))
   (af (bB (PW.pt (lF (aD jI e6 av (aE _)) (jg (aD cN (aJ eS cT av) av (aE _))))) (af (bH 6 v.nd (aJ eS (aC (oh T) P (bT aZ av)) (aJ yO (aJ yz av av) (aJ yz av av))))
   (ak (dw PassesOwn.never rl (92#(aJ eS (aJ kc cT av) (aJ fF bA av))) (bu 7 v.nd)
   (af (sM (aC (yv T) P (bU vK (bT e6 gE))) (yM K rl (aS (bu 8 v.nd) (aS (bu 6 v.nd) dQ))))
   (ak (cV (k6 K (c6 Yp Yt Yu cO jS (bq Ti))))))))) aN)
   (af (bB (PW.pt (lF (aD jI e6 av (aE _)) (jg (aD cN (aJ eS cT av) av (aE _))))) (ak (dw PassesOwn.never rl (ql (by rfl) T.c9 (bT av (dc (wQ rl) (by rfl) T.GF j? (bT (39#aZ) (aJ fF av bA))))) (bu 7 v.nd)
   (ak (cV (k6 K (c6 Yp Yt Yu cO jS (bq (dm K (aC (yv T) P (bU (aC (u5 T) P (bT (bR (gA K) aZ Js) Js)) (bT e6 gE))))))))))) aN)
   (ak (aB (cW (bT e6 (bz (qX K) (by rfl) T.jt Y8 (bq jS)))))))))))) ?_
  show En ?_;intro a c g h L B x f i j d e;show(ai rl ⟨b,(ao o 0 rl A λz=>(cE ⟨bh 4#0 4#0 4#0,cE ⟨(oJ rl),?_⟩⟩))⟩)
  have a:=(jM z (10^(60:Int).toNat) 4#0).1
  dsimp only;generalize z%10^(60:Int).toNat=j at a;show 14#(cE ⟨⟨by decide,by decide⟩,cE ⟨(oJ rl),cE (?_)⟩⟩)
  obtain⟨p,t,d,g⟩:∃p:Nat,1+j/2%6=(p:Int)/\1<=p/\p<=6:=au ((1+j/2%6).toNat) (by lia) (by lia) (by lia)
  dsimp only;rw[t];show az (λm a t v=>?_) (SQ (j/12))
  show(cE (bh (bh 4#0 4#0 4#0) (dl rl) (λl S=>14#(cE ⟨⟨by decide,by decide⟩,cE ⟨(oJ rl),eH (aH.of aa) (a) (?_)⟩⟩))))
  show fresh (η H l _) rl S λN w _=>?_
  show 24#(λD u=>?_)
  have a:0<=j/48%((s:Int)+1)/\j/48%((s:Int)+1)<(s:Int)+1:=jM _ _ (by lia)
  have h:∀(n:Nat) (O:Hp),rN (p:Int) N D n O->n<=s->∃I,10#O/\∀a,O a=none->33#([V.int (p:Int),.ref a]:List V).length/\∀C,η O a (.tup I) C=none->Q (.ref C) (η (η O a (.tup I)) C (.tup [.int (p:Int),.ref a])):=by
   intro n O R c;show bD (λI J j S f z=>?_) R.fin
   show ae I j λa r=>24#(λC e=>?_)
   obtain⟨y,i⟩:=z a r C e;show q C p J _ (w.trans y) ⟨d,by lia,by lia,f⟩ g (by lia) i
  have d:rN (p:Int) N D 0 (86#N):=rN.start u;generalize 86#N=O at d
  by_cases a:p=1
  .subst a;show 14#(cE 70#(gf 4#0 (cH ?_)))
   show 14#(cE 70#(gf 4#0 (cH ?_)))
   show ah (λI R z=>?_) (h 0 O d (by lia))
   show(0#(bf D I rl (.inl ⟨aH.of R,z⟩)))
  .by_cases l:j%2=0
   .show 14#(cE 70#(lN (by lia) (ai rl (cE (bh (oJ rl) rl (ai rl (lN (Yq V.int l) ?_)))))))
    show(ai rl ⟨b,(ao o 1 rl ((w.trans d.1).seq A) λy=>(cE ⟨bh 4#0 4#0 4#0,cE ⟨bh 4#0 4#0 4#0,cE ⟨mulOk_of 4#0 4#0,cE ⟨(oJ rl),?_⟩⟩⟩⟩))⟩)
    show 14#(cE ⟨⟨by decide,by decide⟩,ai rl (cE (cE ⟨(by lia),ai rl (bh (by lia) (by lia) ?_)⟩))⟩)
    show iP (λi U X=>∃c k J,U=[some (.ref b),44#(s:Int),some (.int j),44#(p:Int),some (.int m),some (.ref D),some (.int c),k,J]/\rN (p:Int) N D i X) (eV _ none none rl d) ?_ ?_
    .intro i U X F;show cu λc k J e a=>?_;subst e
     show(0#(ai rl ⟨c,(aQ p m rl (by lia) (by lia) t v λC q r x n G f Z P=>?_)⟩))
     show az (λI g B R=>?_) (a.push u G f Z)
     show ao r _ rl (aY.of P) (bg rl _ _ rl (ao _ _ rl rl ?_));show(ai rl ⟨.inl (105#g),ai rl (bS D I _ rl rl g (gy (by lia)) (eV _ _ _ rl R))⟩)
    .intro U X;show cu λc k J Z a=>?_;subst Z
     show 14#(cE 70#(lN (by lia) (ai rl (cE (bh (oJ rl) rl (ai rl (gf (λz=>119#(V.int.inj z)) ?_)))))))
     show ah (λI R z=>?_) (h _ X a (by lia))
     show(0#(bf D I rl (.inl ⟨aH.of R,z⟩)))
   .show 14#(cE 70#(lN (by lia) (ai rl (cE (bh (oJ rl) rl (ai rl (gf (λz=>l (V.int.inj z)) ?_)))))))
    show 14#(cE 70#(lN (by lia) (ai rl (cE (bh (oJ rl) rl (ai rl (lN (Yq V.int (by lia)) ?_)))))))
    have c:27#(o.map V.int)=o.length:=XG ..;show 14#(ao b _ rl (.inl ((w.trans d.1).seq A)) 70#(cE (bf _ _ rl (ao _ _ rl (f7 4#0 4#0 ?_ ?_) ?_))))
    .rw[c];split<;>lia
    .rw[c];split<;>lia
    have e:∃r:Nat,((if(2+(s:Int))<(27#(o.map V.int):Int) then 2+(s:Int) else(27#(o.map V.int):Int))-2).toNat=r/\r<=s/\(r=0\/r+2<=o.length):=(ai rl ⟨by rw[c];split<;>lia,by rw[c];split<;>lia⟩)
    revert e;show az λr l e c=>?_
    show iP (λi U X=>∃c k J,U=[some (.ref b),44#(s:Int),some (.int j),44#(p:Int),some (.int m),some (.ref D),c,k,J]/\rN (p:Int) N D i X) (eV none none none rl d) ?_ ?_
    .intro i U X F;show cu λc k J y a=>?_;subst y
     rw[l]at F;have M:(2:Int)+(i:Int)=19#(2+i):=by lia
     rw[M];have W:∃I,10#X:=let⟨_,I,_,z,_⟩:=a;⟨I,z⟩;obtain⟨d,W⟩:=W;show(ai rl ⟨.inl (105#W),0#(bO b _ _ _ rl rl ((w.trans a.1).seq A) (aG (FU (by lia))) 14#(bf _ _ rl (λz d _=>?_)))⟩)
     show(0#⟨z,(aQ p m rl (by lia) (by lia) t v λC q b x n G f Z P=>?_)⟩)
     show az (λI g B R=>?_) (a.push u G f Z)
     show(cR (aY.of P) fY (bS D I _ rl rl g (gy (by lia)) (eV _ _ _ rl R)))
    .intro U X;show cu λc k J y a=>?_;subst y
     rw[l]at a;show ah (λI R z=>?_) (h _ X a (by lia))
     show(0#(bf D I rl (.inl ⟨aH.of R,z⟩)))
def ET{m:Nat}(d:m<2^24)(J:m≠0):Txt.split (cI m) "-"=(aV (m:Int)).map Tx.bM:=by
 unfold cI;rw[show(Str.ofString "-")=⟨#[45]⟩ by decide +kernel]
 show Tx.kJ (λe=>?_) λs W=>?_
 .show ah (λc L _=>?_) (n7 J)
  rw[List.map_eq_nil_iff.mp e]at L;cases L
 .show 75#(λn _ U=>?_);subst U
  show λz=>119#(Tx.gP z)
def Mw{m:Nat}(d:m<2^24):((aV (m:Int)).map λk=>2^k).sum=m:=by
 rw[eM d,AH];show YR λj=>?_
 rw[mask_bit]
 by_cases o:j<24
 .simp[o]
 .have:m.testBit j=false:=YO (X4 d (YQ 4#0 (by lia)))
  simp[this]
def Cw:Sp:=53#(∃m:Nat,Y=[.str (cI m)]/\m<2^24/\m≠0/\72#(.int m))
theorem Cy:∀l:List Nat,(l.map λk=>((k:Nat):Int)).sum=19#l.sum
 | []=>rfl
 | k::l=>by rw[Yd,Y3,Y3,Cy l,Int.natCast_add]
def u6:Ok T T.uH 1 Cw:=by
 show 2#T.uH.ok
 .revert h;show d8 λm f d J q=>?_;subst f
  show 56#(aB (dc (sumK K rfl) (by rfl) T.LV l? (bq (bC (own:=["part"]) (js:=[]) (dF v) rfl (kZ K (k6 K (c6 Yl YS YT gm aZ (bq aX)))) 6#(81#(["part"])) 42#0 6#(aJ jA av (bz iw (by rfl) T.GD u! (bq aZ)))))))
  have j:=ET d J;have p:=z7 d;have b:1000<sizeLine:=by decide
  show(ai rfl 25#(aQ (cI m) "-" rfl rfl (11#0) (XY (yn d) (by lia)) (by rw[j,XG];lia) λL a=>?_))
  rw[j];show fresh (η H L _) rl a λN w l=>?_
  have o:(15#((aV m).map Tx.bM)).length=(aV m).length:=by rw[XG,XG]
  show au L rl 20#l λD u=>bw (oU (λk=>((2^k:Nat))) (aV m) N D) (.start u) (λi I O _ X=>⟨aH.of (X.1 _ _ l),X.len⟩) (bY (by rw[o];show p)) ?_ ?_
  .intro i x I O B X;rw[XQ,XQ]at B;show ah (λs W C=>?_) (m3.mp B);subst C
   show ah (λn g r=>?_) (m3.mp W);subst r
   have c:=iq d (fC g);have e:(1:Int)*2^((n:Int)).toNat=19#(2^n):=by simp
   show 3#(aM _ (n:Int) rl (Tx.tU (Zy c 4#0)) (XY (Tx.eU (k:=2) 4#0 (by lia)) 4#0) (cE ⟨57#4#0,?_⟩))
   show X.next u (aj.refl _) g (Yq V.int e)
  .intro I O X;rw[o]at X;have W:((aV (m:Int)).map λk=>19#(2^k)).sum=(m:Int):=by
    have:=Cy ((aV (m:Int)).map λk=>2^k)
    rw[YC,Mw d]at this;show this
   have c:=q O (w.trans X.1);rw[<-W]at c;show ao D _ rl (aH.of X.fin) c
theorem join_snoc(b x:Str):∀{l:List Str},l≠[]->Str.join b (l++[x])=Str.join b l++b++x
 | [],h=>absurd rfl h
 | [y],_=>rfl
 | y::z::r,_=>by
   have O:=join_snoc b x (l:=z::r) 21#0
   change y++b++Str.join b (z::r++[x])=(y++b++Str.join b (z::r))++b++x;rw[O];simp only[PySem.Str.append_assoc]
def OA{x n:Nat}(h:x<2^n):orM (aV (x:Int))=x:=by
 rw[eM h];show YR λj=>?_
 rw[jm]
 by_cases o:j<n
 .simp[o]
 .have:x.testBit j=false:=YO (X4 h (YQ 4#0 (by lia)))
  simp[this]
def OB{x n:Nat}(h:x<2^n):Up n (aV (x:Int)):=by
 show⟨λi k R=>iq h (fC R),λi j k o R=>?_⟩
 have b:(aV x).Pairwise (· < ·):=by rw[eM h];show tG
 obtain⟨G,rfl⟩:=jc.mp o;obtain⟨C,rfl⟩:=jc.mp R;show List.pairwise_iff_getElem.mp b i (i+1) G C (by lia)
def qe{p n:Nat}{J:List cU}{g:ay p J}{x:Str}{F:List Int}{l:List Str}(B:gr n x F)(h:ER p J g (x,F) l):l≠[]/\∀s∈l,ly s:=by
 have d:∀L:List Nat,∀s∈L.map cI,ly s:=λL s W=>by
  show 75#(λr _ U=>?_);subst U
  show qc r
 have D:∀{w:Str},ly w->∀s∈[w],ly s:=λh s W=>by rw[XU.mp W];show h
 have b:(ly "lengths"/\ly "base"/\ly "forests"/\ly "even"/\ly "heights")/\(ly "yes"/\ly "no"/\ly "cut"/\ly "odd"/\ly "none"):=by unfold ly;decide +kernel
 cases B with
 | bare f =>
   rcases f with rfl|rfl|rfl
   .obtain⟨L,_,rfl⟩:yo p J g l:=h;show⟨by simp,cA b.1.1 (uV _)⟩
   .obtain⟨L,_,rfl⟩:Ct p J g l:=h;show⟨by simp,cA b.1.2.1 (d _)⟩
   .obtain rfl:l=_:=show Ms p J g l from h
    show⟨by simp,cA b.1.2.2.1 (D (sF _))⟩
 | gU f =>
   rename_i Z y S
   rcases f with rfl|rfl|rfl
   .rcases(h) with⟨x,rfl⟩|⟨j,rfl,_⟩
    .show⟨by simp,cA b.1.2.2.2.1 (cA b.2.2.1 (D (sF _)))⟩
    .show⟨by simp,cA b.1.2.2.2.1 (cA b.2.1 (d _))⟩
   .rcases(h) with⟨_,rfl⟩|⟨c,_,_,rfl⟩
    .show⟨by simp,cA b.2.2.2.1 (cA b.2.1 (p8 _))⟩
    .show⟨by simp,cA b.2.2.2.1 (cA b.2.2.1 (D (qc _)))⟩
   .rcases(h) with⟨_,rfl⟩|⟨e,_,_,_,rfl⟩
    .show⟨by simp,cA b.2.2.2.2.1 (D b.2.2.2.2.2)⟩
    .show⟨by simp,cA b.2.2.2.2.1 (D (qc _))⟩
 | iO S i =>
   rename_i k
   rcases(h) with⟨_,rfl⟩|⟨_,m,rfl⟩
   .show⟨by simp,cA b.1.2.2.2.2 (cA b.2.1 (uV _))⟩
   .show⟨by simp,cA b.1.2.2.2.2 (cA b.2.2.1 (D (qc _)))⟩
theorem u7{c:Nat}:∀l:List (List Nat),l.length<=27#(Tx.lV c l)+1
 | []=>Yo _
 | [p]=>Nat.le_add_left _ _
 | p::q::r=>by
   have O:=u7 (c:=c) (q::r);change(q::r).length+1<=27#(p++c::Tx.lV c (q::r))+1;simp only[XR,X7]at O ⊢
   lia
def iW{l:List Str}(h:27#(Txt.join " " l)<=20000):l.length<=20001:=by
 have J:∀x:Str,x.cps.toList.length=x.length:=λx=>by simp[Str.length]
 rw[Cn,show Txt.join ⟨#[32]⟩ l=Str.join ⟨#[32]⟩ l from Yw _ _,<-J,Tx.ff]at h
 have:=u7 (c:=32) (l.map (·.cps.toList));rw[XG]at this
 lia
def mY{p n:Nat}{J:List cU}{g:ay p J}{q:Ask}{l:List Str}(B:gr n q.1 q.2)(h:ER p J g q l):Txt.split (Txt.join " " l) " "=l:=iU (qe B h).1 (qe B h).2
def My(p:Nat)(J:List cU)(q:Ask):iH p J++("\n":Str)++we q=j5 p J [q]:=by
 unfold j5 jv;rw[show ∀l,Txt.join "\n" l=Str.join "\n" l from λl=>Yw _ _,show iH p J=Str.join "\n" (p9 p J) from Yw _ _]
 show(join_snoc _ _ (by simp[p9])).symm
def EU(t1 B:Addr)(c e:Pos):Sp:=λY H Q _=>∃(p:Nat) (J:List cU) (q:Ask),∃g:ay p J,Y=[.str (iH p J),.str (we q)]/\J.length<=9/\gr J.length q.1 q.2/\H t1=64#(eE (gV "least_ways") c)/\H B=64#(eE (gV "by_length") e)/\p<=6/\
 ∀l M,aj H M->27#(Txt.join " " l)<=20000->ER p J g q l->Q (.str (Txt.join " " l)) M
def GW{p:Nat}{J:List cU}(g:ay p J)(Z:J.length<=9):27#(iH p J)<=10000:=by
 have d:=g.p2;unfold iH;rw[GL];show XY (pZ λs W=>ym (as:=[]) g Z (λ_ h=>nomatch h) s (OM _ W)) ?_
 rw[X7,XG]
 lia
def j6:Ok T T.yd 14 (EU a.aU a.bQ aO bI):=by
 show 2#T.yd.ok
 .revert h;show eR λp J c=>ah λg f=>eO λZ B u e i q=>?_;subst f
  show 56#(aB (aC (u4 T) P (bq (aJ sQ (aJ sQ aZ aX) bA))));have b:20000<sizeLine:=by decide
  have d:=GW g Z;have j:=GR B Z;have z:("\n":Str).length=1:=11#0
  show(ai rfl (bf (iH p J) ("\n") rfl (bj rfl ?_ _ rfl (aM (iH p J ++ "\n") (we c) rfl rfl ?_ ?_))))
  .lia
  .rw[PySem.Str.length_append];lia
  rw[My];show dU p J [c] (cS g rl Z (show 1<=6 by decide) (fE (λy W=>by rw[XU.mp W];show B) u e i λL N w pr=>?_))
  cases pr with | cons h pr =>
  cases pr
  revert h;show az λl C S P=>?_;subst C
  show q l N w S P
def Cz(t1 B:Addr)(c e:Pos):Sp:=λY H Q _=>∃(p:Nat) (J:List cU) (l:Addr) (F:List Int),∃g:ay p J,Y=[.str (iH p J),.ref l]/\H l=1#(aK F)/\F.length=J.length/\(∀z∈F,z.natAbs<10^60)/\J.length<=9/\H t1=64#(eE (gV "least_ways") c)/\H B=64#(eE (gV "by_length") e)/\p<=6/\
 ∀a D M,H D=none->aj H M->Ra p J g F a->M D=1#(a.map V.str)->Q (.ref D) M
def u9:Ok T T.uI 15 (Cz a.aU a.bQ aO bI):=by
 show 2#T.uI.ok
 .revert h;show qh λp J l F=>d8 λg U S X=>eO λm Z j e L q=>?_;subst U
  show 56#(aB (k6 K (c6 Yl YS YT gm (aC (j6 T) P (bT aZ (k6 K (c6 Yl YW YX (iu K) aX (bq (aJ (oM K) (bF (bT aX aX)) (bC (own:=["number"]) (js:=[]) (dF v) rfl (kZ K bA) 6#(81#(["number"])) 42#0 6#(bz gG (by rfl) T.ye ZG (bq aZ))))))))) (bq aX))))
  have b:∀y∈aK F,Oc y:=λy W=>by
   show 75#(λz t f=>?_);subst f
   show .inl (ae z rl (ia (m z t)))
  have B:gr J.length "heights" (0::F):=.iO X m;have b:20000<sizeLine:=by decide
  show 14#(bh rl (dl rl) (λd b=>?_))
  show fresh (η H d _) rl b λN w c=>?_
  have b:=w _ _ S;have f:(aK F).length=F.length:=XG _;show 14#(au l rl 20#b (λD u=>bw (v9 (aK F) N D) (82#u) (λi I O _ pv=>⟨aH.of (pv.1 _ _ b),pv.few⟩) (bY (by lia)) (λi y I O W pv=>?_) λI O pv=>?_))
  .show ah (λz t C=>?_) (XT.mp (fC W));subst C
   show 25#0#(bh (ia (m z t)) pv.2.1 (pv.turn u W))
  revert pv;show c5 λM R r=>?_;subst r
  rw[Yb]at R;have C:[V.str "heights",.str "0"]++15#((aK F).map MI)=(15#(("heights":Str)::84#(0::F))):=by
   unfold aK;rw[YC,YC,Yd,Yd,Yd,YC,show Tx.bN 0=("0") by decide +kernel]
   rfl
  show fj d D (aQ _ _ rl rl 45#(M _ _ c) (aH.of R) ?_ λz x=>?_)
  .rw[XG,XG];show 50#(by change 2+_<=1000;lia)
  rw[C];show bS _ z (("heights")::84#(0::F)) rfl rfl (aH.of aa) (uW (q:=("heights",0::F)) B Z) ?_;have k:=(w.trans M).trans (aj.new (o:=.lst (15#(("heights":Str)::84#(0::F)))) x);show dU p J ("heights",0::F) (au g rfl Z (fE B (k _ _ j) (k _ _ e) L λd c G b n=>?_))
  have j:=mY B n;show 25#(aQ _ " " rfl rfl (11#0) (by lia) ?_ λf t=>?_)
  .rw[j];have:=iW b
   lia
  rw[j];show q d f _ ((k.trans G).free t) ((k.trans G).trans (aj.new t)) n aa
def Mz(xs:List V)(k:Nat):gw xs none (some (k:Int))=xs.take k:=by
 unfold gw;rw[HT.lJ,HT.kh];rw[L!,Nat.sub_zero]
 by_cases h:k<=xs.length
 .rw[Zc h]
 .rw[ZK (by lia),Yb,Ze (by lia)]
def Ab(xs:List V)(k:Nat):gw xs (some (k:Int)) none=xs.drop k:=by
 unfold gw;rw[HT.kh,HT.lJ]
 by_cases h:k<=xs.length
 .rw[Zc h,Ze (by rw[ZE];show XJ _)]
 .rw[ZK (by lia),n!,U',List.drop_eq_nil_of_le (by lia)]
def OC(l:List Int){t:Nat}(h:t<l.length)(k:Nat):cK (l.take t++[l.getD t 0+1]++l.drop (t+1)) k=if k=t then cK l t+1 else cK l k:=by
 have e:l.take t++[l.getD t 0+1]++l.drop (t+1)=l.set t (l.getD t 0+1):=by
  rw[List.set_eq_take_append_cons_drop,XI h,D!];rfl
 unfold cK;rw[e,XO,List.getElem?_set]
 by_cases R:k=t
 .subst R;rw[XI rfl,XI h,XI rfl];rfl
 .rw[XH (Yy R),XH R,XO]
def vc{K:b7}{H:Hp}{L:Addr}{l:List Int}(h:H L=1#(aK l)):jC K H (.ref L) (.list (l.map PyData.int))/\99#(.list (l.map PyData.int))/\PyData.eqv (.list (l.map PyData.int)) (.list (l.map PyData.int))=true:=by
 have a:Fl 1 (.list (l.map PyData.int)):=.list (GO l);show bh (.lst (aH.of h) (tQ l)) (a.shaped 4#0) (SeqAt.eqv_refl _ a.1)
def vd(t1 B:Addr)(c e:Pos):Sp:=λY H Q _=>∃(o d:Addr) (p:Nat) (J:List cU) (W:List Int),∃_:ay p J,Y=[.ref o,.str (iH p J),.ref d]/\bx H o p J/\H d=1#(aK W)/\W.length=p/\(∀z∈W,z.natAbs<=1000)/\J.length<=9/\H t1=64#(eE (gV "least_ways") c)/\H B=64#(eE (gV "by_length") e)/\p<=6/\
 72#(.bl true)
def m8:Ok T T.iJ 16 (vd a.aU a.bQ aO bI):=by
 show T.iJ.ok λ_ A _ s H Y Q E b P h=>?_
 .revert h;show jd λo d p J A=>eu λg=>m9 λe hw j f=>eO λc h9 N9 Mv p6 q=>?_;subst e
  show ae _ (af (fb (i:=3) b.nd rfl rfl (own:=["tie"]) (js:=[2]) (dF b) rfl (Rn K (dm K aZ)) 6#(81#(["tie","drawn"])) 42#0 6#(aJ gZ 116#(dm K aZ) 116#(dm K aZ)))
   (af (bH 4 b.nd (aC (u9 T) P (bT bA e6)))
   (af (bB (PW.pt (iI (aD gX (qM K gE) aX (aE _)) (gv (aD gX (39#gE) (aJ fF (dm K aZ) av) (aE _))))) (ak (aB gW)) aN)
   (af (e9 (i:=5) b.nd rfl (Or.inr rfl) (bC (own:=["word"]) (js:=[]) (dF b) rfl (kZ K (cz (CP K) gE (cX av) dJ)) 6#(81#(["word"])) 42#0 6#(bz iw (by rfl) T.GD u! (bq aZ))))
   (af (bB (aD (qo K P.units) (bC (own:=["tie"]) (js:=[5]) (dF b) rfl (Rn K (dm K aZ)) 6#(81#(["tie","told_heights"])) 42#0 6#(aJ gZ 116#(dm K aZ) 116#(dm K aZ))) e6 (aE _)) (ak (aB gW)) aN)
   (af (dw PassesOwn.never rl (kZ K (52#uO)) (bu 6 b.nd)
   (af (bH 7 b.nd (aJ (oM K) (aJ (oM K) (cz (CP K) e6 dJ (cX vK)) (bF (bq (aJ fF (bR (gA K) e6 vK) av)))) (cz (CP K) e6 (cX (aJ fF vK av)) dJ)))
   (ak (bB (aD gX (qM K (aC (u9 T) P (bT bA Js))) aX (aE _)) (ak (aB gW)) aN))))
   (ak (aB gW)))))))) ?_
  show l8 ?_;intro b e i k l m r t u v f;show aA (λS f G E l=>?_) (id hw.ex)
  have V0:=l.length;have U:∀k,k<J.length->g.N.a k<p:=λk R=>g.N.al k R
  have bl:∀k,k<J.length->g.N.b k<p:=λk R=>g.N.bl k R
  generalize P:dh J.length (λk=>cK A (g.N.b k)-cK A (g.N.a k))=F
  have r:F.length=J.length:=by rw[<-P,cP]
  have V1:∀k,k<J.length->cK F k=cK A (g.N.b k)-cK A (g.N.a k):=λk R=>by
   rw[<-P];show iC R
  have Z:∀k,(cK A k).natAbs<=1000:=λk=>by
   unfold cK;rw[XO];cases e:A[k]? with
   | none=>show Yo _
   | some z=>show c z (fC e)
  have Q:∀z∈F,z.natAbs<10^4:=λz h=>by
   rw[<-P]at h;show ah (λk _ b=>?_) (XT.mp h);subst b
   have G:=Z (g.N.b k);have E:=Z (g.N.a k)
   lia
  have Y:∀z∈F,z.natAbs<10^60:=λz h=>Zy (Q z h) 4#0
  have fit:RM.KR g.N (cK F) 0 (cK A):=λk R=>by
   rw[V1 k R];show Zq.mpr (by lia)
  show 14#(cR (aY.of G) fT (au S rl ⟨_,aY.of E⟩ (λD u=>i4 (o5 (λk=>cK A (g.N.b k)-cK A (g.N.a k)) 16#J.length H D) (.start u) (λi I O _ f=>⟨aY.of (f.1 _ _ E),f.len⟩) (bY (by lia)) ?_ ?_)))
  .intro i x I O B f;have t:i<J.length:=119#(jc.mp B).1
   obtain⟨c,e,w⟩:=kG l t;rw[B]at e;cases e;have w:=f.1 _ _ w;have b:=f.1 _ _ j;have C:=U i t;have Z:=bl i t;show⟨rfl,0#(cR (aY.of w) fT (eH (aH.of b) (aG (int_at (by lia))) 14#(ai rl (cR (aY.of w) fY (eH (aH.of b) (aG (int_at (by lia))) (cE (f.next u (aj.refl _) (Zw t) rl)))))))⟩
  intro I O f;rw[V0]at f;have Tg:O D=1#(aK F):=by
   rw[<-P,f.2.1,f.2.2,Ze (by rw[Yh];show XJ _)]
   rfl
  have j:=f.1;show(0#(jw p J D F ⟨g,(fE rl Tg r Y (fE h9 (j _ _ N9) (j _ _ Mv) p6 λv W X u s3 m b=>?_))⟩))
  rcases m with⟨fz,rfl⟩|⟨r,_⟩
  case inr=>show absurd (RM.NZ fit) r
  generalize r:RM.fz g.N (cK F) J.length=m at fz b;have V2:=j.trans s3;have j:(15#(("heights":Str)::("yes":Str)::84#(dh p m))).length=p+2:=by
   rw[XG,X7,X7,XG,cP]
  show 14#(eH (aH.of b) fT 3#(jK rl ?_));show 14#(k7 rl (101#b) 70#(cR 79#(V2 _ _ G) fY (cE 3#(jK (by rw[j];rfl) ?_))))
  show(0#(ao W _ rl (aH.of b) (λc H=>?_)))
  rw[show gw (15#(("heights":Str)::("yes":Str)::84#(dh p m))) (some 2) none=15#(84#(dh p m)) from Ab _ 2]
  have M:aj X (η X c 28#15#(84#(dh p m))):=aj.new H;have j:η X c 28#15#(84#(dh p m)) c=1#(15#(84#(dh p m))):=aa;generalize η X c 28#15#(84#(dh p m))=O at M j;have u:∀x,(m x).natAbs<10^60:=λx=>by
   rw[<-r];have w:∀k,-(10^4:Int)<=cK F k/\cK F k<=10^4:=λk=>by
    unfold cK;rw[XO];cases e:F[k]? with
    | none=>show⟨by decide,by decide⟩
    | some y =>
      have:=Q y (fC e);change -(10^4:Int)<=y/\y<=10^4
      lia
   have Z:=u3 (N:=g.N) 4#0 w J.length x
   have b:(4:Int)^J.length*10^4<=4^24*10^4:=ZH (by have:=YQ (n:=4) 4#0 g.len;exact_mod_cast this) 4#0
   have X:(4^24*10^4:Nat)<10^60:=11#0
   generalize RM.fz g.N (cK F) J.length x=v at *;generalize (4:Int)^J.length*10^4=B at *
   lia
  have hml:(15#(84#(dh p m))).length=p:=by rw[XG,XG,cP]
  show au c rl 20#j λL v=>bw (o5 (λz:Int=>z) (dh p m) O L) (.start v) (λi I y _ f=>⟨aH.of (f.1 _ _ j),f.len⟩) (bY (by lia)) ?_ ?_
  .intro i x I y B f;rw[XQ,XQ]at B;show ah (λs A C=>?_) (m3.mp B);subst C
   show ah (λz t r=>?_) (m3.mp A);subst r
   have b:z.natAbs<10^60:=by
    show ah (λx _ e=>?_) (XT.mp (fC t));subst e
    show u x
   show 3#(aM _ z rl (Tx.o7 b) (XY (Tx.jo b).2 4#0) (f.next v (aj.refl _) t rl))
  intro I y f;have f:o5 (λz:Int=>z) (dh p m) O L 27#(dh p m) I y:=by rw[cP];rw[hml]at f;show f
  have v:y L=1#(aK (dh p m)):=by
   rw[f.fin,List.map_id'']
   .rfl
   .show λ_=>rfl
  have b:=V2.trans (M.trans f.1);have O:=s3.trans (M.trans f.1);show 14#(cR 79#(b _ _ G) fT (au S rl ⟨_,aY.of (b _ _ E)⟩ (λM s=>i4 (o5 (λk=>m (g.N.b k)-m (g.N.a k)) 16#J.length y M) (.start s) (λi I r _ f=>⟨aY.of ((b.trans f.1) _ _ E),f.len⟩) (bY (by lia)) ?_ ?_)))
  .intro i x I r B f;have t:i<J.length:=119#(jc.mp B).1
   obtain⟨c,e,w⟩:=kG l t;rw[B]at e;cases e;have w:=(b.trans f.1) _ _ w;have S:=f.1 _ _ v;have C:=U i t;have Z:=bl i t;have v:(aK (dh p m))[g.N.a i]?=44#(m (g.N.a i)):=by rw[int_at (by rw[cP];show C),iC C]
   have U:(aK (dh p m))[g.N.b i]?=44#(m (g.N.b i)):=by rw[int_at (by rw[cP];show Z),iC Z]
   show⟨rfl,0#(cR (aY.of w) fT (eH (aH.of S) (aG U) 14#(ai rl (cR (aY.of w) fY (eH (aH.of S) (aG v) (cE (f.next s (aj.refl _) (Zw t) rl)))))))⟩
  intro l r f;rw[V0]at f;have l:r M=1#(aK F):=by
   rw[<-P,f.2.1,f.2.2,Ze (by rw[Yh];show XJ _)]
   have e:(16#J.length).map (λk=>m (g.N.b k)-m (g.N.a k))=dh J.length λk=>cK A (g.N.b k)-cK A (g.N.a k):=A! λk R=>by
    have R:=Yk.mp R;have G:=Zq.mp (fz k R);have E:=V1 k R
    lia
   rw[e];rfl
  have s:=b.trans f.1;have e:=(O.trans f.1) _ _ Tg;obtain⟨v,S,b⟩:=vc l;obtain⟨f,_⟩:=vc e;show 14#(ao _ _ v f (bj S S _ rl ?_));rw[b];show cH ?_;have m:=hw.same s;have l:∀c∈g.N.bZ,c<J.length/\g.N.gY c=false:=λc H=>RM.cY.mp H
  show 14#(97#(au g rl m λC f r v c=>au C rl 20#c (fQ (λi U b=>∃y A,U=[some (.ref o),some (.str (iH p J)),some (.ref d),some (.ref D),some (.ref W),some (.ref L),y,A]/\aj f b) (bf none none rl (aj.refl _)) (by intro i U b _;show aR λ_ _ _ z=>?_;show aH.of (z _ _ c)) ?_ ?_)))
  .intro i x d U b B;show aR λy A c w=>?_;subst c
   show ah (λt c d=>?_) (cD B);subst d
   obtain⟨E,C⟩:=l t (fC c);have o:=w _ _ (v _ _ e);have G:=s.trans (v.trans w);have m:t<F.length:=by lia
   have l:=int_at m;show(0#14#(ao D _ rl (aH.of o) (λc d=>?_)))
   rw[Mz,show(aK F).take t=aK (F.take t) from(List.map_take ..).symm]
   have x:aj b (η b c 28#(aK (F.take t))):=aj.new d;have e:η b c 28#(aK (F.take t)) c=1#(aK (F.take t)):=aa;generalize η b c 28#(aK (F.take t))=f at x e;show(0#(eH 45#(x _ _ o) (aG l) (cE 24#(λd i=>?_))))
   have r:aj f (η f d (.lst [.int (F.getD t 0+1)])):=aj.new i;have i:η f d (.lst [.int (F.getD t 0+1)]) d=1#([.int (F.getD t 0+1)]):=aa;have e:=r _ _ e;generalize η f d (.lst [.int (F.getD t 0+1)])=l at r i e;show fj c d (aQ _ _ rl rl (aH.of e) (aH.of i) ?_ λf B=>?_)
   .change 27#(aK (F.take t))+1<=_;unfold aK;rw[XG,Ym];show 50#(by lia)
   have c:aj l (η l f 28#(aK (F.take t)++[.int (F.getD t 0+1)])):=aj.new B;have i:η l f 28#(aK (F.take t)++[.int (F.getD t 0+1)]) f=1#(aK (F.take t++[F.getD t 0+1])):=by
    rw[aa];unfold aK;rw[X5];rfl
   generalize η l f 28#(aK (F.take t)++[.int (F.getD t 0+1)])=d at c i;have B:=x.trans (r.trans c);show(0#(cE 14#(ao D _ rl 45#(B _ _ o) (λc j=>?_))))
   rw[show gw (aK F) (some ((t:Int)+1)) none=aK (F.drop (t+1)) from(Ab _ (t+1)).trans (List.map_drop ..).symm]
   have e:aj d (η d c 28#(aK (F.drop (t+1)))):=aj.new j;have l:η d c 28#(aK (F.drop (t+1))) c=1#(aK (F.drop (t+1))):=aa;have i:=e _ _ i;generalize η d c 28#(aK (F.drop (t+1)))=j at e l i;show fj f c (aQ _ _ rl rl (aH.of i) (aH.of l) ?_ λd o=>?_)
   .unfold aK;rw[XG,XG,XR,Ym,ZE];show 50#(by change _+1+_<=_;lia)
   have c:aj j (η j d 28#(aK (F.take t++[F.getD t 0+1])++aK (F.drop (t+1)))):=aj.new o;have f:η j d 28#(aK (F.take t++[F.getD t 0+1])++aK (F.drop (t+1))) d=1#(aK (F.take t++[F.getD t 0+1]++F.drop (t+1))):=by
    rw[aa];unfold aK;rw[<-X5]
   generalize η j d 28#(aK (F.take t++[F.getD t 0+1])++aK (F.drop (t+1)))=i at c f;have j:=B.trans (e.trans c);have i:=G.trans j;have c:=OC F m;have e:27#(F.take t++[F.getD t 0+1]++F.drop (t+1))=J.length:=by
    rw[XR,XR,Ym,ZE,YA]
    lia
   have u:∀z∈F.take t++[F.getD t 0+1]++F.drop (t+1),z.natAbs<10^60:=λz h=>by
    rcases Ye.mp h with h|h
    .rcases Ye.mp h with h|h
     .show Y z (y! h)
     .have:=Q _ (show F.getD t 0∈F by rw[XO,XW m];show Z2 m)
      rw[XU.mp h];have X:(10^4+1:Nat)<10^60:=by decide
      lia
    .show Y z (w! h)
   generalize F.take t++[F.getD t 0+1]++F.drop (t+1)=m at f c e u;show(0#(jw p J d m ⟨g,(fE rl f e u (fE h9 (i _ _ N9) (i _ _ Mv) p6 λz t r x o l h=>?_))⟩))
   rcases l with⟨d,_⟩|⟨_,e,rfl⟩
   .show(RM.N1 fit d E C (λk R=>by rw[c,XH R]) (by rw[c,XI rfl])).elim
   .show(eH (aH.of h) fT 3#(jK rl (bf _ _ rl (w.trans (j.trans o)))))
  .intro U b;show aR λy A t w=>?_;subst t
   show q b (s.trans (v.trans w))
def CA(t1 B:Addr)(c e:Pos):Sp:=λY H Q _=>∃(o:Addr) (p:Nat) (J:List cU) (m:Nat),∃_:ay p J,Y=[.ref o,.str (iH p J),.int (m:Int)]/\bx H o p J/\m<48#0/\J.length<=9/\H t1=64#(eE (gV "least_ways") c)/\H B=64#(eE (gV "by_length") e)/\p<=6/\
 72#(.bl true)
def OD(x:Str)(Z:List Nat):[V.str x]++15#(Z.map Tx.bM)=15#(x::84#(dH Z)):=by
 have M:84#(dH Z)=Z.map Tx.bM:=by
  unfold dH;rw[YC];show A! λn _=>Tx.kK (a! n)
 rw[M];rfl
def qW:Ok T T.jZ 15 (CA a.aU a.bQ aO bI):=by
 show 2#T.jZ.ok
 .revert h;show qh λA p J m=>az λg U j=>eO λd w R W X q=>?_;subst U
  show ae _ (af (fb (i:=3) v.nd rfl rfl (own:=["tie"]) (fq:=["some"]) (js:=[2]) (dF v) rfl (92#(39#(dm K aZ))) 6#(81#(["tie","some"])) 6#(gu (aD cN (aJ eS (aJ JB bA aZ) av) av (aE _))) 6#(bz gG (by rfl) T.ye ZG (bq aZ)))
   (af (bH 4 v.nd (k6 K (c6 Yl YS YT gm (aC (j6 T) P (bT bA (k6 K (c6 Yl YW YX (iu K) aX (bq (aJ (oM K) (bF (bq aX)) e6)))))) (bq aX))))
   (af (bH 5 v.nd (k6 K (c6 Yl YS YT gm (aC (j6 T) P (bT bA (k6 K (c6 Yl YW YX (iu K) aX (bq (aJ (oM K) (bF (bq aX)) e6)))))) (bq aX))))
   (af (bH 6 v.nd (k6 K (c6 Yl YS YT gm (aC (j6 T) P (bT bA (k6 K (c6 Yl YW YX (iu K) aX (bq (aJ (oM K) (bF (bq aX)) e6)))))) (bq aX))))
   (af (bB (aD gX (cQ cN (qM K jS) aX (aE _)) (cQ cN (qM K vK) aX (aE _)) (aE _)) (ak (aB gW)) aN)
   (af (bB (aD cN (qM K gE) aX (aE _)) (ak (aB (cQ cN (dc (sumK K rfl) (by rfl) T.LV l? (bq (bC (own:=["word"]) (fq:=["web"]) (js:=[0]) (dF v) rfl (kZ K (cz (CP K) gE (cX av) dJ)) 6#(81#(["word","web"])) 42#0 6#(aC (iD T) P (bT bA (52#u6)))))) (aC (iD T) P (bT aZ cT)) (aE _)))) aN)
   (ak (aB gW)))))))) ?_
  show nk ?_;intro b c Y e Vf VW L t;show aA (λc f G C b=>?_) (id j.ex)
  have l:=b.length;have n:aV (m:Int)=(16#J.length).filter λk=>7#0:=eM d
  have s:=OB d;have r:27#(aV (m:Int))<=10:=by
   rw[n];show XY (Yg ..) (by rw[Yh];lia)
  have U:orM ((dH (aV (m:Int))).map Int.toNat)=m:=(Yq orM (yu _)).trans (OA d);show 14#(cR (aY.of G) fT (k7 rl (.inr (aY.of C)) 70#57#(λD c=>ee (lo:=0) (m:=(19#f.length).toNat) (λi I O=>aj H O/\10#O/\I=15#(((16#i).filter λk=>7#0).map Tx.bM)) (82#c) (λi I O _ z=>⟨z.2.1,?_⟩) (50#(by lia)) ?_ ?_)))
  .rw[z.2.2,XG,XG];show XY (Yg _ _) (by rw[Yh];show XJ _)
  .intro i I O F;show c5 λM v b=>?_;subst b
   rw[X3,l]at F;rw[Zg];have e:9#(V.int ((m:Int)/2^((i:Int)).toNat%2)=V.int 1)=m.testBit i:=by
    rw[B?,X3,show((m:Int)/2^i%2)=19#(m/2^i%2) by simp]
    show YN.mpr ⟨λz=>119#(V.int.inj z),λz=>by rw[z];rfl⟩
   show 25#0#(cE ⟨a! i,(cL _ _ rl rl (by change(0:Int)<2;decide) rl (ai rl (?_)))⟩)
   dsimp only;rw[e];cases Z:m.testBit i with
   | true=>show eY (ai rfl (ai rfl (fE (ia (n:=i) (Zy (73#(i<10)) 4#0)) v (M.put c) aa (by rw[Zh,YM,X5,X5,Yr,Z];rfl))))
   | false=>show cH (bh M v (by rw[Zh,YM,Yr,Z];simp))
  .intro I O;show c5 λM v b=>?_;subst b
   rw[X3,l,<-n]at v;have n:∀{x:Str},x="even"\/x="cut"\/x="odd"->gr J.length x (dH (aV (m:Int))):=λh=>.gU h s r
   have b:(20000:Nat)<sizeLine:=by decide
   have Dg:∀x,33#([V.str x].length+(15#((aV (m:Int)).map Tx.bM)).length):=λx=>by
    rw[XG,XG];show 50#(by change 1+_<=1000;lia)
   have P:∀{x:Str} {l:Addr} {N:Hp},η N l 28#([V.str x]++15#((aV (m:Int)).map Tx.bM)) l=1#(15#(x::84#(dH (aV (m:Int))))):=λ{x l N}=>aa.trans (Yq (λz=>some (HO.lst z)) (OD x _))
   change t _ [some (.ref A),some (.str (iH p J)),44#(m:Int),some (.ref D),none,none,none] O;show(ai rfl (bh rfl (dl rfl) (λC c=>(ai rfl (fj C D (aQ _ _ rfl rfl (aH.of aa) 45#(aj.new c _ _ v) (Dg _) λF B=>bS _ F _ rfl rfl (aH.of P) (uW (q:=("even",dH (aV (m:Int)))) (n (.inl rfl)) w) ?_))))))
   have b:=(aj.new (o:=.lst [.str "even"]) c).trans (aj.new (o:=.lst ([.str "even"]++15#((aV (m:Int)).map Tx.bM))) B);show dU p J ("even",dH (aV (m:Int))) (au g rfl w (fE (n (.inl rfl)) ((M.trans b) _ _ R) ((M.trans b) _ _ W) X λG r u s Q=>?_))
   have f:=mY (q:=("even",dH (aV (m:Int)))) (n (.inl rfl)) Q;show 25#(aQ _ " " rfl rfl (11#0) (by lia) (by rw[f];have:=iW s;lia) λl E=>?_)
   rw[f];have t:=(b.trans u).trans (aj.new (o:=.lst (G.map V.str)) E);have H:=t _ _ v;have h:η r l 28#(G.map V.str) l=1#(G.map V.str):=aa;have N:=M.trans t;clear t;generalize η r l 28#(G.map V.str)=y at N H h;clear u s f b c;change L _ [some (.ref A),some (.str (iH p J)),44#(m:Int),some (.ref D),some (.ref l),none,none] y;show(ai rfl (bh rfl (dl rfl) (λC c=>(ai rfl (fj C D (aQ _ _ rfl rfl (aH.of aa) 45#(aj.new c _ _ H) (Dg _) λF B=>bS _ F _ rfl rfl (aH.of P) (uW (q:=("cut",dH (aV (m:Int)))) (n (.inr (.inl rfl))) w) ?_))))))
   have b:=(aj.new (o:=.lst [.str "cut"]) c).trans (aj.new (o:=.lst ([.str "cut"]++15#((aV (m:Int)).map Tx.bM))) B);show dU p J ("cut",dH (aV (m:Int))) (au g rfl w (fE (n (.inr (.inl rfl))) ((N.trans b) _ _ R) ((N.trans b) _ _ W) X λy r u s O=>?_))
   have f:=mY (q:=("cut",dH (aV (m:Int)))) (n (.inr (.inl rfl))) O;show 25#(aQ _ " " rfl rfl (11#0) (by lia) (by rw[f];have:=iW s;lia) λDc E=>?_)
   rw[f];have t:=(b.trans u).trans (aj.new (o:=.lst (y.map V.str)) E);have M:=t _ _ H;have L:η r Dc 28#(y.map V.str) Dc=1#(y.map V.str):=aa;have h:=t _ _ h;have S:=N.trans t;clear t;generalize η r Dc 28#(y.map V.str)=N at S M L h;clear u s f b c;change VW _ [some (.ref A),some (.str (iH p J)),44#(m:Int),some (.ref D),some (.ref l),38#Dc,none] N;show(ai rfl (bh rfl (dl rfl) (λC c=>(ai rfl (fj C D (aQ _ _ rfl rfl (aH.of aa) 45#(aj.new c _ _ M) (Dg _) λF B=>bS _ F _ rfl rfl (aH.of P) (uW (q:=("odd",dH (aV (m:Int)))) (n (.inr (.inr rfl))) w) ?_))))))
   have b:=(aj.new (o:=.lst [.str "odd"]) c).trans (aj.new (o:=.lst ([.str "odd"]++15#((aV (m:Int)).map Tx.bM))) B);show dU p J ("odd",dH (aV (m:Int))) (au g rfl w (fE (n (.inr (.inr rfl))) ((S.trans b) _ _ R) ((S.trans b) _ _ W) X λB r u s N=>?_))
   have f:=mY (q:=("odd",dH (aV (m:Int)))) (n (.inr (.inr rfl))) N;show 25#(aQ _ " " rfl rfl (11#0) (by lia) (by rw[f];have:=iW s;lia) λC E=>?_)
   rw[f];have t:=(b.trans u).trans (aj.new (o:=.lst (B.map V.str)) E);have n:=t _ _ M;have F:η r C 28#(B.map V.str) C=1#(B.map V.str):=aa;have h:=t _ _ h;have L:=t _ _ L;have E:=S.trans t;clear t;generalize η r C 28#(B.map V.str)=t at E n F h L;clear u s f b c;have P:yq p J g (orM ((dH (aV (m:Int))).map Int.toNat)) G:=Q;have s:IY p J g (orM ((dH (aV (m:Int))).map Int.toNat)) y:=O;have f:I2 p J g (orM ((dH (aV (m:Int))).map Int.toNat)) B:=N;rw[U]at P s f;clear Q O N v H M n;have G:∀k,k<g.N.n->0<=di J k:=λk R=>by
    have:=(g.gU _ (eZ R)).l0;unfold di
    lia
   change Vf _ [some (.ref A),some (.str (iH p J)),44#(m:Int),some (.ref D),some (.ref l),38#Dc,some (.ref C)] t;have v:∃(b:Bool) (r:List Str) (x:Str) (k:List Str),y=("cut":Str)::(if b then("yes":Str) else("no":Str))::r/\B=("odd":Str)::x::k/\9#(V.str x=V.str "none")=b:=by
    rcases s with⟨c,rfl⟩|⟨y,w,W,rfl⟩
    .rcases f with⟨_,rfl⟩|⟨e,B,k,n,rfl⟩
     .show fj true _ (ao _ _ rl rl (e5 rl))
     .rw[c,RM.Nh B.2.1]at n;cases n
    .rcases f with⟨u,rfl⟩|⟨e,_,_,_,rfl⟩
     .obtain⟨Z,X⟩:=RM.cY.mp w;rw[RM.Bh G u (RM.qF Z X) (RM.ku Z)]at W;cases W
     .show fj false _ (ao _ _ rl rl (fW (Jb e)))
   revert v;show eu λb=>cy λr x k c e Z=>?_;subst c e
   have c:9#(V.str (if b then("yes":Str) else("no":Str))=V.str "yes")=b:=by cases b<;>decide +kernel
   show 14#(eH (aH.of L) fT ⟨rfl,?_⟩);rw[c];show 14#(eH (aH.of F) fT ⟨rfl,?_⟩);rw[Z];show 3#(jK rl ?_);clear Z c L F;change Y _ [some (.ref A),some (.str (iH p J)),44#(m:Int),some (.ref D),some (.ref l),38#Dc,some (.ref C)] t;rcases P with⟨x,rfl⟩|⟨B,rfl,r,n,sm⟩
   .show(ai rfl (eH (aH.of h) fT 25#(ai rfl (gf (λz=>nomatch (show V.str "no"=V.str "yes" from z)) (q t E)))))
   show 14#(eH (aH.of h) fT 3#(lN rl ?_));show(0#(ao l _ rl (aH.of h) (λc L=>?_)))
   rw[show gw (15#(("even":Str)::("yes":Str)::B.map cI)) (some 2) none=15#(B.map cI) from Ab _ 2]
   have w:aj t (η t c 28#15#(B.map cI)):=aj.new L;have e:η t c 28#15#(B.map cI) c=1#(15#(B.map cI)):=aa;have w:=E.trans w;generalize η t c 28#15#(B.map cI)=l at w e;have k:(15#(B.map cI)).length=B.length:=by rw[XG,XG]
   show au c rl 20#e λX h=>bw (K:=K) (a:=c) (xs:=15#(B.map cI)) (oU (υ J) B l X) (.start h) (λi I f _ b=>⟨aH.of (b.1 _ _ e),b.len⟩) (bY (by rw[k];show n)) ?_ ?_
   .intro i y I f W b;rw[XQ,XQ]at W;show ah (λu c e=>?_) (m3.mp W);subst e
    show ah (λn i e=>?_) (m3.mp c);subst e
    obtain⟨l,s⟩:=r n (fC i);show 25#0#(cS n rl (rK g l) s (λe c=>fj A p (aM J _ rl (j.same ((w.trans b.1).trans c)) g.vH (au n rl l λt r=>b.next h (c.trans r) i rl))))
   .intro I f b;rw[k]at b;show fj X _ (bj rl (aH.of b.fin) _ rl 14#(fj A p (aM J _ rl (j.same (w.trans b.1)) g.vH (au m rl d λe c=>⟨rfl,?_⟩))))
    rw[e5 (Yq V.int sm)];show q e ((w.trans b.1).trans c)
theorem GX(b:Str):∀{l:List Str},l≠[]->∀r,Str.join b (Str.join b l::r)=Str.join b (l++r)
 | [],h,_=>absurd rfl h
 | [y],_,[]=>rfl
 | [y],_,u::r=>rfl
 | y::z::l,_,[]=>by rw[YU];rfl
 | y::z::l,_,u::r=>by
   have O:=GX b (l:=z::l) 21#0 (u::r)
   change(y++b++Str.join b (z::l))++b++Str.join b (u::r)=y++b++Str.join b ((z::l)++u::r);rw[<-O];change _=y++b++(Str.join b (z::l)++b++Str.join b (u::r));simp only[PySem.Str.append_assoc]
theorem ve{p:Nat}{J:List cU}{g:ay p J}:∀{rs:List Str} {as:List Ask},Paired (λt q=>wz p J g q t) rs as->∃d:List (List Str),rs=d.map (Txt.join " ")/\Paired (λl q=>27#(Txt.join " " l)<=20000/\ER p J g q l) d as
 | _,_,.nil=>ae [] rfl .nil
 | _,_,.cons ⟨l,e,S,P⟩ pr=>by
   show ah (λd U b=>?_) (ve pr);subst U
   show ae (l::d) (by rw[e];rfl) (.cons ⟨by rw[<-e];show S,P⟩ b)
def nM:List Ask:=[("lengths",[]),("base",[]),("forests",[])]
def j7:List Str:=["lengths","base","forests"]
def yw:nM.map we=j7:=11#0
def MA(p:Nat)(J:List cU):Txt.join "\n" (iH p J::(j7++j7))=j5 p J (nM++nM):=by
 unfold j5 jv;rw[show ∀l,Txt.join "\n" l=Str.join "\n" l from λl=>Yw _ _,show ∀l,Txt.join "\n" l=Str.join "\n" l from λl=>Yw _ _,show iH p J=Str.join "\n" (p9 p J) from Yw _ _,X5,yw]
 show GX _ (by simp[p9]) _
def mZ(n:Nat):∀q∈nM,gr n q.1 q.2:=by
 unfold nM;simp only[XS,ZF,or_false];rintro q (rfl|rfl|rfl)
 .show .bare (.inl rl)
 .show .bare (.inr (.inl rl))
 .show .bare (.inr (.inr rl))
def wordsOf(p:Nat)(J:List cU)(g:ay p J)(rs:List Nat):List (List Str):=[("lengths":Str)::84#(rs.map (υ J)),("base":Str)::rs.map cI,[("forests":Str),Tx.bN (O9 p J g)]]
def ig{p:Nat}{J:List cU}{g:ay p J}{rs:List Nat}(F:iz p J g rs){i:Nat}{q:Ask}{l:List Str}(b:nM[i]?=some q)(h:ER p J g q l):(34#g)[i]?=some l:=by
 match i,b with
 | 0,b =>
   cases b;obtain⟨c,a,rfl⟩:yo p J g l:=h;rw[a.one F];rfl
 | 1,b =>
   cases b;obtain⟨c,a,rfl⟩:Ct p J g l:=h;rw[a.one F];rfl
 | 2,b =>
   cases b;obtain rfl:l=_:=show Ms p J g l from h
   rfl
 | i+3,b=>cases b
def Ji{p:Nat}{J:List cU}{g:ay p J}{e:List Str}(h:Paired (λt q=>wz p J g q t) e (nM++nM)):∃rs,iz p J g rs/\e=((34#g)++(34#g)).map (Txt.join " ")/\∀l∈34#g,l≠[]/\(∀s∈l,ly s)/\27#(Txt.join " " l)<=20000:=by
 show ah (λd f a=>?_) (ve h);subst f
 cases a with | cons q0 a =>
 cases a with | cons q1 a =>
 cases a with | cons q2 a =>
 cases a with | cons q3 a =>
 cases a with | cons q4 a =>
 cases a with | cons q5 a =>
 cases a;obtain⟨rs,F,_⟩:yo p J g _:=q0.2;have U:=13#(ig F (i:=0) rl q0.2);have j:=13#(ig F (i:=1) rl q1.2);have D:=13#(ig F (i:=2) rl q2.2);have E:=13#(ig F (i:=0) rl q3.2);have y:=13#(ig F (i:=1) rl q4.2);have B:=13#(ig F (i:=2) rl q5.2);subst U j D E y B;show au rs F rl ?_;have b:=qe (mZ 0 _ (fC (i:=0) rl)) q0.2;have Z:=qe (mZ 0 _ (fC (i:=1) rl)) q1.2;have X:=qe (mZ 0 _ (fC (i:=2) rl)) q2.2;intro l c;simp only[wordsOf,XS,ZF,or_false]at c;rcases c with rfl|rfl|rfl
 .show bh b.1 b.2 q0.1
 .show bh Z.1 Z.2 q1.1
 .show bh X.1 X.2 q2.1
def OE{l:List Str}(h:∀s∈l,78#s):78#(Txt.join " " l):=by
 have k:∀s:Str,78#s↔∀c∈s.cps.toList,78#⟨#[c]⟩:=λs=>by
  unfold PyData.strOk;rw[<-z?,Zl];simp
 rw[k,show Txt.join " " l=Str.join ⟨#[32]⟩ l by rw[<-Cn];show Yw _ _,Tx.ff]
 intro c L;rcases mV L with rfl|⟨q,T,L⟩
 .decide +kernel
 .show ah (λs W C=>?_) (XT.mp T);subst C
  show(k s).mp (h s W) c L
def EV(z:Int):78#(Tx.bN z):=by
 unfold PyData.strOk;rw[<-z?,Zl];intro c L;have:=Tx.int_sign L;show e5 (by lia)
def OF(m:Nat):78#(cI m):=by
 unfold PyData.strOk;rw[<-z?,Zl];intro c L;have:=mX L;show e5 (by lia)
theorem CB{K:b7}{H:Hp}:∀l:List Str,DatVs K H (l.map V.str) (l.map PyData.str)
 | []=>.nil
 | x::r=>.cons (.str x) (CB r)
def ik{K:b7}{H:Hp}{L:Addr}{l:List Str}(h:H L=1#(l.map V.str))(B:∀s∈l,78#s):jC K H (.ref L) (.list (l.map PyData.str))/\99#(.list (l.map PyData.str))/\PyData.eqv (.list (l.map PyData.str)) (.list (l.map PyData.str))=true:=by
 have a:Fl 1 (.list (l.map PyData.str)):=.list λd j=>by
  show ah (λs W r=>?_) (XT.mp j);subst r
  show .str (B s W)
 show bh (.lst (aH.of h) (CB l)) (a.shaped 4#0) (SeqAt.eqv_refl _ a.1)
def MB{p:Nat}{J:List cU}{g:ay p J}{rs:List Nat}:∀s∈(34#g).map (Txt.join " "),78#s:=λs W=>by
 show 75#(λd c e=>?_);subst e
 have b:PyData.strOk "lengths"=true/\PyData.strOk "base"=true/\PyData.strOk "forests"=true:=11#0
 have a:∀{w:Str} {l:List Str},78#w->(∀s∈l,78#s)->∀s∈w::l,78#s:=λj h s W=>by
  rcases XS.mp W with rfl|W
  .show j
  .show h s W
 show OE ?_;simp only[wordsOf,XS,ZF,or_false]at c;rcases c with rfl|rfl|rfl
 .show a b.1 λs W=>?_
  show 75#(λz _ Z=>?_);subst Z
  show EV z
 .show a b.2.1 λs W=>?_
  show 75#(λr _ y=>?_);subst y
  show OF r
 .show a b.2.2 λs W=>?_
  rw[XU.mp W];show EV _
def CC{z:Int}(h:z.natAbs<10^60):Txt.join " " [("forests":Str),Tx.bN z]="forests 1"↔z=1:=by
 have b:ly "forests"/\ly "1":=by unfold ly;decide +kernel
 have e:("forests 1")=Txt.join " " [("forests"),Tx.bN 1]:=11#0
 constructor
 .intro q;rw[e]at q;have a:∀z:Int,Txt.split (Txt.join " " [("forests"),Tx.bN z]) " "=[("forests":Str),Tx.bN z]:=λz=>iU 21#0 (cA b.1 λs W=>by rw[XU.mp W];show sF _)
  have q:=Yq (λt=>Txt.split t " ") q
  rw[a,a]at q;injection q with _ q
  injection q with q _
  have B:=Tx.o7 h;rw[q,Tx.o7 4#0]at B
  show(13#B).symm
 .rintro rfl;show e.symm
def MC{ns:List Int}{lo F:Option Int}:∃l:List Int,gw (ns.map V.int) lo F=l.map V.int/\l.length<=ns.length:=KS ns lo F
def OG(y:Int){k m:Nat}(h:k=m):0<1*(2:Int)^((k:Nat):Int).toNat/\∃x:Nat,y%(1*2^((k:Nat):Int).toNat)=(x:Int)/\x<2^m:=by
 subst h;have e:(1*2^((k:Nat):Int).toNat)=19#(2^k):=by rw[X3,ZY,Int.natCast_pow];rfl
 rw[e];have p:(0:Int)<19#(2^k):=Int.natCast_pos.mpr (Nat.pow_pos 4#0)
 obtain⟨J,G⟩:=jM y _ p;obtain⟨x,B⟩:=X! J;show bX p x B (by lia)
def Ac(K:b7)(tb:D0):Sp:=53#(∃(a:Addr) (o:List Int),Y=[.ref a]/\aH K H a (o.map V.int)/\o.length<=63/\TabsAt tb H/\∀M,Q (.bl true) M)
def SR:Ok T T.O8 17 (Ac K [(a.bQ,gV "by_length",bI),(a.aU,gV "least_ways",aO)]):=by
 show 2#T.O8.ok
 .revert h;show eX λb ns d U c t fin=>?_;subst d
  have Mv:=t _ X0;have N9:=t _ (nc _ X0);show ae _ (af (e9 (i:=1) v.nd rl (Or.inr rl) (aC (Jh T) P (bT aZ av)))
   (af (e9 (i:=2) v.nd rl (Or.inr rl) (aC (EH T) P (bq bA)))
   (af (bH 3 v.nd (bF (bU aX (bT aX aX))))
   (af (bH 4 v.nd (k6 K (c6 Yl YS YT gm (aC (u4 T) P (bq (k6 K (c6 Yl YW YX (iu K) aX (bq (aJ (oM K) (aJ (oM K) (bF (bq cT)) e6) e6)))))) (bq aX))))
   (af (bB (PW.pt (iI (aD (qo K P.units) (cz (CP K) gE dJ (cX av)) (cz (CP K) gE (cX av) dJ) (aE _)) (gv (aD (qo K P.units) (cz (CP K) gE dJ (cX av)) (bC (own:=["asked"]) (js:=[2]) (dF v) rfl (kZ K e6) 6#(81#(["asked","text"])) 42#0 6#(aC (j6 T) P (bT bA aZ))) (aE _))))) (ak (aB gW)) aN)
   (af (bH 5 v.nd (cz (CP K) (k6 K (c6 Yl YS YT gm (qM K gE) (bq aX))) (cX av) dJ))
   (af (bH 6 v.nd (cz (CP K) (k6 K (c6 Yl YS YT gm (qM K gE) (bq aX))) (cX av) dJ))
   (af (bB (PW.pt (iI (aD gX (39#jS) (aC (zG T) P (bq bA)) (aE _)) (gv (aD gX (39#vK) (aC (zG T) P (bq bA)) (aE _))))) (ak (aB gW)) aN)
   (af (bB (aD (qo K P.units) (bC (own:=["word"]) (js:=[1]) (dF v) rfl (kZ K vK) 6#(81#(["word","web"])) 42#0 6#(bz gG (by rfl) T.ye ZG (bq (aC (iD T) P (bT bA (52#u6)))))) jS (aE _)) (ak (aB gW)) aN)
   (af (bB (aD gX (cQ cN (qM K gE) aX (aE _)) (cQ cN (aC (zG T) P (bq bA)) av (aE _)) (aE _)) (ak (aB gW)) aN)
   (af (fb (i:=7) v.nd rfl rfl (own:=["k"]) (js:=[0]) (dF v) rfl (92#(dm K bA)) 6#(81#(["k","script"])) 42#0 6#(aJ gZ (aJ eS (aC (u5 T) P (bT (aC (oh T) P (bT bA (aJ fF av aZ))) av)) av) av))
   (af (dw PassesOwn.never rl (kZ K (aJ (oM K) (cz (CP K) aZ dJ (cX av)) (bF (bq av)))) (bu 8 v.nd)
   (ak (bB (iY (fy (aC (qW T) P (bU bA (bT cT (aJ eS Ti (aJ jA av (39#(dm K bA))))))))) (ak (aB gW)) aN)))
   (ak (aB (aC (m8 T) P (bU bA (bT cT Js))))))))))))))))) ?_
  show QZ ?_;intro d e q n r t u v w x f g i j k l m p;have d:33#(200000:Nat):=by decide
  show 14#(bS b ns 7 rl U c 4#0 (λP p J N w g Q d j=>?_))
  have Y:J.length<=9:=by lia
  show(ai rl ⟨P,(aM p J rl j g λO M=>24#(λL c=>?_))⟩)
  have k:aj O (η O L (.lst [.str "lengths",.str "base",.str "forests"])):=aj.new c;have d:η O L (.lst [.str "lengths",.str "base",.str "forests"]) L=1#(j7.map V.str):=aa;have l:=j.same (M.trans k);have r:=w.trans (M.trans k);generalize η O L (.lst [.str "lengths",.str "base",.str "forests"])=X at d l r;clear k c M j w;show⟨rfl,ai rfl 24#(λm e=>(ai rfl (fj m L (aQ _ _ rfl rfl (aH.of aa) 45#(aj.new e _ _ d) (dl rfl) λq i=>(ai rfl (fj q L (aQ _ _ rfl rfl (aH.of aa) 45#(aj.new i _ _ (aj.new e _ _ d)) (dl rfl) λn Vk=>?_)))))))⟩
  have c:=(aj.new e).trans ((aj.new i).trans (aj.new (o:=.lst (([.str (iH p J)]++j7.map V.str)++j7.map V.str)) Vk));have j:=GW g Y;show bS _ n (iH p J::(j7++j7)) rl rl (aH.of aa) (ju (λy f=>?_) (by change 7*10000+7*1<=_;decide)) ?_
  .rcases XS.mp f with rfl|f
   .show j
   .have:∀y∈j7++j7,y.length<=10000:=11#0
    show this y f
  rw[MA];have j:=c _ _ d;have k:=l.same c;have c:=r.trans c;show dU p J (nM++nM) (cS g rl Y (show 6<=6 by decide) (fE (λw F=>(Ye.mp F).elim (mZ _ w) (mZ _ w)) (c _ _ N9) (c _ _ Mv) Q λl f d u=>?_))
  have t:=d _ _ j;have v:=k.same d;have d:=c.trans d;clear c j e i Vk k;generalize η (η (η X m (.lst [.str (iH p J)])) q 28#([.str (iH p J)]++j7.map V.str)) n 28#(([.str (iH p J)]++j7.map V.str)++j7.map V.str)=c;show az (λrs N c A=>?_) (Ji u);subst c
  have M:=MB (g:=g) (rs:=rs);have j:∀l∈34#g++34#g,l≠[]/\(∀s∈l,ly s)/\27#(Txt.join " " l)<=20000:=λl h=>(Ye.mp h).elim (A l) (A l)
  have q:Txt.split (Txt.join "\n" ((34#g++34#g).map (Txt.join " "))) "\n"=(34#g++34#g).map (Txt.join " "):=by
   rw[GL];show Tx.kJ (λz=>nomatch z) λs W=>?_
   show 75#(λl c C=>?_);subst C
   show p7 (j l c).2.1
  have Dg:27#(Txt.join "\n" ((34#g++34#g).map (Txt.join " ")))<=200000:=by
   rw[GL];show XY (pZ (B:=20000) λs W=>?_) (by rw[XG];change 6*_<=_;decide)
   show 75#(λl c r=>?_);subst r
   show(j l c).2.2
  show 25#(aQ _ ("\n") rfl rfl (11#0) (by lia) (by rw[q,XG];change 6<=_;lia) λS c=>?_)
  rw[q];have e:aj f (η f S 28#15#((34#g++34#g).map (Txt.join " "))):=aj.new c;have i:η f S 28#15#((34#g++34#g).map (Txt.join " ")) S=1#(15#((34#g++34#g).map (Txt.join " "))):=aa;have m:=e _ _ t;have r:=v.same e;have e:=d.trans e;generalize η f S 28#15#((34#g++34#g).map (Txt.join " "))=k at e i m r;clear q Dg j u t d;have k1:gw (15#((34#g++34#g).map (Txt.join " "))) none (some 3)=15#((34#g).map (Txt.join " ")):=Mz _ 3;have k2:gw (15#((34#g++34#g).map (Txt.join " "))) (some 3) none=15#((34#g).map (Txt.join " ")):=Ab _ 3;show(ai rfl (ai rfl (ao S _ rfl (aH.of i) (λc f=>?_))))
  rw[k1];show(0#(ao S _ rl 45#(aj.new f _ _ i) (λC q=>?_)))
  rw[k2];have d:aj k (η (η k c 28#15#((34#g).map (Txt.join " "))) C 28#15#((34#g).map (Txt.join " "))):=(aj.new f).trans (aj.new q);obtain⟨E,t,G⟩:=ik (aj.new q _ _ (aa)) M;obtain⟨H,_⟩:=ik (aa) M;show ao _ _ E H (bj t t _ rfl ?_);rw[G];show cH ?_;have j:=d _ _ i;have u:=d _ _ m;have v:=r.same d;have x:=e.trans d;clear E H G f q i m r d e;generalize η (η k c 28#15#((34#g).map (Txt.join " "))) C 28#15#((34#g).map (Txt.join " "))=q at j u v x;show(ai rfl (ai rfl (ao S _ rfl (aH.of j) (λc f=>?_))))
  rw[k1];have r:aj q (η q c 28#15#((34#g).map (Txt.join " "))):=aj.new f;have R:η q c 28#15#((34#g).map (Txt.join " ")) c=1#(15#((34#g).map (Txt.join " "))):=aa;have O:=r _ _ j;have C:=r _ _ u;have X:=v.same r;have r:=x.trans r;clear j u v x f;generalize η q c 28#15#((34#g).map (Txt.join " "))=e at r R O C X;show(ai rfl (au L rfl 20#C (λD j=>bw (λi I m=>aj e m/\10#m/\I=15#(((34#g).map (Txt.join " ")).take i)) (bh (aj.new j) aa rfl) (λi I m _ z=>bh 45#(z.1 _ _ C) z.2.1 (by rw[z.2.2,XG,Ym];show Zm _ _)) 4#0 ?_ ?_)))
  .intro i x I m k;show c5 λf q e=>?_;subst e
   rw[<-yw,YC,XQ]at k;show ah (λw F Z=>?_) (m3.mp k);subst Z
   show 25#0#(dU p J w (au g rl Y (fE (mZ _ w (fC F)) ((r.trans f) _ _ N9) ((r.trans f) _ _ Mv) Q λl v u _ c=>f7 (u _ _ q) ((f.trans u).put j) aa ?_)))
   rw[Yc,XQ,ig N F c,X5];rfl
  intro I m;show c5 λf q c=>?_;subst c
  have q:m D=1#(15#((34#g).map (Txt.join " "))):=q;obtain⟨E,t,G⟩:=ik (f _ _ R) M;obtain⟨H,_⟩:=ik q M;show ao _ _ E H (bj t t _ rfl ?_);rw[G];show cH ?_;have F:=f _ _ O;have Z:=X.same f;have f:=r.trans f;clear E H t G q j O X r C R k1 k2;show c5 (λc l e=>?_) (A (("lengths":Str)::84#(rs.map (υ J))) (fC (i:=0) rfl))
  have q:=iW e;have e:=iU c l;show(ai rfl (eH (aH.of F) fY 25#(aQ _ " " rfl rfl (11#0) (by lia) (by rw[e];lia) λc j=>?_)))
  rw[e];have d:aj m (η m c 28#15#(("lengths":Str)::84#(rs.map (υ J)))):=aj.new j;have e:η m c 28#15#(("lengths":Str)::84#(rs.map (υ J))) c=1#(15#(("lengths":Str)::84#(rs.map (υ J)))):=aa;generalize η m c 28#15#(("lengths":Str)::84#(rs.map (υ J)))=l at d e;show(ai rfl (ao c _ rfl (aH.of e) (λLt M=>?_)))
  rw[show gw (15#(("lengths":Str)::84#(rs.map (υ J)))) (some 1) none=15#(84#(rs.map (υ J))) from p5 _ _]
  have d:=d.trans (aj.new (o:=.lst (15#(84#(rs.map (υ J))))) M);have w:η l Lt 28#15#(84#(rs.map (υ J))) Lt=1#(15#(84#(rs.map (υ J)))):=aa;have m:=d _ _ F;have q:=Z.same d;have u:=f.trans d;clear d j e;generalize η l Lt 28#15#(84#(rs.map (υ J)))=v at u w m q;clear M F Z f;show c5 (λr C f=>?_) (A (("base":Str)::rs.map cI) (fC (i:=1) rfl))
  have A:=iW f;have f:=iU r C;show(ai rfl (eH (aH.of m) fT 25#(aQ _ " " rfl rfl (11#0) (by lia) (by rw[f];lia) λc j=>?_)))
  rw[f];have d:aj v (η v c 28#15#(("base":Str)::rs.map cI)):=aj.new j;have e:η v c 28#15#(("base":Str)::rs.map cI) c=1#(15#(("base":Str)::rs.map cI)):=aa;generalize η v c 28#15#(("base":Str)::rs.map cI)=l at d e;show(ai rfl (ao c _ rfl (aH.of e) (λX M=>?_)))
  rw[show gw (15#(("base":Str)::rs.map cI)) (some 1) none=15#(rs.map cI) from p5 _ _]
  have d:=d.trans (aj.new (o:=.lst (15#(rs.map cI))) M);have A:η l X 28#15#(rs.map cI) X=1#(15#(rs.map cI)):=aa;have f:=d _ _ m;have w:=d _ _ w;have c:=q.same d;have r:=u.trans d;clear d j e;generalize η l X 28#15#(rs.map cI)=d at r A f c w;clear M m q u;have d:=N.bs.len;have Xn:=N.bs.ring;have q:=mz g N.bs;show 14#(k7 rl (101#w) 70#(dU P p J (au g rl c λl e=>3#(jK (by rw[XG,XG,XG,d]) ?_))))
  have l:=c.same e;have A:=e _ _ A;show 14#(k7 rl (101#A) 70#(dU P p J (au g rl l λm N=>3#(jK (by rw[XG,XG,d]) ?_))))
  have A:=N _ _ A;have d:=e.trans N;have w:=d _ _ w;have SS:=d _ _ f;have Z:=l.same N;have N:=r.trans d;clear c l d f r e;show 14#(au X rl 20#A (λD j=>bw (λi I O=>aj m O/\10#O/\I=15#(84#((rs.take i).map (υ J)))) (82#j) (λi I O _ z=>bh 45#(z.1 _ _ A) z.2.1 (by rw[z.2.2,XG,XG,XG,Ym];show Zm _ _)) (bY (by rw[XG,XG];show q)) ?_ ?_))
  .intro i x I O k;show c5 λv R l=>?_;subst l
   rw[XQ,XQ]at k;show ah (λu f C=>?_) (m3.mp k);subst C
   show ah (λr m c=>?_) (m3.mp f);subst c
   obtain⟨F,d⟩:=Xn r (fC m);show⟨rfl,0#(cS r rl (rK g d) F.1 (λl u=>fj P p (aM J _ rl (Z.same (v.trans u)) g.vH (au r rl d λq e=>14#(fE (yp g d) ((u.trans e) _ _ R) ((v.trans (u.trans e)).put j) aa ?_)))))⟩
   rw[Yc,m,Zr,X5,X5,X5];rfl
  intro I O;show c5 λv R c=>?_;subst c
  rw[XG,XG,Yb]at R;have d:∀s∈84#(rs.map (υ J)),78#s:=λs W=>by
   show 75#(λz _ f=>?_);subst f
   show EV z
  obtain⟨E,t,G⟩:=ik R d;obtain⟨H,_⟩:=ik (v _ _ w) d;show(ai rfl (ao _ _ E H (bj t t _ rfl ?_)));rw[G];show cH ?_;have f:=v _ _ SS;have c:=Z.same v;have v:=N.trans v;clear E H t G R j SS Z N w A d;have R:9#(V.str (Txt.join " " [("forests":Str),Tx.bN (O9 p J g)])=V.str "forests 1")=9#(g.N.bZ=[]):=YN.mpr ⟨λz=>(Mu g).mp ((CC (GV g Q).2.2).mp (V.str.inj z)),λz=>Yq V.str ((CC (GV g Q).2.2).mpr ((Mu g).mpr z))⟩
  have d:9#(V.int (g.N.bZ.length:Int)=V.int 0)=9#(g.N.bZ=[]):=YN.mpr ⟨λz=>R! (119#(V.int.inj z)),λz=>by rw[z];rfl⟩
  show 14#(eH (aH.of f) (aG rl) ⟨rfl,?_⟩);rw[R];show 14#(dU P p J (au g rl c λl u=>⟨rfl,?_⟩))
  rw[d];show 3#(jK rl ?_);have s:=c.same u;have u:=v.trans u;clear R d f c v;show aA (λH f G C m=>?_) (id s.ex)
  have E:=m.length;have c:=g.p1;show 14#(cR (aY.of G) fY 70#57#(λD j=>ee (λi I q=>aj l q/\10#q/\∃W:List Int,I=aK W/\W.length=i/\∀z∈W,z.natAbs<=1000) (bh (aj.new j) aa (au [] rl rl (λ_ h=>nomatch h))) (λi I q _ z=>⟨z.2.1,?_⟩) (50#(by lia)) ?_ ?_))
  .show az (λW r h _=>?_) z.2.2;subst r
   unfold aK;rw[XG,h];show XJ _
  .intro i I q F;show c5 λe r=>az λW d h Z=>?_;subst d
   rw[Zg];show 25#0#(cE ⟨b,(ao ns (3+i) rl ((u.trans e).seq U) λz=>bf z 14 rl λy c l=>(cE ⟨(by change(0:Int)<50;decide),cE ⟨r,e.put j,aa,W++[y%50-25],?_,by rw[XR,h];rfl,λx k=>?_⟩⟩))⟩)
   .unfold aK;rw[X5];rfl
   .rcases Ye.mp k with k|k
    .show Z x k
    .rw[XU.mp k]
     lia
  rintro I q ⟨e,r,W,rfl,h,Z⟩;rw[X3]at h;have A:=s.same e;have e:=u.trans e;clear s u j G C m;obtain⟨n,d,Vk⟩:=MC;show(0#(ao b _ rl (e.seq U) (λc M=>?_)))
  rw[d];have u:aj q (η q c 28#(n.map V.int)):=aj.new M;have s:η q c 28#(n.map V.int) c=1#(n.map V.int):=aa;generalize η q c 28#(n.map V.int)=v at u s;show 24#(λl q=>fj c l (aQ _ _ rl rl 45#(aj.new q _ _ s) (aH.of aa) ?_ λF y=>?_))
  .rw[XG];show 50#(by change _+1<=1000;lia)
  rw[show n.map V.int++[V.int 0]=(n++[0]).map V.int by rw[X5];rfl]
  have c:=u.trans ((aj.new q).trans (aj.new (o:=.lst ((n++[0]).map V.int)) y));have d:η (η v l (.lst [.int 0])) F 28#((n++[0]).map V.int) F=1#((n++[0]).map V.int):=aa;have w:=c _ _ r;have t:=A.same c;have j:=e.trans c;clear c u s M r A e;generalize η (η v l (.lst [.int 0])) F 28#((n++[0]).map V.int)=r at d w t j;clear q y;show au F rl 20#d (fQ (λi U c=>∃e,U=[some (.ref b),some (.ref P),some (.str (iH p J)),some (.ref L),some (.ref S),38#Lt,some (.ref X),some (.ref D),e]/\aj r c) (ae none rl (aj.refl _)) (by intro i U c _;show ah λ_ _ z=>?_;show aH.of (z _ _ d)) ?_ ?_)
  .intro i x d U c k;show ah λe b u=>?_;subst b
   rw[XQ]at k;show ah (λz d b=>?_) (m3.mp k);subst b
   have i:=t.same u;have k:=j.trans u;show aA (λH f G C m=>?_) (id i.ex)
   have E:=m.length;show bE (λb m d r=>?_) (OG z E)
   show(0#14#(ai rl (cR (aY.of G) fT (k7 rl (.inr (aY.of C)) (cE ⟨57#4#0,cE ⟨b,?_⟩⟩)))))
   dsimp only;rw[d];show jw P p J m (cS g rl i r (fE Y (k _ _ N9) (k _ _ Mv) Q λb d=>14#(cH 70#(u.trans d))))
  .intro U c;show ah λe d u=>?_;subst d
   show(0#(ai rl ⟨P,(jw D p J W (ae g rl (fE (t.same u) (u _ _ w) h Z (fE Y ((j.trans u) _ _ N9) ((j.trans u) _ _ Mv) Q λb _=>fin b))))⟩))
end
section
variable {l:PySem.W.OpenLaw}{w:World}{K:b7}{h:Heap}{mg:vy}{fa Vl V3 Tv V4 V5 V6 V7 V8 V9 Wa Tw fN cF qf fV nN fu:Addr}{Wb Xo XF Xp:FuncData}{ts:List Addr}{wA CD Jj vf Jk:Tok}
open PySem.W
def all_mk(X:K.In h)(G:h.Ns mainGlobals mg)(g:mg "law"=38#fa)(te:ts=[fu,fV])
 (A:nsIn K mainGlobals "RingError"=some (38#fN))
 (t:nsIn K mainGlobals "NotEven"=some (38#cF))
 (EW:findIn K (.ref cF) "__getattribute__"=91#(.builtin "BaseException.__getattribute__")) (EX:findIn K (.ref cF) "__getattr__"=some none)
 (EY:findIn K (.ref cF) "__class__"=91#(.builtin "object.__class__")) (EZ:specialIn K (.builtin "object.__class__") "__get__"=91#(.builtin "getset_descriptor.__get__"))
 (N:takesIn K (.builtin "object.__class__")=some true) (E1:mroIn K cF (.type "object")=some true) (E2:hasDictIn K cF=true) (E3:mroIn K cF (.type "BaseException")=some true)
 (xc_RingError:excIn K fN AZ "ValueError.__new__"=true)
 {oc kV b e cd ct k:Value} {m C o:114#0} {O MX:Array (Option Value)} {T:Addr} {D:Tok} {d:Nat}
 (fn:nsIn K mainGlobals "heights_of"=some (38#Tv)) (a:K.lookup Tv=some ⟨oc,m,.func (fnOf "heights_of" "heights_of" (dZ fU) (cg fU) (aP fU) (.ref T) kV b e C cd ct),O⟩) (x:K.lookup T=some ⟨k,o,.seq #[.int 0 D] d,MX⟩) (fc:codeIn K cd "heights_of"=true) (fk:keepIn K (.ref Tv)=true)
 {CF E4:Str} {E5:Addr} {CG Ad:62#0} {CH CI:Bool} {CJ:List Str} {Ae:Option Bool} {U:114#0} {CK CL CM CN W:Option Value}
 (h7:findIn K (.ref cF) "__init__"=some (38#Tw)) (E6:isFn K (.ref Tw)=true) (I:Hh K "__init__" "NotEven.__init__" i8 Tw Xp)
 (E7:K.lookup cF=some (excClassObj CF E4 cF E5 CG (.ref fN::AZ) CH CJ Ad CI Ae U CK CL CM CN W "ValueError.__new__")) (E8:keepIn K (.ref cF)=true)
 (E9:findIn K (.ref cF) "__setattr__"=91#(.builtin "object.__setattr__")) (Fb:takerIn K cF "point"=some none) (Fc:hasDictIn K cF=true) (Fd:findIn K (.ref cF) "point"=some none)
 (Fe:readsIn K fN (.type "type")=true) (Ff:findCls K (.ref fN) (.type "type") "__init__"=some (.val (.builtin "ValueError.__init__"))) (Fg:specialIn K (.ref fN) "__getattribute__"=91#(.builtin "type.__getattribute__"))
 (nt:noTabs K=true) (pn:([fV,fu]:List Addr).Nodup) (pi:∀p∈([fV,fu]:List Addr),p∈ts)
 (H:Th K (vq (top 40)) (top 40) Vl Wb qf fV)
 (F:Th K (vq (top 53)) (top 53) V3 Xo nN fu)
 (tb:Ef K top [15,16,17,18,19,20,21,22,23,24,25,26,27,28,30,31,32,33,34,35,36,38,39,41,42,43,44,46,47,48,49,50,52,54,55,57,58,59,60,62,63,64,65,66,67,68,69,71,72,73,75,76,77,79,80,81,82,83,90,91,92,93,94,95,96,97,98,99,100,102,103,104,105,106,107,108,109,111,113,114,115,116,117,118,119,120,121,122])
 (n:nsIn K mainGlobals "lengths_row"=some (38#V4))
 (S:nsIn K mainGlobals "base_row"=some (38#V5))
 (Xq:nsIn K mainGlobals "even_row"=some (38#V6))
 (Xr:nsIn K mainGlobals "cut_row"=some (38#V7))
 (Xs:nsIn K mainGlobals "odd_row"=some (38#V8))
 (Xu:nsIn K mainGlobals "heights_row"=some (38#V9))
 (Q:nsIn K mainGlobals "forests_row"=some (38#Wa))
 (Af:Ng K "ValueError")
 (SV:Ng K "all")
 (P:Ng K "enumerate")
 (SW:Ng K "int")
 (SX:Ng K "len")
 (Rf:Ng K "list")
 (SY:Ng K "max")
 (M:Ng K "min")
 (OH:Ng K "range")
 (MD:Ng K "sorted")
 (S0:Ng K "str")
 (S1:Ng K "sum")
 (OI:Ng K "tuple")
 (S2:Ng K "zip")
 (wB:nsIn K mainGlobals "MOST_POINTS"=91#(.int 10 wA))
 (CO:nsIn K mainGlobals "MOST_TIES"=91#(.int 24 CD))
 (Jl:nsIn K mainGlobals "LONGEST"=91#(.int 1000000000000000000000000000000 Jj))
 (vg:nsIn K mainGlobals "MOST_FIGURES"=91#(.int 60 vf))
 (Y:nsIn K mainGlobals "FIGURES"=91#(.str "0123456789" Jk))
 {q:Addr} {wC:114#0} {wF:Nat} {wG:Array (Option Value)} {vh vj vm:Tok}
 (Ag:nsIn K mainGlobals "BARE_WORDS"=91#(.ref q))
 (Z:K.lookup q=some ⟨.type "tuple",wC,.seq #[.str "lengths" vh,.str "base" vj,.str "forests" vm] wF,wG⟩)
 {j:Addr} {wH:114#0} {wI:Nat} {L:Array (Option Value)} {vn vo vp:Tok}
 (R:nsIn K mainGlobals "TIES_WORDS"=91#(.ref j))
 (wJ:K.lookup j=some ⟨.type "tuple",wH,.seq #[.str "even" vn,.str "cut" vo,.str "odd" vp] wI,L⟩)
 {i:Addr} {OJ:Nat} {y B u z E r J:Tok}
 (Rg:nsIn K mainGlobals "ROWS"=91#(.ref i))
 (OL:K.lookup i=some ⟨.type "dict",none,.dict #[⟨PyData.keyHash w.params "lengths",.str "lengths" y,.ref V4⟩,⟨PyData.keyHash w.params "base",.str "base" B,.ref V5⟩,⟨PyData.keyHash w.params "even",.str "even" u,.ref V6⟩,⟨PyData.keyHash w.params "cut",.str "cut" z,.ref V7⟩,⟨PyData.keyHash w.params "odd",.str "odd" E,.ref V8⟩,⟨PyData.keyHash w.params "heights",.str "heights" r,.ref V9⟩,⟨PyData.keyHash w.params "forests",.str "forests" J,.ref Wa⟩] OJ,#[]⟩)
 (hy_NotEven:exmOne K (.ref cF) (.ref cF)=some true)
 : ∃(fd:FuncData) (tb:D0),((tb.map (·.1)).Nodup/\noTabs K=true/\∀p∈tb,p.1∈ts/\∃c,codeHdIn K c p.1=true)/\(∀(s:Shared) (v:Value),BindsTo s fd ⟨[v],[]⟩ [("script",v)])/\∀base:Heap,K.In base->base.Ns mainGlobals mg->je l.prog w K mg base qg 17 fa fd ["script"] (Ac K tb):=by
 obtain⟨d,ad,b⟩:=tb.ex Vl Wb;cases n5 (b 103 4#0).n n
 cases n5 (b 104 4#0).n S
 cases n5 (b 105 4#0).n Xq
 cases n5 (b 106 4#0).n Xr
 cases n5 (b 107 4#0).n Xs
 cases n5 (b 108 4#0).n Xu
 cases n5 (b 109 4#0).n Q
 have e:=g.symm.trans (mg_of X G (b 122 4#0).n)
 cases e;have T:∀base,Txt l.prog w base K mg ⟨d,ad,Vl,V3,Tv,Tw,_,_,_,_,D,fN,cF,q,j,i,qf,fV,nN,fu⟩:=λ_=>⟨(by constructor<;>show dz X G b),VH X G H,VH X G F,Nq (st:=fU) (ds:=[.int 0 D]) a fc fk x,mg_of X G fn,λs g n S=>by rw[YU]at S ⊢;obtain⟨_,_,_,rfl⟩:=P5 g S;show binds_K n rfl x rfl rfl rfl,I,⟨⟨_,_,_,_,_,_,_,_,_,_,_,_,_,_,_,E7⟩,h7,E6,E8,E9,Fb,Fc,Fd,Fe,Ff,Fg⟩,I.binds (λ_ _ _ _ _ _ g S=>by obtain⟨_,_,_,rfl⟩:=P5 g S;rfl),Zt X G Af.n,Zt X G SV.n,Zt X G P.n,Zt X G SW.n,Zt X G SX.n,Zt X G Rf.n,Zt X G SY.n,Zt X G M.n,Zt X G OH.n,Zt X G MD.n,Zt X G S0.n,Zt X G S1.n,Zt X G OI.n,Zt X G S2.n,⟨_,mg_of X G wB⟩,⟨_,mg_of X G CO⟩,⟨_,mg_of X G Jl⟩,⟨_,mg_of X G vg⟩,⟨_,mg_of X G Y⟩,mg_of X G Ag,λ_=>.inr ⟨_,_,_,Z,rfl,rfl,(by change 3<=_;decide),.cons 110#0 (.cons 110#0 (.cons 110#0 (.nil)))⟩,mg_of X G R,λ_=>.inr ⟨_,_,_,wJ,rfl,rfl,(by change 3<=_;decide),.cons 110#0 (.cons 110#0 (.cons 110#0 (.nil)))⟩,mg_of X G Rg,LI (l:=[("lengths",y,d 103),("base",B,d 104),("even",u,d 105),("cut",z,d 106),("odd",E,d 107),("heights",r,d 108),("forests",J,d 109)]) OL (gn ["lengths","base","even","cut","odd","heights","forests"]),mg_of X G A,mg_of X G t,⟨EW,EX,EY,EZ,N,E1,E3,P4 E2⟩,λe n c=>P1 n c A xc_RingError,hy_NotEven⟩
 show⟨_,[(fV,gV "by_length",bI),(fu,gV "least_ways",aO)],⟨pn,nt,λp t=>⟨pi _ (Z7 (f:=(·.1)) t),by simp only[XS,ZF,or_false]at t;rcases t with rfl | rfl;all_goals first | show⟨_,H.F.hd⟩ | show⟨_,F.F.hd⟩⟩⟩,QI (b 122 4#0),λbase _ _=>(SR (T base)).ok⟩
end
def walk{l:PySem.W.OpenLaw}{q:Program}{N:List Str}{U:(Str->Option Value)->Heap->Prop}{A:World->Heap->Prop}{d:DefRec}{K:Params->b7}{J:List Addr}(g:l.most=some 63)(I:d.params.defaults=[])
 (O:∀(w:World) (h:Heap),A w h->(K w.params).In h/\∀P∈J,h.get? P=some (PySem.W.tabObj #[]))
 (F:∀(w:World) (mg:vy) (Q:Addr) (h:Heap),(K w.params).In h->h.Ns mainGlobals mg->mg d.name=some (.ref Q)->
  ∃(fd:FuncData) (tb:D0),((tb.map (·.1)).Nodup/\PySem.W.noTabs (K w.params)=true/\∀p∈tb,p.1∈J/\∃c,PySem.W.codeHdIn (K w.params) c p.1=true)/\(∀(s:Shared) (u:Value),BindsTo s fd ⟨[u],[]⟩ [("script",u)])/\∀base:Heap,(K w.params).In base->base.Ns mainGlobals mg->je l.prog w (K w.params) mg base qg 17 Q fd ["script"] (Ac (K w.params) tb)) :
 PySem.W.WalkO q N U A l.row.toRowW d [] (λf Y=>PySem.call f Y) :=
 L2.Lm (n:=63) (k:=17) (x:="script") (CX:=λ_=>qg) (sp:=λw=>Ac (K w.params)) g 4#0 I ⟨rfl,by decide,by decide⟩ O F (λ_ _ a o tb S t m=>⟨a,o,rfl,m,S,t,λ_=>rfl⟩) λ_ _ _ _ _ z=>z
end K63
namespace PySem.W.Fast
def tw15584973867838459277:=()
def tw17905857248401100169:=()
def tw15341356138908559343:=()
def tw775825440238875098:=()
def tw4263823066202414518:=()
def tw7667066638892372549:=()
def tw9511848140548642724:=()
def tw10494233515949952004:=()
def tw14024053593552831245:=()
def tw5821793476369225672:=()
def tw9280226688870768261:=()
def tw18314139425443674505:=()
def tw5402434623826349094:=()
def tw17652966196091068774:=()
def tw8079195506653426777:=()
def tw10961427698167377006:=()
def tw13901901017810274535:=()
def tw14220363375974165897:=()
def tw16942809187330300295:=()
def tw9959747031624644158:=()
def tw17792520889995338088:=()
def tw8796030890875580873:=()
def tw12319473471527921524:=()
def tw14894350267945504784:=()
def tw3702356599848150213:=()
def tw7519128043492137517:=()
def tw6382746914168467497:=()
def tw11909907106794993865:=()
def tw9875025557706847283:=()
def tw4720442566053259007:=()
def tw6293670911666004173:=()
def tw5602914621350353087:=()
def tw10717317360118089290:=()
def tw13011106318473917263:=()
def tw9970201978327809908:=()
def tw12712040873204017392:=()
def tw14439705847852807706:=()
def tw12250156570150911034:=()
def tw18282968038963550619:=()
def tw4252796874281553421:=()
def tw15198615198028784244:=()
def tw14210601879733341462:=()
def tw828610466385180830:=()
def tw7383598689765531622:=()
def tw4008346318412627273:=()
def tw7064924025926654313:=()
def tw9549829966099508082:=()
def tw3825976451005695896:=()
def tw8506264898825979382:=()
def tw6051490082347358770:=()
def tw17220541274452067329:=()
def tw17911626387770178711:=()
def tw7433111168421954941:=()
def tw11685909481603171182:=()
def tw17146487359633095100:=()
def tw18369765429453385560:=()
def tw12019574026422036219:=()
def tw7940729214557396639:=()
def tw13256119493197688332:=()
def tw16702653646719499945:=()
def tw3028983043556412811:=()
def tw3035685277991101548:=()
def tw3719833340389552636:=()
def tw8440487038773477345:=()
def tw9964425684273223662:=()
def tw1223273581248060324:=()
def tw3839284963241593945:=()
def tw1556090827863014747:=()
def tw5200227969768699044:=()
def tw2323597502667220075:=()
def tw3776183438338484489:=()
def tw3663464240148333394:=()
def tw14844663404035390837:=()
def tw9311794070081831153:=()
def tw9284189276039241220:=()
def tw16116461527704934161:=()
def tw43802209487159893:=()
def tw7891686203627251194:=()
def tw1314097771322514290:=()
def tw12257740181905506425:=()
def tw11314253704307814076:=()
def tw2786654485022665259:=()
def tw6404058883312603672:=()
def tw15354543969630043481:=()
def tw11842348837125341169:=()
def tw5552528633640133665:=()
def tw13417384458418900711:=()
def tw5798169128602973335:=()
def tw11029458423747850346:=()
def tw7071158450414363283:=()
def tw16446875196984091066:=()
def tw7162377477609425302:=()
def tw15190404079262368029:=()
def tw12265001900436953129:=()
def tw15719019026556436542:=()
def tw6035611942230173093:=()
def tw957535203666730245:=()
def tw15295303746905637574:=()
def tw4135319859876113153:=()
def tw7014758882468000523:=()
def tw2784434942106537883:=()
def tw7972079148308720391:=()
def tw7019072826622550142:=()
def tw13739716681252167307:=()
def tw7584894531731699594:=()
def tw2829286247685616987:=()
def tw9640028316373149599:=()
def tw2019156738871822707:=()
def tw1982138407219120867:=()
def tw8924319740401370309:=()
def tw12611863121774993403:=()
def tw929500863187068486:=()
def tw7276830460397203683:=()
def tw6421957316079945272:=()
def tw11508025409203428392:=()
def tw11736192207063620925:=()
def tw7876053110717815332:=()
def tw2892466014924858634:=()
def tw6137511117066993388:=()
def tw7253130975234342982:=()
def tw4402059530439888075:=()
def tw4755216575332729428:=()
def tw16424045975430463161:=()
def tw8185352065763370526:=()
def tw9357126708158005098:=()
def tw8562749680238832150:=()
def tw6021354873708914138:=()
def tw6157442672088497005:=()
def tw15808533343379610824:=()
def tw5319695657919196916:=()
def tw15704306856081121098:=()
def tw9127794500492733664:=()
def tw9140674244664226637:=()
def tw1577074976957422351:=()
def tw5816487524958120476:=()
def tw16527643681031716448:=()
def tw12247038010368479801:=()
def tw1689723672282230972:=()
def tw5184938011027263855:=()
def tw16567570837171659940:=()
def tw14747179677998472407:=()
def tw6245890028879812934:=()
def tw14234464262311240682:=()
def tw14485189748627638082:=()
def tw16532431621474889349:=()
def tw14201915840520699226:=()
def tw10454757743234356687:=()
def tw17374246900998380905:=()
def tw746339796068793356:=()
def tw17862778602716800508:=()
def tw4822214260415077039:=()
def tw159052108827217254:=()
def tw7019855165938299406:=()
def tw7504318460591948030:=()
def tw2046944935861415078:=()
def tw12411700986247006303:=()
def tw5368162172447544541:=()
def tw15778102611167562970:=()
def tw2624039516940771842:=()
def tw13028645090478782187:=()
def tw61937003980348770:=()
def tw12303821557703559595:=()
def tw6359210238778453194:=()
def tw13614464335365262852:=()
def tw6406664341745985517:=()
def tw4541696340394861014:=()
def tw684506187486367202:=()
def tw1186849219425279155:=()
def tw18037324374672744010:=()
def tw3852411352680419845:=()
def tw15974753650396186279:=()
def tw3046502251470230395:=()
def tw579824775811355200:=()
def tw9906198708783712822:=()
def tw17246368551353611106:=()
def tw10074156224172170740:=()
def tw12596174012817185348:=()
def tw8697874342346895175:=()
def tw9008769723435715963:=()
def tw628221076187994705:=()
def tw11109298796274233331:=()
def tw797474358789417101:=()
def tw6775868683376360767:=()
def tw16490491827743864862:=()
def tw2053659787194382514:=()
def tw9758414464260476643:=()
def tw7785741099397779091:=()
def tw5448214923415928288:=()
def tw4725837799446934251:=()
def tw13694591387507689093:=()
def tw4943941035779470999:=()
def tw2830257418732005413:=()
def tw5709556436817304447:=()
def tw17968045167035384131:=()
def tw13029557341257806978:=()
def tw129877826179387733:=()
def tw16454154217302847995:=()
def tw9326551135813530906:=()
def tw6910803793694665637:=()
def tw2251662166334232944:=()
def tw487665705498305450:=()
def tw16806617926915247049:=()
def tw2346909236455953780:=()
def tw1245184563701805784:=()
def tw4957543560262852176:=()
def tw1942509496353282466:=()
def tw14999702140590107135:=()
def tw3136300392471670060:=()
def tw14755641109556990331:=()
def tw18177564523523895281:=()
def tw12298853059538927616:=()
def tw6866153595715847791:=()
def tw5666826751687911134:=()
def tw12719988667415615517:=()
def tw15865506288104098903:=()
def tw5760524003438946970:=()
def tw12721129319669780566:=()
def tw9912973263629848577:=()
def tw747240540666368535:=()
def tw13921498146167717856:=()
def tw2182426923495553306:=()
def tw7074044825362897278:=()
def tw18006444660421425848:=()
def tw11542265806679685626:=()
def tw13122746966856412974:=()
def tw16333925944256563242:=()
def tw275046047882423360:=()
def tw17206686774009493503:=()
def tw15052911489416807092:=()
def tw8431451674273204311:=()
def tw7661252291748846592:=()
def tw10479898002870216198:=()
def tw16449612929491090988:=()
def tw4774637295349301984:=()
def tw29551410545001820:=()
def tw6576489916326182202:=()
def tw5953866001213294261:=()
def tw13364931952123779045:=()
def tw5362443697876960780:=()
def tw17990213491320323193:=()
def tw2813344208412077494:=()
def tw6557650716814916576:=()
def tw14582073801853718789:=()
def tw915192021525540081:=()
def tw6834186647616696863:=()
def tw5800294406671101079:=()
def tw10207117504932102933:=()
def tw3825269020715538345:=()
def tw5652984336141984800:=()
def tw14672454497100735666:=()
def tw6195208830797950777:=()
def tw7853726288271617949:=()
def tw8221280915282841921:=()
def tw1355167747013011866:=()
def tw6908403599568737882:=()
def tw7366103295629828189:=()
def tw3764190526370517347:=()
def tw15257622098501445780:=()
def tw4670682511687808775:=()
def tw11265764156891193162:=()
def tw7868814872599675062:=()
def tw10743150875189546828:=()
def tw15945496151155633518:=()
def tw7389501208375673690:=()
def tw15099342551816491071:=()
def tw5764976030407282871:=()
def tw13695332293777160392:=()
def tw5906908198534007256:=()
def tw13333573542477342809:=()
def tw2437097857470426436:=()
def tw15492287502261107517:=()
def tw7419221777459316564:=()
def tw567664407930931004:=()
def tw8355246972755218845:=()
def tw18240634759725700080:=()
def tw2582569663265808276:=()
def tw18221853139022224292:=()
def tw8915212445697466980:=()
def tw8453769880581096985:=()
def tw3530446835206202122:=()
def tw1538309648691306590:=()
def tw2659258980125879456:=()
def tw9771683238861489098:=()
def tw13030991521991644106:=()
def tw2682177658901390880:=()
def tw8428057272427889607:=()
def tw10106275946629234413:=()
def tw15556185000288752251:=()
def tw6775779423643449832:=()
def tw8457644922983083437:=()
end PySem.W.Fast
open PySem PySem.W PyProof.Rows
set_option maxRecDepth 100000 in
set_option maxHeartbeats 0 in
theorem PySem.Challenge.cw_ringbase_k63_whole_answers_agree_holds : PySem.Challenge.rw_ringbase_k63_whole_answers_agree.Holds := by
 w_on;o_law;k_head;(case hw=>w_witness2)
 k_fill
 refine K63.walk (l:=PySem.Challenge.rw_ringbase_k63_whole_answers_agree) rfl rfl (fun w h Y=>⟨PySem.W.km_in_of Y,PySem.W.km_tabs_of Y⟩) ?F
 case F =>
  intro w mg fa h KX G hmg;refine' K63.all_mk KX G hmg ?te (tb:=?tb) (xc_RingError:=?x0) (nt:=?x1) (pn:=?x2) (pi:=?x3) (hy_NotEven:=?x4) ..
  (case te=>exact rfl)
  any_goals k_is
  (case tb=>(repeat (refine' .cons (L2.dk ?ga ?gl ?gc ?gk) ?_;(case ga=>k_is);(case gl=>k_is);(case gc=>k_is);(case gk=>k_is)));exact .nil)
  any_goals (refine' L2.WQ ?ga ?gl ?gc ?gk ?gd;(case ga=>k_is);(case gl=>k_is);(case gd=>kernel_rfl);(case gc=>k_is);(case gk=>k_is))
  any_goals (refine' L2.JQ ?gl ?gc ?gk;(case gl=>k_is);(case gc=>k_is);(case gk=>k_is))
  any_goals (refine' L2.Ng.mk ?ga;(case ga=>k_is))
  (case x0=>k_exc)
  (case x1=>kernel_rfl)
  (case x2=>decide)
  (case x3=>decide)
  (case x4=>kts_exm)
