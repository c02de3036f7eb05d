import PyProof.Rows.All
import Wide.All
import OpenK.AllK
import Wide.FinOn
import Lean
import PyProof.EqAt
import PyProof.EqKinds
import PyProof.TupleCall
import PySem.Challenge.RW_ringbase_k67_whole_standing_and_asked
set_option Elab.async false
set_option linter.all false
set_option bootstrap.genMatcherCode false
set_option compiler.extract_closed false
set_option maxRecDepth 100000
set_option hygiene false
local macro_rules
|`(tactic|show $x)=>`(tactic|refine $x)
local macro_rules
|`(0#$x)=>`(ai rl (ai rl $x))
|`(1#$x)=>`($x λ_ A _ s H F Q E X C h=>?_)
|`(2#0)=>`(by decide +kernel)
|`(3#$x)=>`(34#(ai rl $x))
|`(4#$x)=>`(some (.lst $x))
|`(5#$x)=>`(θ X pq σ H $x)
|`(6#$x)=>`(λ_ _ _ _=>$x)
|`(7#0)=>`(by decide)
|`(8#0)=>`(model X.prog X.w)
|`(9#$x)=>`(starEach $x X.env)
|`(10#0)=>`(m.testBit k)
|`(11#$x)=>`($x D=220#0)
|`(12#0)=>`(by intro z;cases z)
|`(13#$x)=>`(decide ($x))
|`(14#$x)=>`(ai rl ($x))
|`(15#$x)=>`(some (.tup $x))
|`(16#$x)=>`(s.heap.get? b=some $x)
|`(17#$x)=>`(⟨dl rfl,$x ⟩)
|`(18#$x)=>`((($x :Nat):Int))
|`(19#$x)=>`(List.range $x)
|`(20#$x)=>`(Option.some.inj $x)
|`(21#$x)=>`(model prog $x)
|`(22#0)=>`(by simp)
|`(23#$x)=>`($x s.heap.objs.size)
|`(24#$x)=>`(⟨_,aI.of $x ⟩)
|`(25#$x)=>`((false,eval $x X.env))
|`(26#$x)=>`($x==NameKind.free&&env.scope.kind == .function&&env.kindOf n==some .cell)
|`(27#$x)=>`($x S s U H _ I h)
|`(28#$x)=>`(ai rl ($x))
|`(29#$x)=>`(($x).length)
|`(30#$x)=>`(some (.ref $x))
|`(tactic|show 31)=>`(tactic|(rcases Z'.mp M with rfl|M))
|`(32#$x)=>`(X.env.scope.names.lookup $x=some .local)
|`(33#$x)=>`(X.env.cells.lookup $x=some c)
|`(34#$x)=>`(⟨rfl,$x ⟩)
|`(35#$x)=>`((110#$x).objs.size)
|`(36#$x)=>`($x<=sizeLine)
|`(37#$x)=>`(cf K T.cV (bH $x))
|`(38#$x)=>`(84#(∃w p J,∃g:aC p J,$x))
|`(39#$x)=>`(aB ($x T) C (bM aT bx))
|`(40#0)=>`(s.heap.objs.size+1)
|`(41#$x)=>`(some (some $x))
|`(42#$x)=>`(aI.of ($x))
|`(43#$x)=>`(bF (by lia) (by lia) $x)
|`(44#0)=>`(λ_ _ _ _=>bz)
|`(45#$x)=>`(let Y:=kB;let a:=kP;$x)
|`(46#$x)=>`(if $x=true then 1 else 0)
|`(tactic|show 47)=>`(tactic|(intro S s U H Q I h))
|`(48#$x)=>`($x b=some o)
|`(49#$x)=>`(.fields #[.ref $x,.none,.none,.none,.bool false,.none])
|`(50#$x)=>`(∀Y,ak H Y->Q $x Y)
|`(51#0)=>`(λ_ _=>False)
|`(52#$x)=>`(wpAny 21#w A $x Q E s)
|`(53#0)=>`(2^J.length)
|`(54#$x)=>`(some (.int $x))
|`(55#$x)=>`($x _ (.head _))
|`(56#$x)=>`(ae _ (aj $x) ?_)
|`(57#$x)=>`($x X params body scope c ctv)
|`(tactic|show 58)=>`(tactic|(intro S s U H x y v u Q I rx B h))
|`(tactic|show 59)=>`(tactic|(obtain⟨t,rfl⟩:=rx))
|`(60#$x)=>`(.cons (.str _) (.cons (.str _) $x))
|`(61#$x)=>`(∀vs H Q E,sp vs H Q E->vs.length=$x)
|`(62#$x)=>`(some (.gQ $x))
|`(63#$x)=>`(Builtin.Int.intBits $x)
|`(64#0)=>`(ez X.env.cells scope.names [])
|`(65#$x)=>`(envOfC B scope s.heap.objs.size f $x)
|`(66#$x)=>`(bD $x (aj (ay fK)) aO)
|`(67#$x)=>`(∃t,$x/\t { nx:=λ_ Y=>Q .eM Y,rt:=Q} (start N vs) H)
|`(68#$x)=>`(PySem.W.keepIn $x (.ref f)=true)
|`(69#$x)=>`(.lst ($x))
|`(70#0)=>`(List Value)
|`(71#$x)=>`(aB ($x T) C (bH aT))
|`(72#$x)=>`(PE X (.Name x l) $x)
|`(73#$x)=>`(List.replicate $x none)
|`(74#$x)=>`(wpAny (model P w) A $x Q E s)
|`(75#$x)=>`((∀k Y,N k Y->∃B,B<m/\W (i+1) B k Y)/\∀x Y,$x->g x U Y λt G=>tb { D with nx:=N,ct:=N,bk:=D.nx} t G)
|`(tactic|show 76)=>`(tactic|(obtain⟨T,rfl⟩:=B))
|`(77#$x)=>`(λ_ _ z=>z.tups $x)
|`(78#$x)=>`(bF (ak.new $x) aa rl)
|`(79#0)=>`(bB H w p J)
|`(80#$x)=>`($x->Hp->VK->Prop)
|`(81#$x)=>`(Nat->$x->Hp->Prop)
|`(82#0)=>`((w.heap.push oI).objs.size)
|`(83#0)=>`(by simpa using k)
|`(84#$x)=>`(λF H Q _=>$x)
|`(85#$x)=>`({ cls:=$x,data:=.fields #[.ref l,.int 0 0]})
|`(86#$x)=>`($x (by intros;show λ_ _ _ _ _ _=>rfl))
|`(87#$x)=>`(dl (H!.mpr $x))
|`(88#$x)=>`(br 0 (fR $x))
|`(tactic|show 89)=>`(tactic|(repeat (any_goals (first | assumption | wp_step))))
|`(90#$x)=>`(N.bS (λk=>10#0) N.n $x)
|`(91#$x)=>`(aZ.of ($x))
|`(92#$x)=>`(aq $x H (I.tok _) 197#0 q)
|`(93#$x)=>`(.inl (aI.of $x))
|`(94#$x)=>`(dN X (own++fq) scope ($x) C s H t)
|`(95#$x)=>`(show $x by lia)
|`(96#$x)=>`(c8 (by rfl) T.dM (bH $x))
|`(97#$x)=>`(η $x D (.lst []))
|`(98#$x)=>`(wpAny 8#0 X.A $x (EP X pq σ Q) X.xe s)
|`(99#$x)=>`(beq_eq_false_iff_ne.mpr $x)
local macro_rules
|`(100#0)=>`(by with_unfolding_all rfl)
|`(101#$x)=>`(scope.names.lookup $x=some .local)
|`(102#0)=>`(iQ (2#0) (2#0) (2#0) (2#0))
|`(103#$x)=>`(aS rl _ _ rl $x)
|`(104#$x)=>`(Txt P w base K mg $x)
|`(105#$x)=>`(Obj.mapSeq λ_=>$x)
|`(106#$x)=>`(ae $x (au xs.length 22#0 (r! _) o) ?_)
|`(107#$x)=>`(A.deeper (envOfC $x (aQ st) s.heap.objs.size f d))
|`(108#0)=>`(by simpa using O)
|`(109#$x)=>`(af $x (U'.mp W))
|`(110#$x)=>`(s.heap.push $x)
|`(tactic|show 111)=>`(tactic|(first | show .inl rl | show .inr rl | assumption))
|`(112#$x)=>`(m=xs.length-i/\i<=xs.length/\d i $x H)
|`(113#$x)=>`(cP (xs.length-(i+1)) (by lia) rl w $x)
|`(114#$x)=>`($x ≠X.env.locals)
|`(115#$x)=>`(dN X (own++fq) scope (51#0) k.objs.size w G $x)
|`(116#$x)=>`(cD rl _ (aI.of $x))
|`(117#$x)=>`(.cons $x .nil)
|`(118#$x)=>`(11#$x/\M.length<=i)
|`(119#$x)=>`(iM X.prog X.w X.K X.mg X.base CX k f fd $x sp)
|`(120#$x)=>`(($x).map V.str)
|`(121#0)=>`(λz=>nomatch z)
|`(122#$x)=>`($x (cB I q 22#0))
|`(123#$x)=>`(eval $x X.env)
|`(tactic|show 124)=>`(tactic|(obtain rfl:u=Value.ref a:=rx))
|`(125#$x)=>`(F=[.ref w,.int $x])
|`(126#$x)=>`(h'.get? b=some $x)
|`(127#$x)=>`(List (List $x))
|`(128#$x)=>`(backToKw $x (keywordEach [] X.env))
|`(129#$x)=>`(.int ($x :Int))
|`(130#$x)=>`(aA $x (I.list D))
|`(131#$x)=>`(x.testBit $x=true)
|`(132#$x)=>`(aK (iV zA zB $x) Y)
|`(133#$x)=>`(($x==sysModules)=false)
|`(134#$x)=>`(($x).testBit j)
|`(135#$x)=>`(h.get? a=some $x)
|`(136#$x)=>`(PySem.W.nsIn K mainGlobals $x)
|`(137#$x)=>`(compareOp $x)
|`(138#$x)=>`(I.hok.fresh $x)
|`(139#0)=>`(j.trans w)
|`(tactic|show 140)=>`(tactic|(intro S s U H D I h))
|`(141#$x)=>`(SeqAt.shaped $x=true)
|`(142#$x)=>`(q.2.1.testBit $x)
|`(143#$x)=>`(List (Nat×$x))
|`(144#$x)=>`(X.s₀.heap.objs.size<=$x)
|`(145#$x)=>`($x λ_ _ A _ s H F Q E X C h=>?_)
|`(146#$x)=>`(c6 $x λv j=>aD λx N A J n=>?_)
|`(tactic|show 147#$x)=>`(tactic|(show False.elim $x))
|`(148#0)=>`(by intro y z;cases z)
|`(149#0)=>`(by intro _ z;cases z)
|`(150#$x)=>`(by rw[ao $x];show q)
|`(151#$x)=>`(Paired.imp' $x I)
|`(152#$x)=>`(if b=true then C $x u λv c=>11#c/\d (i+1) (M++[v]) (η c D 69#(M++[v])) else d (i+1) M u)
|`(153#$x)=>`(Q $x { s with heap:=h'})
|`(154#$x)=>`(eJ X scope $x fq js)
|`(155#$x)=>`(($x).map Int.toNat)
|`(156#0)=>`(ai rl (?_))
|`(tactic|show 157#$x)=>`(tactic|(show wpAny_bind $x))
|`(158#$x)=>`(codeAny_builtin $x ?_)
|`(159#$x)=>`(λk Y=>$x k (by lia))
|`(160#0)=>`(fX p.size p.size hi-fX p.size 0 lo)
|`(161#$x)=>`(.ok (.ret $x))
|`(162#0)=>`(some (.ref b))
|`(163#0)=>`(.ListComp elt [⟨tg,iter,ifs,0⟩] scope pos)
|`(164#$x)=>`(af $x (vals1 r))
|`(165#$x)=>`(aD $x (id o.ex))
|`(166#$x)=>`($x mainGlobals mg)
|`(167#$x)=>`(bQ 2 X.nd $x)
|`(168#$x)=>`(eE v p J $x)
|`(169#$x)=>`(($x Value.ref).toArray)
|`(170#$x)=>`(.ins a.aJ i $x)
|`(171#0)=>`(e.testBit k)
|`(tactic|show 172#$x)=>`(tactic|(change wpAny _ _ $x _ _ s))
|`(173#$x)=>`(wpAny_loadPart' $x)
|`(174#$x)=>`(wpAny_Call_Name_kw $x)
|`(175#$x)=>`($x (L u) (L v))
|`(176#$x)=>`(($x).cps.toList.length)
|`(177#$x)=>`(⟨M,g,d,$x,os⟩)
|`(178#$x)=>`(a.data = .fields $x)
|`(179#$x)=>`(backTo pos ($x))
|`(180#$x)=>`(s.heap.objs.size<=$x)
|`(181#0)=>`(PySem.W.instObj C s.heap.objs.size)
|`(182#$x)=>`(cnt (λk=>$x) N.n)
|`(183#0)=>`(r.testBit k)
|`(184#0)=>`(Option Addr)
|`(tactic|show 185)=>`(tactic|(intro S s U H xs g Q I r h))
|`(186#$x)=>`(wpAny M A $x Q E s)
|`(187#$x)=>`(bQ 3 X.nd $x)
|`(188#$x)=>`(assignEach $x X.env)
|`(189#0)=>`(2^B.length)
|`(190#$x)=>`(N.gJ K $x=N.gJ K (N.a K))
|`(191#0)=>`(dS K aT)
|`(192#$x)=>`(b8 (iP K) bx $x)
|`(193#$x)=>`((x==$x)=false)
|`(194#$x)=>`(List (Str×$x))
|`(195#$x)=>`(List.replicate $x true)
|`(196#0)=>`(⟨rfl,rfl⟩)
|`(197#0)=>`(⟨_,rfl⟩)
|`(198#0)=>`(λv z=>by cases z)
|`(199#$x)=>`(X.s₀.heap.get? $x)
local macro_rules
|`(200#0)=>`(by simp[Str.length])
|`(201#0)=>`(ns.map V.int)
|`(202#$x)=>`(k _ _ (.inl rl) $x)
|`(203#$x)=>`(by have:=$x;lia)
|`(204#$x)=>`(absurd $x (S! _))
|`(tactic|show 205#$x)=>`(tactic|(with_reducible show wpAny_loadPart_at $x ?_))
|`(tactic|show 206)=>`(tactic|(have e:i=xs.length:=by lia))
|`(207#$x)=>`(cU ⟨43#7#0,cU $x ⟩)
|`(208#$x)=>`(g6 aT T.aM ($x T) C)
|`(209#$x)=>`(aq _ _ rl $x ?_)
|`(210#0)=>`(List (κ×V))
|`(211#$x)=>`(λ_ _ _ _ _ _ _ q=>$x q)
|`(212#$x)=>`(λi j=>.int $x)
|`(213#$x)=>`(Heap.SameBut $x s.heap h')
|`(214#0)=>`(List Addr)
|`(215#$x)=>`(H a=some $x)
|`(216#$x)=>`(left.testBit $x)
|`(217#0)=>`({ s with heap:=h',toks:=t'})
|`(218#0)=>`(Option Int)
|`(219#$x)=>`(show$x by decide +kernel)
|`(220#0)=>`(some (.lst M))
|`(221#$x)=>`(($x).cps.toList)
|`(222#$x)=>`(cL (aZ.of Z) g5 $x)
|`(tactic|show 223)=>`(tactic|(obtain⟨t,rfl⟩:=r))
|`(224#0)=>`(by omega)
|`(225#$x)=>`(H D=none->ak H Y->$x)
|`(226#$x)=>`(List (List Key×$x))
section
variable{α β γ δ ε ζ η:Sort _}{G:Prop}{A B C D E F:Prop}{P Q R S:α->Prop}{P2 Q2 R2 S2 T2:α->β->Prop}{P3 Q3 R3 S3 T3:α->β->γ->Prop}{P4 Q4 R4 S4 T4:α->β->γ->δ->Prop}{P5 Q5 R5 S5 T5 U5:α->β->γ->δ->ε->Prop}{P7:α->β->γ->δ->ε->ζ->η->Prop}
theorem cD(o:A)(x)(p:P x):A/\∃x,P x:=⟨o,x,p⟩
theorem bR(o:A)(x)(p:P x)(q:Q x):A/\∃x,P x/\Q x:=⟨o,x,p,q⟩
theorem aS(o:A)(x)(y)(p:P2 x y)(q:Q2 x y):A/\∃x y,P2 x y/\Q2 x y:=⟨o,x,y,p,q⟩
theorem bF(o:A)(p:B)(q:C):A/\B/\C:=⟨o,p,q⟩
theorem aX(o:A)(p:B)(x)(q:P x)(r:Q x):A/\B/\∃x,P x/\Q x:=⟨o,p,x,q,r⟩
theorem e7(o:A)(p:B)(q:C)(r:D):A/\B/\C/\D:=⟨o,p,q,r⟩
theorem dD(o:A)(p:B)(q:C)(r:D)(s:E):A/\B/\C/\D/\E:=⟨o,p,q,r,s⟩
theorem ae(x)(o:P x)(p:Q x):∃x,P x/\Q x:=⟨x,o,p⟩
theorem au(x)(o:P x)(p:Q x)(q:R x):∃x,P x/\Q x/\R x:=⟨x,o,p,q⟩
theorem cP(x)(o:P x)(p:Q x)(q:R x)(r:S x):∃x,P x/\Q x/\R x/\S x:=⟨x,o,p,q,r⟩
theorem gR(x)(y)(o:P2 x y):∃x y,P2 x y:=⟨x,y,o⟩
theorem bf(x)(y)(o:P2 x y)(p:Q2 x y):∃x y,P2 x y/\Q2 x y:=⟨x,y,o,p⟩
theorem aq(x)(y)(o:P2 x y)(p:Q2 x y)(q:R2 x y):∃x y,P2 x y/\Q2 x y/\R2 x y:=⟨x,y,o,p,q⟩
theorem bC(x)(y)(o:P2 x y)(p:Q2 x y)(q:R2 x y)(r:S2 x y):∃x y,P2 x y/\Q2 x y/\R2 x y/\S2 x y:=⟨x,y,o,p,q,r⟩
theorem cI(x)(y)(o:P2 x y)(p:Q2 x y)(q:R2 x y)(r:S2 x y)(s:T2 x y):∃x y,P2 x y/\Q2 x y/\R2 x y/\S2 x y/\T2 x y:=⟨x,y,o,p,q,r,s⟩
theorem eE(x)(y)(z)(o:P3 x y z):∃x y z,P3 x y z:=⟨x,y,z,o⟩
theorem bZ(x)(y)(z)(o:P3 x y z)(p:Q3 x y z):∃x y z,P3 x y z/\Q3 x y z:=⟨x,y,z,o,p⟩
theorem aV(x)(y)(z)(o:P3 x y z)(p:Q3 x y z)(q:R3 x y z)(r:S3 x y z):∃x y z,P3 x y z/\Q3 x y z/\R3 x y z/\S3 x y z:=⟨x,y,z,o,p,q,r⟩
theorem cg(x)(y)(z)(o:P3 x y z)(p:Q3 x y z)(q:R3 x y z)(r:S3 x y z)(s:T3 x y z):∃x y z,P3 x y z/\Q3 x y z/\R3 x y z/\S3 x y z/\T3 x y z:=⟨x,y,z,o,p,q,r,s⟩
theorem bu(x)(y)(z)(u)(o:P4 x y z u)(p:Q4 x y z u)(q:R4 x y z u)(r:S4 x y z u)(s:T4 x y z u):∃x y z u,P4 x y z u/\Q4 x y z u/\R4 x y z u/\S4 x y z u/\T4 x y z u:=⟨x,y,z,u,o,p,q,r,s⟩
theorem b9(x)(y)(z)(u)(v)(o:P5 x y z u v)(p:Q5 x y z u v)(q:R5 x y z u v)(r:S5 x y z u v)(s:T5 x y z u v)(t:U5 x y z u v):∃x y z u v,P5 x y z u v/\Q5 x y z u v/\R5 x y z u v/\S5 x y z u v/\T5 x y z u v/\U5 x y z u v:=⟨x,y,z,u,v,o,p,q,r,s,t⟩
theorem pA(x)(y)(z)(u)(v)(w)(a)(o:P7 x y z u v w a):∃x y z u v w a,P7 x y z u v w a:=⟨x,y,z,u,v,w,a,o⟩
theorem Ah(k:A->B->G):(A/\B)->G:=83#0
theorem bE(k:A->∀x,P x->Q x->G):(A/\∃x,P x/\Q x)->G:=83#0
theorem cW(k:A->B->C->G):(A/\B/\C)->G:=83#0
theorem bG(k:A->B->∀x,P x->Q x->G):(A/\B/\∃x,P x/\Q x)->G:=83#0
theorem jM(k:A->B->C->D->G):(A/\B/\C/\D)->G:=83#0
theorem iI(k:A->B->C->D->E->G):(A/\B/\C/\D/\E)->G:=83#0
theorem eV(k:A->B->C->D->E->F->G):(A/\B/\C/\D/\E/\F)->G:=83#0
theorem eg(k:∀x,P x->G):(∃x,P x)->G:=83#0
theorem af(k:∀x,P x->Q x->G):(∃x,P x/\Q x)->G:=83#0
theorem aA(k:∀x,P x->Q x->R x->G):(∃x,P x/\Q x/\R x)->G:=83#0
theorem cM(k:∀x,P x->Q x->∀y,P2 x y->G):(∃x,P x/\Q x/\∃y,P2 x y)->G:=83#0
theorem gE(k:∀x,P x->Q x->R x->S x->G):(∃x,P x/\Q x/\R x/\S x)->G:=83#0
theorem gF(k:∀x y,P2 x y->G):(∃x y,P2 x y)->G:=83#0
theorem bh(k:∀x y,P2 x y->Q2 x y->G):(∃x y,P2 x y/\Q2 x y)->G:=83#0
theorem aD(k:∀x y,P2 x y->Q2 x y->R2 x y->G):(∃x y,P2 x y/\Q2 x y/\R2 x y)->G:=83#0
theorem aY(k:∀x y,P2 x y->Q2 x y->R2 x y->S2 x y->G):(∃x y,P2 x y/\Q2 x y/\R2 x y/\S2 x y)->G:=83#0
theorem fy(k:∀x y z,P3 x y z->G):(∃x y z,P3 x y z)->G:=83#0
theorem cQ(k:∀x y z,P3 x y z->Q3 x y z->G):(∃x y z,P3 x y z/\Q3 x y z)->G:=83#0
theorem eu(k:∀x y z,P3 x y z->Q3 x y z->R3 x y z->G):(∃x y z,P3 x y z/\Q3 x y z/\R3 x y z)->G:=83#0
theorem bO(k:∀x y z,P3 x y z->Q3 x y z->R3 x y z->S3 x y z->T3 x y z->G):(∃x y z,P3 x y z/\Q3 x y z/\R3 x y z/\S3 x y z/\T3 x y z)->G:=83#0
theorem gb(k:∀x y z u,P4 x y z u->G):(∃x y z u,P4 x y z u)->G:=83#0
theorem eY(k:∀x y z u,P4 x y z u->Q4 x y z u->R4 x y z u->G):(∃x y z u,P4 x y z u/\Q4 x y z u/\R4 x y z u)->G:=83#0
theorem dO(k:∀x y z u v,P5 x y z u v->Q5 x y z u v->R5 x y z u v->G):(∃x y z u v,P5 x y z u v/\Q5 x y z u v/\R5 x y z u v)->G:=83#0
end
abbrev rl:=@rfl
abbrev e8:=@decide_eq_true
abbrev gm:=@decide_eq_false
abbrev nB:=@of_decide_eq_true
abbrev jd:=@List.mem_append_right
abbrev jx:=@List.mem_cons_of_mem
abbrev fP:=@List.mem_of_getElem?
abbrev RS:=@Bool.eq_false_iff
abbrev iJ:=@List.getElem?_eq_some_iff
abbrev nC:=@Option.map_eq_some_iff
abbrev Ur:=@List.mem_append_left
abbrev cF:=List (PySem.Addr×PySem.Obj)
abbrev xw:=PySem.Value->PySem.Shared->Prop
abbrev xA:=PySem.Str->Option PySem.Value
abbrev cu:=PySem.W.Frag
def χ:=@List.length_map
def c!:=@PySem.Heap.get?_push_of_some
def ξ:=@if_neg
def Θ:=@PySem.wpAny_pure
def ο:=@if_pos
def Ξ:=@Nat.le_refl
def d!:=@List.getElem?_map
def U':=@List.mem_map
def u!:=@List.getD_eq_getElem?_getD
def Z':=@List.mem_cons
def g!:=@List.mem_cons_self
def z!:=@List.getElem?_eq_getElem
def i!:=@List.length_append
def a!:=@PySem.Heap.lt_size
def b!:=@Nat.le_trans
def h!:=@Nat.testBit_xor
def q!:=@List.mem_singleton
def v!:=@PySem.Heap.get?_push_size
def t!:=@Nat.lt_of_lt_of_le
def w!:=@Bool.false_ne_true
def j!:=@List.map_append
def o!:=@List.take_length
def x!:=@Int.toNat_natCast
def y!:=@List.length_cons
def A!:=@List.take_add_one
def B!:=@List.size_toArray
def l!:=@List.map_cons
def C!:=@List.length_range
def n!:=@Nat.ne_of_lt
def M!:=@List.length_filter_le
def J!:=@Nat.testBit_two_pow
def D!:=@List.mem_append
def G!:=@List.filter_cons
def r!:=@Nat.zero_le
def I!:=@List.length_take
def E!:=@List.mem_range
def e!:=@Ne.symm
def p!:=@PySem.wpAny_mono
def O!:=@PySem.F.plainAttrs_list
def F!:=@PySem.wpAny_holding
def K!:=@List.mem_filter
def k!:=@congrArg
def V!:=@PySem.F.slot_list_append
def W!:=@PySem.F.type_list_append
def d?:=@List.getElem?_append_left
def n?:=@Classical.byContradiction
def u?:=@List.getElem?_append_right
def X!:=@List.length_singleton
def N!:=@Bool.and_eq_true
def L!:=@List.map_map
def o?:=@PySem.F.plain_min_loop
def T!:=@Nat.xor_lt_two_pow
def g?:=@List.getElem?_of_mem
def H!:=@Nat.ble_eq
def H?:=@PySem.StrLaws.glued_eq_join
def Y!:=@Nat.lt_of_le_of_lt
def P!:=@List.nodup_cons
def i?:=@PySem.Heap.SameBut.update
def q?:=@Nat.eq_of_testBit_eq
def R!:=@Bool.eq_iff_iff
def D?:=@Nat.testBit_lt_two_pow
def I?:=@PySem.Heap.get?_update_other
def J?:=@PySem.F.plainAttrs_str
def S!:=@Nat.lt_irrefl
def w?:=@List.filter_append
def K?:=@List.length_replicate
def Z!:=@Bool.xor_false
def Q?:=@PySem.Heap.get?_update_self
def Q!:=@Nat.le_succ
def L?:=@PySem.mem_of_lookup
def z?:=@List.lookup_cons
def b?:=@Nat.xor_assoc
def U!:=@Nat.le_of_lt
def R?:=@Nat.pow_le_pow_right
def A?:=@List.append_nil
def B?:=@List.range_succ
def S?:=@List.mem_map_of_mem
def q_:=@PyProof.Rows.slot_tuple_getitem
def j?:=@Nat.ne_of_gt
def E?:=@Nat.not_lt_zero
def k?:=@Nat.xor_zero
def l?:=@Nat.zero_xor
def F?:=@Nat.two_pow_pos
def G?:=@Nat.min_le_left
def M?:=@decide_eq_decide
def r_:=@Nat.exists_testBit_of_ne_zero
def T?:=@Nat.lt_succ_of_lt
def s_:=@PyProof.Rows.callWith_type1
def W?:=@Option.toList_some
def e_:=@PyProof.Rows.boot_tuple
def C?:=@Int.zero_add
def r?:=@Int.le_refl
def m?:=@PySem.W.mg_none_of
def X?:=@Nat.lt_succ_self
def U?:=@PySem.wpAny_tryCatch
def Y?:=@List.find?_cons
def f_:=@Array.length_toList
def g_:=@List.replicate_succ
def N?:=@Nat.xor_self
def O?:=@Nat.lt_trans
def t_:=@PySem.F.entry_min_loop
def N_:=@Array.getElem?_eq_some_iff
def V?:=@Bool.true_and
def c_:=@Nat.zero_testBit
def Z?:=@PySem.Heap.size_push
def a_:=@Bool.false_xor
def u_:=@PyProof.Rows.boot_all
def v_:=@PySem.F.slot_str_join
def w_:=@PySem.F.type_str_join
def x_:=@PyProof.Rows.boot_str
def y_:=@Nat.pow_lt_pow_right
def O_:=@List.getElem?_replicate
def P_:=@Int.eq_ofNat_of_zero_le
def z_:=@Int.toNat_of_nonneg
def h_:=@List.all_eq_true
def d_:=@Bool.and_false
def i_:=@List.not_mem_nil
def Q_:=@List.getElem?_set_self
def P?:=@beq_iff_eq
def R_:=@List.take_of_length_le
def S_:=@PySem.F.slot_str_split
def T_:=@PySem.F.type_str_split
def A_:=@PySem.W.callWith_K
def B_:=@PySem.Obj.data_mapFields
def b_:=@Nat.pow_succ
def j_:=@List.length_nil
def k_:=@List.foldl_cons
def l_:=@Option.map_some
def U_:=@PySem.Obj.isFreed_of_fields
def m_:=@Nat.min_eq_left
def _j:=@Nat.mod_two_eq_zero_or_one
def C_:=@List.foldl_append
def D_:=@List.pairwise_map
def acs:=@PySem.F.slot_dict_keyiterator_next
def V_:=@List.getElem?_set_ne
def E_:=@List.getElem_mem
def F_:=@Nat.le_add_right
def G_:=@Nat.testBit_succ
def _l:=@List.Pairwise.imp_of_mem
def W_:=@List.getElem?_range
def X_:=@List.map_congr_left
def _n:=@List.eraseIdx_cons_succ
def _r:=@PySem.F.slot_tuple_hash
def n_:=@List.sum_cons
def Y_:=@List.mem_filterMap
def H_:=@List.length_set
def _t:=@List.filter_eq_nil_iff
def _u:=@PyProof.Rows.boot_list
def Z_:=@List.flatten_cons
def o_:=@Nat.le_of_eq
def _v:=@Array.getElem?_toList
def _y:=@List.lookup_cons_self
def _z:=@PySem.F.slot_dict_pop
def I_:=@List.nodup_nil
def _C:=@PyProof.Rows.boot_int
def _a:=@Nat.succ_ne_self
def _E:=@List.replicate_succ'
def J_:=@Bool.and_true
def p_:=@Nat.log2_lt
def _G:=@PySem.joinOk_length
def acV:=@PySem.F.slot_dict_getitem
def acW:=@List.mem_of_find?_eq_some
def acX:=@List.pairwise_iff_getElem
def _H:=@Int.natCast_nonneg
def K_:=@Nat.le_total
def L_:=@Nat.sub_self
def _J:=@Nat.and_lt_two_pow
def M_:=@Int.le_trans
def ac3:=@Nat.testBit_two_pow_self
def _K:=@List.pairwise_cons
def _b:=@Bool.false_and
def _c:=@List.take_zero
def ac7:=@Nat.exists_eq_add_of_le
def ac8:=@PySem.F.plainAttrs_dict
def ac9:=@Nat.add_sub_cancel_left
def _L:=@PySem.Obj.cls_mapFields
def _M:=@List.filter_congr
def _O:=@List.nodup_append
def adf:=@PySem.W.cellsFrom_some
def adg:=@PyProof.Rows.bitAnd_pp
def adh:=@PySem.Str.append_assoc
def _d:=@List.any_cons
def _i:=@Bool.xor_self
def _Q:=@List.getElem_inj
def _R:=@List.length_drop
def _S:=@List.countP_cons
def _U:=@Nat.max_eq_right
def _V:=@Nat.min_eq_right
def _W:=@Array.toList_inj
def adq:=@PyProof.Rows.slot_int_bit_length
def ads:=@PyProof.Rows.type_int_bit_length
def adt:=@PySem.W.methodCall_KW
def adu:=@PySem.F.slot_dict_get
def adv:=@Classical.choose_spec
def adw:=@PyProof.Rows.boot_min
def adx:=@List.getElem?_eq_none
def ady:=@Array.getElem?_setIfInBounds_ne
def adz:=@PySem.Heap.get?_none_of_le
def _Y:=@List.of_mem_zip
def _Z:=@Nat.max_eq_left
def adC:=@List.sum_append
def adD:=@List.Pairwise.filter
def adE:=@List.mem_of_mem_drop
def adF:=@List.take_append_of_le_length
def adG:=@List.eq_nil_of_length_eq_zero
def adH:=@List.filterMap_cons
def adI:=@PySem.W.plainGet_of
def adJ:=@List.getElem_of_mem
def adK:=@List.length_reverse
def adL:=@PySem.boot_len
def adM:=@decide_eq_true_iff
def adN:=@List.getElem?_take
def adO:=@List.append_assoc
def adP:=@List.reverse_cons
def adQ:=@List.map_nil
def adR:=@Nat.zero_add
def adS:=@List.nodup_range
def adT:=@List.any_eq_true
def adU:=@Nat.xor_comm
def adV:=@Nat.testBit_zero
def adW:=@Int.le_of_lt
namespace L2
open PySem PySem.Spec PyProof.Rows
abbrev aU:=@wpAny_bind
abbrev Key:=Sum Int Str
def sy:Key->Value->Bool
 | .inl k,v=>Value.isInt k v
 | .inr x,v=>Value.isStrOf x v
def Xl(w:World):Key->Int
 | .inl k=>hashInt k
 | .inr x=>hashStr w x
def eF:∀{k} {v},sy k v=true->(∃i t,k=Sum.inl i/\v=Value.int i t)\/(∃x t,k=Sum.inr x/\v=Value.str x t)
 | .inl i,v,h=>by
   obtain⟨t,e⟩:=Value.isInt_shape h;show .inl (bf i t rl e)
 | .inr x,v,h=>by
   obtain⟨t,e⟩:=Value.isStrOf_shape h;show .inr (bf x t rl e)
def Jd(i)(t):sy (.inl i) (.int i t)=true:=by simp[sy,Value.isInt]
def Je(x)(t):sy (.inr x) (.str x t)=true:=by simp[sy,Value.isStrOf]
def RT(a b):13#((Sum.inl a:Key)=Sum.inl b)=(a==b):=by
 by_cases e:a=b
 .subst e;simp
 .have h : ¬(Sum.inl a:Key)=Sum.inl b:=λq=>e (Sum.inl.inj q)
  rw[gm h];show(99#e).symm
def RU(a b):13#((Sum.inr a:Key)=Sum.inr b)=decide (a=b):=by
 by_cases e:a=b
 .subst e;simp
 .have h : ¬(Sum.inr a:Key)=Sum.inr b:=λq=>e (Sum.inr.inj q)
  rw[gm h,gm e]
def RV(a)(b):13#((Sum.inl a:Key)=Sum.inr b)=false:=gm (λq=>nomatch q)
def RW(a)(b):13#((Sum.inr a:Key)=Sum.inl b)=false:=gm (λq=>nomatch q)
def d9(prog)(w):PySem.KeyKind prog w Key where
 is:=sy
 hash:=Xl w
 inj:=λv a b E O=>by
  rcases eF E with⟨i,t,rfl,rfl⟩|⟨x,t,rfl,rfl⟩
  .rcases eF O with⟨j,u,rfl,e⟩|⟨y,u,rfl,e⟩
   .injection e with d _;rw[d]
   .show nomatch e
  .rcases eF O with⟨j,u,rfl,e⟩|⟨y,u,rfl,e⟩
   .show nomatch e
   .injection e with d _;rw[d]
 byValue:=λk v h=>by
  rcases eF h with⟨i,t,rfl,rfl⟩|⟨x,t,rfl,rfl⟩<;>rfl
 pyHash:=λf h=>by
  rcases eF f with⟨i,t,rfl,rfl⟩|⟨x,t,rfl,rfl⟩
  .show wpAny_pyHash_int h
  .show wpAny_pyHash_str h
 eqBool:=λc f h=>by
  rcases eF c with⟨i,t,rfl,rfl⟩|⟨x,t,rfl,rfl⟩
  .rcases eF f with⟨j,u,rfl,rfl⟩|⟨y,u,rfl,rfl⟩
   .rw[RT]at h;show wpAny_eqBool_int h
   .rw[RV]at h;show SeqAt.EqAt.int_str i t y u _ _ _ _ h
  .rcases eF f with⟨j,u,rfl,rfl⟩|⟨y,u,rfl,rfl⟩
   .rw[RW]at h;show SeqAt.EqAt.str_int x t j u _ _ _ _ h
   .rw[RU]at h;show wpAny_eqBool_str h
 «strs»:=λk x t v h=>by
  rcases eF h with⟨i,u,rfl,e⟩|⟨y,u,rfl,e⟩
  .show nomatch e
  .injection e with d _
   subst d;cases v<;>rfl
def B4(prog)(w)(i)(t):(d9 prog w).is (.inl i) (.int i t)=true:=Jd i t
def B5(prog)(w)(x)(t):(d9 prog w).is (.inr x) (.str x t)=true:=Je x t
inductive V where
 | eM | bl (b:Bool) | int (i:Int) | str (x:Str) | Lj (b:Array UInt8) | WL (b:UInt64) | ref (a:Addr) | ty (n:String)
 deriving DecidableEq
def Δ:V->Value->Prop
 | .eM,u=>u=Value.none
 | .bl b,u=>u=Value.bool b
 | .int i,u=>∃t,u=Value.int i t
 | .str x,u=>∃t,u=Value.str x t
 | .Lj b,u=>∃t,u=Value.bytes b t
 | .WL b,u=>∃t,u=Value.float b t
 | .ref a,u=>u=Value.ref a
 | .ty n,u=>u=Value.type n
abbrev υ:List V->70#0->Prop:=Paired Δ
def υ.length(r:υ xs g):xs.length=g.length:=Paired.length r
def υ.get:∀{xs} {us} {i:Nat} {x},υ xs us->xs[i]?=some x->∃u,us[i]?=some u/\Δ x u
 | _,_,_,_,.nil,e=>by simp at e
 | _,_,0,_,.cons r _,e=>by simp at e;subst e;show ae _ rl r
 | _,_,i+1,x,.cons _ t,e=>by
   show af (λu Z R=>?_) (υ.get t (by simpa using e))
   show ae u (by simpa using Z) R
def υ.set(r:Δ x u):∀{xs} {us} i,υ xs us->υ (xs.set i x) (us.set i u)
 | _,_,_,.nil=>.nil
 | _,_,0,.cons _ t=>.cons r t
 | _,_,i+1,.cons q t=>.cons q (υ.set r i t)
def υ.append{xs v:List V}{g k:70#0}(h:υ xs g)(s:υ v k):υ (xs++v) (g++k):=by
 induction h with
 | nil=>show s
 | cons r _ G=>show .cons r G
def υ.take:∀{xs} {us} n,υ xs us->υ (xs.take n) (us.take n)
 | _,_,0,_=>.nil
 | _,_,_+1,.nil=>.nil
 | _,_,n+1,.cons r t=>.cons r (υ.take n t)
def υ.drop:∀{xs} {us} n,υ xs us->υ (xs.drop n) (us.drop n)
 | _,_,0,r=>r
 | _,_,_+1,.nil=>.nil
 | _,_,n+1,.cons _ t=>υ.drop n t
def jZ:Option V->Option Value->Prop
 | some v,some u=>Δ v u
 | none,none=>True
 | _,_=>False
def KV{a:Type}:List (a×V)->List (a×Value)->Prop:=Paired λp q=>p.1=q.1/\Δ p.2 q.2
def kV:Key->V
 | .inl i=>.int i
 | .inr x=>.str x
inductive HO where
 | lst (xs:List V)
 | tup (xs:List V)
 | dK (kvs:List (Key×V)) | dT (kvs:226#V)
 | set (S:Int->Bool) (n:Nat)
 | ins (C dx:Addr) (fs:List (Str×V))
 | own (x:Addr)
 | xd (fs:List (Str×V))
 | met (f x:Addr)
 | Lk (lo hi:Int)
 | p7 (o:Obj) (u:HO)
 | gQ (ps:Array Value)
 | ext (φ:Heap->Prop)
abbrev Hp:=Addr->Option HO
def η(H:Hp)(a:Addr)(o:HO):Hp:=λb=>if b=a then some o else H b
def aa:η H a o a=some o:=by unfold η;rw[ο rfl]
def ao(h:b≠a):η H a o b=H b:=by unfold η;rw[ξ h]
def bL{H:Hp}(h:H a=some o)(h' : H b=some u)(d:o≠u):a≠b:=by
 intro e;subst e;rw[h]at h';show d (20#h')
def bj{H:Hp}(h:H a=some o)(h' : H b=none):a≠b:=by
 intro e;subst e;rw[h]at h';cases h'
def OV(s:Array Value):Str:=match (s[0]?:Option Value) with | some (Value.str q _)=>q | _=>""
section
variable (P:Program)(w:World)
def dm(H:Hp)(h:Heap)(a:Addr):HO->Prop
 | .lst f=>36#f.length/\∃(C:70#0) (n:Nat),υ f C/\135#{ cls:=.type "list",data:=.seq C.toArray n}
 | .tup f=>36#f.length/\∃C:70#0,υ f C/\IsTup h a C.toArray
 | .dK L=>36#L.length/\133#a/\∃F,KV L F/\h.DictOf (d9 P w) a F
 | .dT L=>36#L.length/\133#a/\∃f:226#(Addr×Value),
  Paired (λp q=>p.1=q.1/\H q.2.1=15#(p.1.map kV)/\Δ p.2 q.2.2) L f/\
  ∃o W E,135#o/\o.ExactDict/\o.data = .dict W E/\W.toList=f.map (entryOfKey (tupleKind (d9 P w)))/\(f.map (·.1)).Nodup
 | .set S n=>h.SetOf (intKind P w) a S n
 | .ins C i W=>H i=some (.own a)/\W.length<=1000/\i≠a/\135#(PySem.W.instObj C i)/\
  ∃p,h.Ns1 i p/\(∀f,jZ (W.lookup f) (p f))/\PySem.Within p (W.map (·.1))
 | .own _=>∃o,135#o
 | .xd W=>∃p,h.Ns1 a p/\∀f,jZ (W.lookup f) (p f)
 | .Lk lo I=>∃t u v,135#{ cls:=.type "range",data:=.fields #[.int lo t,.int I u,.int 1 v]}
 | .p7 o u=>135#o/\dm H h a u
 | .gQ s=>∃i:Array Value,135#{ cls:=.none,data:=.fields i}/\((s.size=3/\(i = #[]\/∃c,i = #[s.getD 1 .none,s.getD 2 .none,.ref c]/\H c=some (.own a)/\h.CodeRec (.ref c) (OV s)))\/∃q l k,s = #[q,l,k]++i/\i.size=3)
 | .met f x=>135#(PySem.W.methodObj (.ref f) (.ref x))
 | .ext g=>g h/\(∃o,135#o)/\∀Z R:Heap,g Z->(∀o,Z.get? a=some o->R.get? a=some o)->g R
def lX(H:Hp)(h:Heap):Prop:=∀a o,H a=some o->dm P w H h a o
end
section
variable    {h h' : Heap}{a:Addr}
def dm.lt(x:dm P w H h a o):a<h.objs.size:=by
 cases o with
 | lst f=>revert x;show Ah λ_=>bh λ_ _ _ e=>?_;show a! e
 | tup f=>revert x;show bE λ_ _ _ p=>?_;show p.lt
 | dK L=>revert x;show bG λ_ _ _ _=>cQ λo _ _ e _=>?_;show a! e
 | dT L=>revert x;show bG λ_ _ _ _=>cQ λo _ _ e _=>?_;show a! e
 | set S n=>revert x;show eg λo=>cQ λ_ _ _ e _=>?_;show a! e
 | ins C i W=>revert x;show iI λ_ _ _ e _=>?_;show a! e
 | own y=>obtain⟨_,e⟩:=x;show a! e
 | xd W=>revert x;show af λ_ f _=>?_;obtain⟨_,_,_,e,_⟩:=f;show a! e
 | Lk lo I=>revert x;show fy λ_ _ _ e=>?_;show a! e
 | p7 T u=>obtain⟨e,_⟩:=x;show a! e
 | gQ i=>revert x;show af λ_ e _=>?_;show a! e
 | met f y=>show a! (x)
 | ext g=>revert x;show cW λ_ r _=>?_;obtain⟨_,e⟩:=r;show a! e
def Paired.B6{d:List m}{e:List c}(h:Paired F d e)(f:∀a b,F a b->G a b):Paired G d e:=by
 induction h with
 | nil=>show .nil
 | cons r _ g=>show .cons (f _ _ r) g
def Paired.imp'{F G:m->c->Prop}(f:∀a b,F a b->G a b){l₁}{l₂}(r:Paired F l₁ l₂):Paired G l₁ l₂:=Paired.B6 r f
def dm.stay(x:dm P w H h a o)(k:∀b u,(b=a\/H b=some (.own a))->h.get? b=some u->126#u)
 (j:∀b,H b=some (.own a)->Y b=some (.own a)) (B:∀b xs,H b=15#xs->Y b=15#xs):dm P w Y h' a o:=by
 induction o with
 | lst xs=>revert x;show Ah λz=>bh λC n r e=>?_;show aS z C n r (202#e)
 | tup xs=>revert x;show bE λz C r=>af λT e c=>?_;show cD z C (bR r T (202#e) c)
 | dK L=>revert x;show bG λz y F r=>cQ λT W E e c=>?_;show aX z y F r (bZ T W E (202#e) c)
 | dT L =>
   revert x;show bG λz y xs r=>cQ λT W E e c=>?_
   show aX z y xs (Paired.B6 r λp q z=>bF z.1 (B _ _ z.2.1) z.2.2) (bZ T W E (202#e) c)
 | set S n=>revert x;show eg λT=>cQ λW E t e c=>?_;show⟨T,(bZ W E t (202#e) c)⟩
 | ins C i f =>
   revert x;show cW λd z=>bG λG e p t r=>?_;obtain⟨m,W,E,U,c⟩:=t
   show bF (j _ d) z (aX G (202#e) p (bZ m W E (k _ _ (.inr d) U) c) r)
 | own y=>obtain⟨T,e⟩:=x;show⟨T,202#e⟩
 | xd f=>revert x;show af λp R r=>?_;obtain⟨m,W,E,e,c⟩:=R;show ae p (bZ m W E (202#e) c) r
 | Lk lo I=>revert x;show fy λt u v e=>?_;show eE t u v (202#e)
 | p7 T u G=>obtain⟨e,q⟩:=x;show⟨202#e,G q⟩
 | gQ s =>
   revert x;show af λi e f=>?_
   show ae i (202#e) ?_;rcases f with⟨m,f|⟨c,t,U,A,l,F,d,L,q,J,g⟩⟩|f
   .show .inl ⟨m,.inl f⟩
   .cases L;show .inl ⟨m,.inr (ae c t (cD (j _ U) c (aV l F d rl (k _ _ (.inr U) q) J g)))⟩
   .show .inr f
 | met f y =>
   have e:=x;show k a _ (.inl rl) e
 | ext g=>revert x;show cW λp O st=>?_;obtain⟨o,e⟩:=O;show bF (st _ _ p λo q=>202#q) ⟨o,202#e⟩ st
def lX.lt(x:lX P w H h)(e:H a=some o):a<h.objs.size:=(x a o e).lt
def lX.fresh(x:lX P w H h)(e:h.objs.size<=a):H a=none:=by
 cases q:H a with
 | none=>rfl
 | some u=>show 204#(t! (x.lt q) e)
def lX.kept(x:lX P w H h)(k:∀b u,h.get? b=some u->126#u):lX P w H h':=λa o e =>
 (x a o e).stay (λb u _ q=>k b u q) (λ_ q=>q) λ_ _ q=>q
def lX.laid(x:lX P w H h)(k:∀b u,h.get? b=some u->126#u)(M:h.objs.size<=a)(Q:dm P w (η H a o) h' a o):lX P w (η H a o) h':=λb u e=>by
 have g:=x.fresh M
 by_cases O:b=a
 .subst O;rw[aa]at e;cases e;show Q
 .rw[ao O]at e;show(x b u e).stay (λc v _ q=>k c v q) (λc q=>150#(bj q g)) λc f q=>150#(bj q g)
end
def Rd(H:Hp)(a:Addr)(u:HO):Prop:=H a=some u\/∃o,215#(.p7 o u)
def Rd.ok(r:Rd H a u)(x:lX P w H h):dm P w H h a u:=by
 rcases r with r|⟨o,r⟩
 .show x a u r
 .obtain⟨_,q⟩:=x a _ r;show q
def UR:Option HO->Prop
 | some (.lst _)=>True
 | some (.dK _)=>True
 | some (.dT _)=>True
 | some (.set _ _)=>True
 | some (.ins _ _ _)=>True
 | some (.ext _)=>True
 | _=>False
section
variable    {h h' : Heap}
def lX.write(j:lX P w H h)(g:UR (H x))(T:e=x\/H e=some (.own x))(k:∀b u,b≠e->h.get? b=some u->126#u)(l:∃u,h'.get? e=some u)
 (Q:dm P w (η H x S) h' x S):lX P w (η H x S) h':=λb u q=>by
 have d:∀c y,H c=some (.own y)->c≠x:=λc y r z=>by subst z;rw[r]at g;show g
 have m:∀c f,H c=some (.tup f)->c≠x:=λc f r z=>by subst z;rw[r]at g;show g
 by_cases O:b=x
 .subst O;rw[aa]at q;cases q;show Q
 .rw[ao O]at q
  by_cases i:b=e
  .have C:H b=some (.own x):=by
    rcases T with z|z
    .show absurd (i.trans z) O
    .rw[i];show z
   rw[q]at C;cases C;obtain⟨v,a⟩:=l;show⟨v,by rw[i];show a⟩
  .show(j b u q).stay (λc v L r=>k c v ?_ r) (λc r=>by rw[ao (d c b r)];show r) λc f r=>by rw[ao (m c f r)];show r
   rcases L with rfl|L
   .show i
   .rintro rfl;rcases T with z|z
    .show d c b L z
    .rw[L]at z;cases z;show O rfl
end
structure Un(fs ex:214#0)(H H' : Hp)(h h' : Heap):Prop where
 keep:∀b o,48#h.get?->H b=none->b∉fs->b∉ex->48#h'.get?
 slot:∀b o,48#h.get?->H b=none->b∈fs->b∉ex->∃sl,126#{ o with slots:=sl}
 free:∀b o,48#h.get?->H b=none->b∉ex->H' b=none
 there:∀b o,48#h.get?->b∉ex->∃o',126#o'
 tups:∀b xs,H b=15#xs->H' b=15#xs
 jN:∀b o u,H b=some (.p7 o u)->H' b=some (.p7 o u)
 l8:∀b ps,H b=some (.gQ ps)->∃more,H' b=62#(ps++more)
section
variable   {h h1 h2 h' : Heap}{a x e:Addr}
def Un.any(u:Un W ex H N h h1)(q:h.get? b=some ob)(n:H b=none)(B:b∉ex):∃i,h1.get? b=some { ob with slots:=i}:=by
 by_cases O:b∈W
 .show u.slot b ob q n O B
 .show⟨ob.slots,u.keep b ob q n O B⟩
def Un.kept(k:∀b u,h.get? b=some u->126#u):Un W ex H H h h' :=
 ⟨λb T q _ _ _=>k b T q,λb T q _ _ _=>⟨T.slots,k b T q⟩,λ_ _ _ n _=>n,λb T q _=>⟨T,k b T q⟩,λ_ _ q=>q,λ_ _ _ q=>q,λ_ i q=>⟨#[],by rw[q];simp⟩⟩
def Un.refl:Un W ex H H h h:=Un.kept λ_ _ q=>q
def Un.laid(k:∀b u,h.get? b=some u->126#u)(M:h.objs.size<=a)(g:H a=none):Un W ex H (η H a o) h h' where
 keep:=λb u q _ _ _=>k b u q
 slot:=λb u q _ _ _=>⟨u.slots,k b u q⟩
 free:=λb u q n _=>by rw[ao (n! (t! (a! q) M))];show n
 there:=λb u q _=>⟨u,k b u q⟩
 tups:=λb f q=>150#(bj q g)
 jN:=λb u f q=>150#(bj q g)
 l8:=λb i q=>⟨#[],by rw[ao (bj q g),q];simp⟩
def Un.write(g:UR (H x))(T:e=x\/H e=some (.own x))(k:∀b u,b≠e->h.get? b=some u->126#u)(l:∃u,h'.get? e=some u):Un W ex H (η H x o) h h':=by
 have B:∀b,H b=none->b≠x:=λb n z=>by subst z;rw[n]at g;show g
 have O:∀b,H b=none->b≠e:=λb n z=>by
  subst z;rcases T with r|r
  .show B b n r
  .rw[n]at r;cases r
 have d:∀b u,H b=some u->¬ UR (some u)->b≠x:=λb u q S z=>by subst z;rw[q]at g;show S g
 show⟨λb u q n _ _=>k b u (O b n) q,λb u q n _ _=>⟨u.slots,k b u (O b n) q⟩,λb u q n _=>by rw[ao (B b n)];show n,λb u q _=>?_,
  λb f q=>150#(d b _ q λz=>z),λb u f q=>150#(d b _ q λz=>z),λb i q=>⟨#[],by rw[ao (d b _ q λz=>z),q];simp⟩⟩
 by_cases i:b=e
 .subst i;show l
 .show⟨u,k b u i q⟩
end
def Us(h:Heap)(H:Hp):214#0:=(19#h.objs.size).filter λa=>(H a).isSome
def B7(h:Heap)(H:Hp):Heap:=PySem.W.hideAll h (Us h H)
def Jf(h:Heap)(H:Hp):(B7 h H).objs.size=h.objs.size:=PySem.W.hideAll_size _ _
def uC{h:Heap}(e:48#h.get?)(n:H b=none):48#(B7 h H).get? :=
 PySem.W.hideAll_get _ e λd=>by
  have q:=(K!.mp d).2;rw[n]at q;simp at q
def OX(e:48#(B7 h H).get?):48#h.get?/\H b=none:=by
 have D:=PySem.W.of_hideAll (Us h H) e;show⟨D,?_⟩;cases q:H b with
 | none=>rfl
 | some x =>
   have d:b∈Us h H:=K!.mpr ⟨E!.mpr (a! D),by simp[q]⟩
   have z:(B7 h H).get? b=none:=PySem.W.hideAll_none (Us h H) d;rw[z]at e;cases e
structure Mod(K:cu)(mg:xA)(base:Heap):Prop where
 OY:K.In base
 glob:166#base.Ns
 blt:∃mb,base.Ns builtinsNs mb/\∀x:Str,x≠"__name__"->mb x=bootBuiltins x
 nolimit:base.NoLimit
 bmain:∃bm ob,mg "__builtins__"=30#bm/\bm≠builtinsNs/\base.get? bm=some ob/\ob.cls = .type "module"/\ob.dict=some builtinsNs/\ob.data = .plain
structure Cx where
 prog:Program
 w:World
 K:cu
 mg:Str->Option Value
 base:Heap
 A:Around
 N:List Str
 s₀:Shared
 H₀:Hp
 env:Env
 outer:List Env
 stack:List Env
 ex:214#0
 fn:Str->Bool
 calm:Bool
 pn:cF
 xe:Value->Shared->Prop
def frs(l:List Env):214#0:=l.filterMap (·.frame)
abbrev Cx.fs(X:Cx):214#0:=frs X.outer
def WM(f:Scope)(x:Str):Prop:=f.names.lookup x=some .local\/f.names.lookup x=some .cell\/f.names.lookup x=some .free
def Loc(f:Scope)(x:Str):Prop:=f.names.lookup x=some .local\/f.names.lookup x=some .cell
def Look(env:Env)(h:Heap)(m:xA)(x:Str)(u:Value):Prop :=
 (env.kindOf x=some .local/\m x=some u)\/((env.kindOf x=some .cell\/env.kindOf x=some .free)/\∃c,env.cells.lookup x=some c/\h.IsCell c (some u))
structure Cx.Ok(X:Cx):Prop where
 mod:Mod X.K X.mg X.base
 kind:X.env.scope.kind = .function
 glob:X.env.globals=mainGlobals
 blt:X.env.builtins=builtinsNs
 above:144#X.env.locals
 inj:∀x y c,33#x->33#y->x=y
 has:∀x,(X.env.kindOf x=some .cell\/X.env.kindOf x=some .free)->∃c,33#x
 RX:∀x c,X.fn x=true->33#x->144#c
 hd:X.calm=true->X.A.handled=none
 frames:X.A.frames=some X.stack
 Lu:X.stack=X.outer\/(X.stack=X.env::X.outer/\X.env.frame=some X.env.locals)
 WN:∀b∈X.ex,114#b/\∀x c,33#x->c≠b
 bs:∀b o,48#X.base.get?->48#X.s₀.heap.get?/\X.H₀ b=none
 Ll:X.base.objs.size<=X.s₀.heap.objs.size
 EO:∀b o,48#X.base.get?->b∉X.ex
 Jg:∀b∈X.ex,b∉X.fs
 funs:X.s₀.heap.FunFrames X.base X.outer
 Lv:∀b∈X.fs,X.H₀ b=none
structure θ(X:Cx)(pq:cF)(σ:List (Option V))(H:Hp)(s:Shared):Prop where
 ok:X.Ok
 os:s.os=X.s₀.os
 bare:AllBare s.gens
 base:Un X.fs X.ex X.H₀ H X.s₀.heap s.heap
 loc:∃m,s.heap.Ns X.env.locals m/\∀(i:Nat) (x:Str) (v:V),X.N[i]?=some x->σ[i]?=some (some v)->WM X.env.scope x->∃u,Δ v u/\Look X.env s.heap m x u
 cell:∀x c,33#x->∃v,s.heap.IsCell c v
 free:H X.env.locals=none
 gG:∀x c,33#x->H c=none
 pin:∀p∈X.pn++pq,s.heap.get? p.1=some p.2/\H p.1=none/\114#p.1/\p.1∉X.fs/\∀v,p.2.data≠.cell v
 hok:lX X.prog X.w H s.heap
 len:σ.length=X.N.length
section
variable {X:Cx}{pq:cF}{σ:List (Option V)}{H H' : Hp}{s:Shared}{h' : Heap}
def Cx.Ok.Xm(j:X.Ok)(e:48#X.base.get?):b∉X.fs:=λO=>by
 have:=(j.funs.mem O).1;rw[e]at this;cases this
def θ.bs(I:5#s):∀b o,48#X.base.get?->16#o/\H b=none:=λb o e =>
 ⟨I.base.keep b o (I.ok.bs b o e).1 (I.ok.bs b o e).2 (I.ok.Xm e) (I.ok.EO b o e),I.base.free b o (I.ok.bs b o e).1 (I.ok.bs b o e).2 (I.ok.EO b o e)⟩
def θ.bk(I:5#s):∀b o,48#X.base.get?->16#o:=λb o e=>(I.bs b o e).1
def θ.mod(I:5#s):Mod X.K X.mg X.base:=I.ok.mod
def θ.pB(I:5#s):X.K.In s.heap:=I.ok.mod.OY.keeps I.bk
def θ.nolimit(I:5#s):s.heap.NoLimit:=I.ok.mod.nolimit.keeps I.bk
def θ.lt(I:5#s):X.env.locals<s.heap.objs.size:=let⟨_,hn,_⟩:=I.loc;hn.lt
def θ.sz(I:5#s):144#s.heap.objs.size:=b! I.ok.above (U! I.lt)
def θ.US(I:5#s){a:Addr}(h:180#a):a∉X.fs:=λO=>by
 show bE (λ_ o Y _=>?_) (I.ok.funs.mem O)
 show 204#(t! (a! Y) (b! I.sz h))
def θ.UT(I:5#s):∀x c,33#x->114#c:=λx c e z=>by
 show bh (λv o Y J=>?_) (I.cell x c e)
 show af (λm P _=>?_) I.loc;obtain⟨S,W,E,q,d,_⟩:=P
 rw[z,q]at Y;cases Y;rw[d]at J;cases J
def θ.funs(I:5#s):s.heap.FunFrames X.base X.outer:=by
 have all:∀(l:List Env),(∀b∈frs l,b∈X.fs)->X.s₀.heap.FunFrames X.base l->s.heap.FunFrames X.base l:=by
  intro l
  induction l with
  | nil=>intro _ _;trivial
  | cons d r G =>
    intro W P
    revert P;show cW λY t C=>?_;obtain⟨L,o,F,g,a,J⟩:=t
    have U:=W L (by unfold frs;rw[adH,F];show g!)
    obtain⟨i,e⟩:=I.base.slot L o a (I.ok.Lv L U) U λz=>I.ok.Jg L z U
    show bF Y (bC L _ F g e J) (G (λb O=>W b (by unfold frs;rw[adH,F];show jx _ O)) C)
 show all X.outer (λ_ O=>O) I.ok.funs
def θ.stack(I:5#s):s.heap.FunFrames X.base X.stack:=by
 rcases I.ok.Lu with e|⟨e,F⟩
 .rw[e];show I.funs
 .rw[e];show af (λm g _=>?_) I.loc
  show .cons (by rw[I.ok.kind];decide) F g ?_ I.funs
  show adz (b! I.ok.Ll I.ok.above)
def θ.uD(I:5#s):∀b∈frs X.stack,b∈X.env.locals::X.fs:=λb O=>by
 rcases I.ok.Lu with e|⟨e,F⟩
 .rw[e]at O;show jx _ O
 .rw[e]at O;unfold frs at O;rw[adH,F]at O;show O
def θ.tZ(I:5#s):∀b∈frs X.stack,H b=none:=λb O=>by
 rcases Z'.mp (I.uD b O) with e|O
 .rw[e];show I.free
 .show bE (λ_ o Y _=>?_) (I.ok.funs.mem O)
  show I.base.free b o Y (I.ok.Lv b O) λz=>I.ok.Jg b z O
def θ.step{ch:214#0}(I:5#s)
 (a:∀b∈ch,(b∈X.ex\/144#b)/\114#b/\(∀x c,33#x->c≠b)/\∀p∈X.pn++pq,p.1≠b)
 (keep:∀b o,114#b->b∉X.fs->b∉ch->16#o->H b=none->48#h'.get?)
 (slot:∀b o,114#b->b∈X.fs->b∉ch->16#o->H b=none->∃E,126#{ o with slots:=E}) (free:∀b o,b∉ch->16#o->H b=none->H' b=none)
 (there:∀b o,b∉ch->16#o->∃S,126#S)
 (tups:∀b xs,H b=15#xs->H' b=15#xs) (jN:∀b o u,H b=some (.p7 o u)->H' b=some (.p7 o u)) (l8:∀b A,H b=some (.gQ A)->∃w,H' b=62#(A++w))
 (ns:∀m,s.heap.Ns X.env.locals m->h'.Ns X.env.locals m) (D:lX X.prog X.w H' h') (F:AllBare C) :
 θ X pq σ H' { s with heap:=h',gens:=C,drawn:=N,toks:=t'}:=by
 have y:∀b o,48#X.s₀.heap.get?->114#b:=λb o e=>n! (t! (a! e) I.ok.above)
 have h:∀b o,48#X.s₀.heap.get?->b∉X.ex->b∉ch:=λb o e B O=>by
  rcases(a b O).1 with z|z
  .show B z
  .show 204#(t! (a! e) z)
 have j:∀x c,33#x->∀v,s.heap.IsCell c v->h'.IsCell c v:=λx c e v=>af λo Y J=>by
  have f:c∉ch:=λz=>(a c z).2.2.1 x c e rfl
  by_cases L:c∈X.fs
  .obtain⟨E,q⟩:=slot c o (I.UT x c e) L f Y (I.gG x c e);show ae _ q J
  .show ae o (keep c o (I.UT x c e) L f Y (I.gG x c e)) J
 show⟨I.ok,I.os,F,⟨λb o e n O B=>?_,λb o e n O B=>?_,λb o e n B=>?_,λb o e B=>?_,λb xs e=>tups b xs (I.base.tups b xs e),λb o xs e=>jN b o xs (I.base.jN b o xs e),λb A e=>?_⟩,?_,λx c e=>?_,?_,λx c e=>?_,λp M=>?_,D,I.len⟩
 .show keep b o (y b o e) O (h b o e B) (I.base.keep b o e n O B) (I.base.free b o e n B)
 .obtain⟨E,t⟩:=I.base.slot b o e n O B;obtain⟨f,U⟩:=slot b _ (y b o e) O (h b o e B) t (I.base.free b o e n B);show⟨f,U⟩
 .obtain⟨S,t⟩:=I.base.there b o e B;show free b S (h b o e B) t (I.base.free b o e n B)
 .obtain⟨S,t⟩:=I.base.there b o e B;show there b S (h b o e B) t
 .obtain⟨l,t⟩:=I.base.l8 b A e;obtain⟨P,U⟩:=l8 b _ t;show⟨l++P,by rw[U,Array.append_assoc]⟩
 .show af (λm g P=>?_) I.loc
  show ae m (ns m g) λi x v t U R=>?_
  show af (λu r l=>?_) (P i x v t U R)
  show ae u r ?_;rcases l with l|⟨k,c,e,z⟩
  .show .inl l
  .show .inr (bR k c e (j x c e _ z))
 .obtain⟨v,z⟩:=I.cell x c e;show⟨v,j x c e v z⟩
 .show af (λm f _=>?_) I.loc;obtain⟨o,_,_,Y,_⟩:=f
  show free _ o (λz=>(a _ z).2.1 rl) Y I.free
 .show bh (λv o Y J=>?_) (I.cell x c e)
  show free c o (λz=>(a c z).2.2.1 x c e rl) Y (I.gG x c e)
 .show iI (λe n G k d=>?_) (I.pin p M)
  have f:p.1∉ch:=λz=>(a p.1 z).2.2.2 p M rfl
  show dD (keep p.1 p.2 G k f e n) (free p.1 p.2 f e n) G k d
def θ.un(I:5#s)(u:Un X.fs [] H H' s.heap h')(D:lX X.prog X.w H' h'):θ X pq σ H' 217#0:=by
 show af (λm c _=>?_) (id I.loc);obtain⟨o,W,E,Y,r⟩:=c
 obtain⟨i,U⟩:=u.any Y I.free 22#0
 show I.step (ch:=[]) (λ_ z=>nomatch z) (λb o _ O _ e n=>u.keep b o e n O 22#0) (λb o _ O _ e n=>u.slot b o e n O 22#0) (λb o _ e n=>u.free b o e n 22#0) (λb o _ e=>u.there b o e 22#0) u.tups u.jN u.l8 (λB d=>by
  revert d;show cQ λS y Z q G=>?_
  rw[Y]at q;cases q;show bZ _ y Z U G) D I.bare
def θ.call(I:5#s)(u:Un (frs X.stack) ch H H' s.heap h')(D:lX X.prog X.w H' h')(M:AllBare C)
 (a:∀b∈ch,(b∈X.ex\/144#b)/\114#b/\(∀x c,33#x->c≠b)/\∀p∈X.pn++pq,p.1≠b) :
 θ X pq σ H' { s with heap:=h',gens:=C,drawn:=l,toks:=t'}:=by
 show af (λm f _=>?_) (id I.loc);obtain⟨o,W,E,Y,r⟩:=f
 obtain⟨i,U⟩:=u.any Y I.free λz=>(a _ z).2.1 rfl
 show I.step a (λb o U O L e n=>u.keep b o e n (λz=>(Z'.mp (I.uD b z)).elim U O) L) (λb o _ _ L e n=>u.any e n L) (λb o L e n=>u.free b o e n L) (λb o L e=>u.there b o e L) u.tups u.jN u.l8 (λB d=>by
  revert d;show cQ λS y Z q G=>?_
  rw[Y]at q;cases q;show bZ _ y Z U G) D M
def θ.turned(I:5#s)(k:∀b o,b≠y->16#o->48#h'.get?)(g:H y=none)(U:114#y)
 (Z:y∈X.ex\/144#y) (R:∀x c,33#x->c≠y) (l:∀p∈X.pn++pq,p.1≠y):5#217#0:=by
 have a:∀b u,H b=some u->b≠y:=λb u e z=>by rw[z,g]at e;cases e
 show I.step (ch:=[y]) (λb O=>?_) (λb o _ _ L e _=>k b o (λz=>L (by simp[z])) e) (λb o _ _ L e _=>⟨o.slots,k b o (λz=>L (by simp[z])) e⟩) (λ_ _ _ _ n=>n)
  (λb o L e=>⟨o,k b o (λz=>L (by simp[z])) e⟩) (λ_ _ e=>e) (λ_ _ _ e=>e) (λb i e=>⟨#[],by rw[e];simp⟩) (λm d=>?_) (λb u e=>?_) I.bare
 .have e:b=y:=108#0
  subst e;show e7 Z U R l
 .revert d;show cQ λo W E Y r=>?_
  show bZ o W E (k _ o (e! U) Y) r
 .show(I.hok b u e).stay (λc v L q=>k c v ?_ q) (λ_ q=>q) λ_ _ q=>q
  rcases L with z|z
  .rw[z];show a b u e
  .show a c _ z
def θ.tok(I:5#s)(t):5#{ s with toks:=t}:=I.un Un.refl I.hok
def θ.kept(I:5#s)(k:∀b u,16#u->126#u):5#217#0:=I.un (Un.kept k) (I.hok.kept k)
def θ.laid{a:Addr}(I:5#s)(k:∀b u,16#u->126#u)(M:180#a)(Q:dm X.prog X.w (η H a o) h' a o):
 θ X pq σ (η H a o) 217#0:=I.un (Un.laid k M (I.hok.fresh M)) (I.hok.laid k M Q)
def θ.write(I:5#s)(g:UR (H x))(T:e=x\/H e=some (.own x))(k:∀b u,b≠e->16#u->126#u)(l:∃u,h'.get? e=some u)
 (Q:dm X.prog X.w (η H x o) h' x o):θ X pq σ (η H x o) 217#0:=I.un (Un.write g T k l) (I.hok.write g T k l Q)
def θ.weak{k:List (Option V)}(I:5#s)(P:k.length=σ.length)(w:∀(i:Nat) v,k[i]?=some (some v)->σ[i]?=some (some v)):θ X pq k H s :=
 ⟨I.ok,I.os,I.bare,I.base,let⟨m,hn,hl'⟩:=I.loc;(ae m hn (λi x v t U R=>hl' i x v t (w i v U) R)),I.cell,I.free,I.gG,I.pin,I.hok,P.trans I.len⟩
def θ.gT{Ut:cF}(I:5#s)(h:∀p∈Ut,s.heap.get? p.1=some p.2/\H p.1=none/\114#p.1/\p.1∉X.fs/\∀v,p.2.data≠.cell v):θ X Ut σ H s :=
 ⟨I.ok,I.os,I.bare,I.base,I.loc,I.cell,I.free,I.gG,λp M=>(D!.mp M).elim (λz=>I.pin p (Ur _ z)) (h p),I.hok,I.len⟩
def uE{N:List Str}(o:N.Nodup){i j:Nat}(a:N[i]?=some x)(b:N[j]?=some x):i=j:=by
 obtain⟨Z,t⟩:=iJ.mp a;obtain⟨R,U⟩:=iJ.mp b;show(_Q o).mp (t.trans U.symm)
def Jh{M:Model}{A:Around}{E:xw}{i:Nat}{x:Str}{v:V}{u:Value}{Q:Unit->Shared->Prop}(I:5#s)(hN:X.N.Nodup)(hi:X.N[i]?=some x)(B:Loc X.env.scope x)(r:Δ v u)
 (h:∀Z,θ X pq (σ.set i (some v)) H Z->(∃a,Heap.SameBut a s.heap Z.heap/\(a=X.env.locals\/X.env.cells.lookup x=some a))->Q () Z) (F:X.fn x=true\/32#x:=by show 111):186#(storeName X.env x u):=by
 show af (λm g P=>?_) (id I.loc)
 have f:(X.env.scope.kind == .class || (X.env.scope.kind == .module&&X.env.locals != X.env.globals))=false:=by rw[I.ok.kind];rfl
 have M:i<σ.length:=by rw[I.len];show(iJ.mp hi).1
 have N:=I.UT;have Q:∀{a:Addr} {h' : Heap},(∃o,s.heap.get? a=some o/\H a=none)->213#a->lX X.prog X.w H h':=λ{a h'} c W b T e=>by
  revert c;show af λ_ _ d=>?_
  show(I.hok b T e).stay (λc v L q=>(W.2 c ?_).trans q) (λ_ q=>q) λ_ _ q=>q
  rintro rfl;rcases L with rfl|L
  .rw[d]at e;cases e
  .rw[d]at L;cases L
 rcases B with Y|Y
 .show wpAny_storeName_local Y g (λh' C W=>?_) f
  show cQ (λl _ _ f _=>?_) (id g)
  show h _ ⟨I.ok,I.os,I.bare,⟨λb o e n O B=>?_,λb o e n O B=>?_,I.base.free,λb o e B=>?_,I.base.tups,I.base.jN,I.base.l8⟩,ae _ C λj y E t U R=>?_,λy c e=>?_,I.free,I.gG,λp A=>?_,Q (ae l f I.free) W,by simpa using I.len⟩ (ae _ W (.inl rl))
  .show(W.2 b (n! (t! (a! e) I.ok.above))).trans (I.base.keep b o e n O B)
  .obtain⟨d,t⟩:=I.base.slot b o e n O B;show⟨d,(W.2 b (n! (t! (a! e) I.ok.above))).trans t⟩
  .obtain⟨S,t⟩:=I.base.there b o e B;show⟨S,(W.2 b (n! (t! (a! e) I.ok.above))).trans t⟩
  .by_cases D:j=i
   .subst D;rw[hi]at t;cases t;rw[Q_ M]at U;cases U;show ae u r (.inl ⟨Y,by simp⟩)
   .rw[V_ (e! D)]at U;show af (λw G q=>?_) (P j y E t U R)
    show ae w G ?_;rcases q with⟨k,e⟩|⟨k,c,e,z⟩
    .show .inl ⟨k,?_⟩;have:y≠x:=λe=>D (uE hN t (e▸hi))
     simp[this,e]
    .show .inr (bR k c e (z.sameBut W (N y c e)))
  .obtain⟨v,z⟩:=I.cell y c e;show⟨v,z.sameBut W (N y c e)⟩
  .show iI (λe n G k d=>?_) (I.pin p A)
   show dD ((W.2 p.1 G).trans e) n G k d
 .have J:X.fn x=true:=by
   rcases F with z|z
   .show z
   .rw[z]at Y;cases Y
  obtain⟨c,L⟩:=I.ok.has x (.inl Y);obtain⟨v,z⟩:=I.cell x c L;show wpAny_storeName_cell I.ok.kind Y L z (λh' C W=>?_)
  show af (λl F f=>?_) (id z)
  show h { s with heap:=h'} ⟨I.ok,I.os,I.bare,⟨λb o e n O B=>?_,λb o e n O B=>?_,I.base.free,λb o e B=>?_,I.base.tups,I.base.jN,I.base.l8⟩,ae m (g.sameBut W (e! (N x c L))) λj y E t U R=>?_,λy a e=>?_,I.free,I.gG,λp A=>?_,Q (ae l F (I.gG x c L)) W,by simpa using I.len⟩ (ae c W (.inr L))
  .show(W.2 b (n! (t! (a! e) (I.ok.RX x c J L)))).trans (I.base.keep b o e n O B)
  .obtain⟨d,t⟩:=I.base.slot b o e n O B;show⟨d,(W.2 b (n! (t! (a! e) (I.ok.RX x c J L)))).trans t⟩
  .obtain⟨S,t⟩:=I.base.there b o e B;show⟨S,(W.2 b (n! (t! (a! e) (I.ok.RX x c J L)))).trans t⟩
  .by_cases D:j=i
   .subst D;rw[hi]at t;cases t;rw[Q_ M]at U;cases U;show ae u r (.inr (bR (.inl Y) c L C))
   .rw[V_ (e! D)]at U;show af (λw G q=>?_) (P j y E t U R)
    show ae w G ?_;rcases q with q|⟨k,a,e,d⟩
    .show .inl q
    .show .inr (bR k a e (d.sameBut W ?_));rintro rfl;show D (uE hN t (I.ok.inj _ _ _ e L▸hi))
  .by_cases d:a=c
   .subst d;show⟨_,C⟩
   .obtain⟨k,q⟩:=I.cell y a e;show⟨k,q.sameBut W d⟩
  .show iI (λe n G k d=>?_) (I.pin p A)
   show dD ((W.2 p.1 ?_).trans e) n G k d;intro q;rw[q,F]at e;have C:=20#e;show d v (by rw[<-C];show f)
def l9{M:Model}{A:Around}{E:xw}{i:Nat}{x:Str}{v:V}{u:Value}{Q:Unit->Shared->Prop}(I:5#s)(o:X.N.Nodup)(a:X.N[i]?=some x)(B:Loc X.env.scope x)(r:Δ v u)
 (h:∀Z,θ X pq (σ.set i (some v)) H Z->Q () Z) (F:X.fn x=true\/32#x:=by show 111):186#(storeName X.env x u) :=
 Jh I o a B r (λZ c _=>h Z c) F
def θ.Lw{Z:Shared}(I:5#s)(Y:Z.os=s.os)(u:Un (frs X.stack) ch H H' s.heap Z.heap)(D:lX X.prog X.w H' Z.heap)(M:AllBare Z.gens)
 (a:∀b∈ch,(b∈X.ex\/144#b)/\114#b/\(∀x c,33#x->c≠b)/\∀p∈X.pn++pq,p.1≠b):θ X pq σ H' Z:=by
 obtain⟨h',C,l,T,S⟩:=Z;have e:=Y;subst e;show I.call u D M a
end
abbrev XK:=Value->184#0->Hp->Prop
abbrev St:=List (Option V)
abbrev VK:=V->Hp->Prop
abbrev TE:=80#St
abbrev TT:=St->Hp->(Bool->Hp->Prop)->Prop
abbrev TA:=St->Hp->(List V->Hp->Prop)->Prop
structure Ends where
 nx:St->Hp->Prop
 rt:VK
 bk:St->Hp->Prop:=51#0
 ct:St->Hp->Prop:=51#0
abbrev TS:=Ends->St->Hp->Prop
def EP(X:Cx)(S:cF)(U:St)(Q:VK)(u:Value)(Z:Shared):Prop:=∃v Y,θ X S U Y Z/\Δ v u/\Q v Y
def TP(X:Cx)(S:cF)(U:St)(Q:Bool->Hp->Prop)(b:Bool)(Z:Shared):Prop:=∃Y,θ X S U Y Z/\Q b Y
def AP(X:Cx)(S:cF)(U:St)(Q:List V->Hp->Prop)(g:70#0)(Z:Shared):Prop:=∃F Y,θ X S U Y Z/\υ F g/\Q F Y
def SP(X:Cx)(S:cF)(D:Ends)(f:Flow)(Z:Shared):Prop :=
 match f with
 | .next=>∃k Y,θ X S k Y Z/\D.nx k Y
 | .brk=>∃k Y,θ X S k Y Z/\D.bk k Y
 | .cont=>∃k Y,θ X S k Y Z/\D.ct k Y
 | .ret u=>∃v k Y,θ X S k Y Z/\Δ v u/\D.rt v Y
def PE(X:Cx)(e:Expr)(t:TE):Prop :=
 ∀pq s (σ:St) H Q,5#s->t σ H Q->98#123#e
def PT(X:Cx)(e:Expr)(t:TT):Prop :=
 ∀pq s (σ:St) H Q,5#s->t σ H Q->wpAny 8#0 X.A (isTrue e X.env 123#e) (TP X pq σ Q) X.xe s
def PW(X:Cx)(e:Expr)(t:TT):Prop :=
 ∀whole pq s (σ:St) H Q,5#s->t σ H Q->wpAny 8#0 X.A (isTrue e X.env whole) (TP X pq σ Q) X.xe s
def PW.pt(h:PW X e t):PT X e t:=h _
def PA(X:Cx)(W:List Expr)(t:TA):Prop :=
 ∀pos pq s (σ:St) H Q,5#s->t σ H Q->wpAny 8#0 X.A (spliced (179#9#W)) (AP X pq σ Q) X.xe s
def PS(X:Cx)(st:Stmt)(t:TS):Prop :=
 ∀pq s (σ:St) H D,5#s->t D σ H->wpAny 8#0 X.A (exec st X.env) (SP X pq D) X.xe s
def pY(X:Cx)(st:List Stmt)(t:TS):Prop :=
 ∀pq s (σ:St) H D,5#s->t D σ H->wpAny 8#0 X.A (execs st X.env) (SP X pq D) X.xe s
def c6(h:186#t)(T:∀a s,Q a s->f a s):wpAny M A t f E s:=p! h T λ_ _ x=>x
section
variable {X:Cx}
def j0(i:Nat):TE:=λU H Q=>∃v,U[i]?=some (some v)/\Q v H
def tC(v:V):TE:=λ_ H Q=>Q v H
def RY{i:Nat}{x:Str}{b:Pos}(o:X.N[i]?=some x)(a:WM X.env.scope x)(J:193#("__debug__":Str):=by decide)(p:193#("__classdict__":Str):=by decide):PE X (.Name x b) (j0 i):=by
 show 47
 revert h;show af λv e h=>?_
 show af (λm g P=>?_) I.loc
 show af (λu r l=>?_) (P i x v o e a)
 have F:EP X S U Q u s:=aq v H I r h;rcases l with⟨Y,d⟩|⟨Y,c,L,R⟩
 .show wpAny_Name (wpAny_loadName_local I.ok.kind Y g d F) J
 .rcases Y with Y|Y
  .show wpAny_Name (wpAny_loadName_cell I.ok.kind Y L R F) J
  .show wpAny_Name (wpAny_loadName_free I.ok.kind Y L R F p) J
def av{i j pos}:PE X (.Constant (.int i) j pos) (tC (.int i)):=λ_ _ _ H _ I h=>wpAny_Constant_int (aq (.int i) H (I.tok _) 197#0 h)
def fK{b j pos}:PE X (.Constant (.bool b) j pos) (tC (.bl b)):=λ_ _ _ H _ I h=>Constant_bool (aq (.bl b) H I rl h)
def c7{j pos}:PE X (.Constant .none j pos) (tC .eM):=λ_ _ _ H _ I h=>Constant_none (aq .eM H I rl h)
def bg{x j pos}:PE X (.Constant (.str x) j pos) (tC (.str x)):=λ_ _ _ H _ I h=>Calls.Constant_str (aq (.str x) H (I.tok _) 197#0 h)
def Gl(X:Cx)(x:Str):Prop:=X.env.kindOf x=some .globalImplicit
def kQ{E:xw}{S:cF}{s:Shared}{U:St}{H:Hp}{x:Str}{u:Value}{l:Pos}{Q:xw}(I:θ X S U H s)(M:Gl X x)(d:X.mg x=some u)(h:Q u s)
 (J:193#("__debug__":Str):=by decide):wpAny 8#0 X.A 123#(.Name x l) Q E s :=
 Calls.Name_function_global I.ok.kind M (Calls.loadGlobal_global (by rw[I.ok.glob];show I.mod.glob.keeps I.bk) d h) J
def jO{E:xw}{S:cF}{s:Shared}{U:St}{H:Hp}{x:Str}{u:Value}{l:Pos}{Q:xw}(I:θ X S U H s)(M:Gl X x)(d:X.mg x=none)(a:bootBuiltins x=some u)(h:Q u s)
 (g:x≠"__name__":=by decide) (J:193#("__debug__":Str):=by decide):wpAny 8#0 X.A 123#(.Name x l) Q E s:=by
 show af (λb Z R=>?_) I.mod.blt
 show Calls.Name_function_global I.ok.kind M (Calls.loadGlobal_builtin (by rw[I.ok.glob];show I.mod.glob.keeps I.bk) d (by rw[I.ok.blt];show Z.keeps I.bk) ((R x g).trans a) h) J
def Ai{x:Str}{v:V}{u:Value}{l:Pos}(M:Gl X x)(d:X.mg x=some u)(r:Δ v u)(J:193#("__debug__":Str):=by decide):72#(tC v) :=
 λ_ _ _ H _ I h=>kQ I M d (aq v H I r h) J
variable {a b:Expr}  {pos:Pos}
def PC(X:Cx)(op:CmpOp)(a b:Expr)(t:TE):Prop :=
 ∀pq s (σ:St) H Q,5#s->t σ H Q->
   wpAny 8#0 X.A 123#a (λv B=>wpAny 8#0 X.A 123#b (λu q=>wpAny 8#0 X.A (compareOp op v u) (EP X pq σ Q) X.xe q) X.xe B) X.xe s
def tB(t:TE):TT:=λU H Q=>t U H λx N=>∃c,x = .bl c/\Q c N
def Lx{op:CmpOp}{t:TE}(h:PC X op a b t)(Z:behindInMarks op b=false:=by first | show nobehind _ 7#0 7#0 | rfl):PT X (.Compare a [op] [b] pos) (tB t):=by
 intro S s U H Q I o;show wpAny_isTrue_Compare1 (c6 (h S s U H _ I o) λv j Z=>c6 Z λu w R=>c6 R λc O=>aD λx N A J n=>?_) Z
 revert n;show af λd D q=>?_;subst D
 cases J;show wpAny_truthy_bool (ae N A q)
def cY{e:Expr}{t:TE}(h:PE X e t)(T:∀l,isTrue e X.env l=(do let v←l;standAt e.pos;holding [v] (truthy v)):=by intro _;rfl):PT X e (tB t):=by
 intro S s U H Q I o;show isTrue_plain (146#(h S s U H _ I o)) (T _)
 revert n;show af λd O q=>?_;subst O
 cases J;show wpAny_truthy_bool (ae N A q)
variable  {rest:List Expr}
def Xn(t u:TT):TT:=λU H Q=>t U H λc N=>if c=true then u U N Q else Q false N
def tOr(t u:TT):TT:=λU H Q=>t U H λc N=>if c=true then Q true N else u U N Q
def Xo(t:TT):TT:=λU H Q=>t U H λc N=>Q (! c) N
def iU(E:PT X a f):PW X (.BoolOp .And [a] pos) f:=by
 intro d S s U H Q I h;show isTrue_and (c6 (E S s U H Q I h) λc j e=>?_)
 cases c with
 | true=>show isTrue_and_nil e
 | false=>show e
def gf(E:PT X a f):PW X (.BoolOp .Or [a] pos) f:=by
 intro d S s U H Q I h;show isTrue_or (c6 (E S s U H Q I h) λc j e=>?_)
 cases c with
 | false=>show isTrue_or_nil e
 | true=>show e
def kR(E:PT X a f)(O:PW X (.BoolOp .And (b::rest) pos) e):PW X (.BoolOp .And (a::b::rest) pos) (Xn f e):=by
 intro d S s U H Q I h;show isTrue_and (c6 27#E λc j=>af λN A n=>?_)
 cases c with
 | true=>show O d S j U N Q A n
 | false=>show ae N A n
def hU(E:PT X a f)(O:PW X (.BoolOp .Or (b::rest) pos) e):PW X (.BoolOp .Or (a::b::rest) pos) (tOr f e):=by
 intro d S s U H Q I h;show isTrue_or (c6 27#E λc j=>af λN A n=>?_)
 cases c with
 | true=>show ae N A n
 | false=>show O d S j U N Q A n
def ff(E:PT X a f):PT X (.UnaryOp .Not a pos) (Xo f):=by
 show 47;show isTrue_not (E S s U H (λc N=>Q (! c) N) I h)
def UU(z tb:TE):TE:=λU H Q=>z U H λx N=>∃c,x = .bl c/\if c=true then tb U N Q else Q (.bl false) N
def Xp(z tb:TE):TE:=λU H Q=>z U H λx N=>∃c,x = .bl c/\if c=true then Q (.bl true) N else tb U N Q
def iK{op}(h:PE X a t):PE X (.BoolOp op [a] pos) t:=λS s U H Q I o=>BoolOp_one (h S s U H Q I o)
def jP(E:PE X a z)(O:PE X (.BoolOp .And (b::rest) pos) tb):PE X (.BoolOp .And (a::b::rest) pos) (UU z tb):=by
 show 47;show BoolOp_and (146#27#E)
 revert n;show af λc F n=>?_;subst F
 cases J;show wpAny_truthy_bool ?_;cases c with
 | true=>show O S j U N Q A n
 | false=>show aq (.bl false) N A rfl n
def Q9(E:PE X a z)(O:PE X (.BoolOp .Or (b::rest) pos) tb):PE X (.BoolOp .Or (a::b::rest) pos) (Xp z tb):=by
 show 47;show BoolOp_or (146#27#E)
 revert n;show af λc G n=>?_;subst G
 cases J;show wpAny_truthy_bool ?_;cases c with
 | false=>show O S j U N Q A n
 | true=>show aq (.bl true) N A rfl n
def tIf(t:TT)(z tb:TE):TE:=λU H Q=>t U H λc N=>if c=true then z U N Q else tb U N Q
def iA(L:PT X c f)(E:PE X a z)(O:PE X b tb):PE X (.IfExp c a b pos) (tIf f z tb):=by
 show 47;show wpAny_IfExp (c6 27#L λd j=>af λN A n=>?_)
 cases d with
 | true=>show E S j U N Q A n
 | false=>show O S j U N Q A n
end
def aI(K:cu)(H:Hp)(a:Addr)(xs:List V):Prop :=
 Rd H a (.lst xs)\/
  ∃o C n,K.lookup a=some o/\o.cls = .type "list"/\o.dict=none/\o.data = .seq C n/\36#C.size/\υ xs C.toList
def aZ(K:cu)(H:Hp)(a:Addr)(xs:List V):Prop :=
 Rd H a (.tup xs)\/
  ∃o C n,K.lookup a=some o/\o.cls = .type "tuple"/\o.data = .seq C n/\36#C.size/\υ xs C.toList
def Xq:Value->Option V
 | .none=>some .eM
 | .bool b=>some (.bl b)
 | .int i _=>some (.int i)
 | .str x _=>some (.str x)
 | .bytes b _=>some (.Lj b)
 | .float b _=>some (.WL b)
 | .ref a=>some (.ref a)
 | .type n=>some (.ty n)
 | _=>none
def Δ.abs(r:Δ x u):Xq u=some x:=by
 cases x with
 | eM=>cases r;rfl
 | bl _=>cases r;rfl
 | int _=>show 223;rfl
 | str _=>show 223;rfl
 | Lj _=>show 223;rfl
 | WL _=>show 223;rfl
 | ref _=>cases r;rfl
 | ty _=>cases r;rfl
def Δ.inj(r:Δ x u)(q:Δ y u):x=y:=20#(r.abs.symm.trans q.abs)
def υ.inj{xs v:List V}{g:70#0}(h:υ xs g)(k:υ v g):xs=v:=by
 induction h generalizing v with
 | nil=>cases k;rfl
 | cons r _ G=>obtain _ | ⟨q,t⟩:=k;rw[r.inj q,G t]
section
variable  {pq:cF}{σ:St}
def aI.of{K}(h:H a=4#xs):aI K H a xs:=.inl (.inl h)
def aZ.of{K}(h:H a=15#xs):aZ K H a xs:=.inl (.inl h)
def θ.list(I:5#s)(h:aI X.K H a xs):∃C:70#0,υ xs C/\PlainL s.heap a C.toArray/\36#xs.length:=by
 rcases h with h|⟨o,C,n,Y,L,J,W,m,r⟩
 .show Ah (λz=>bh λC n r e=>?_) (h.ok I.hok)
  show au C r (bC _ n e rl rl rl) z
 .show au C.toList r (bC o n (I.pB a o Y) L J (by simpa using W)) ?_
  have e:=r.length;simp only[f_]at e
  lia
def θ.tuple(I:5#s)(h:aZ X.K H a xs):∃C:70#0,υ xs C/\IsTup s.heap a C.toArray/\36#xs.length:=by
 rcases h with h|⟨o,C,n,Y,L,W,m,r⟩
 .show bE (λz C r p=>?_) (h.ok I.hok)
  show au C r p z
 .show au C.toList r (ae o (I.pB a o Y) (cD L n (by simpa using W))) ?_
  have e:=r.length;simp only[f_]at e
  lia
def θ.mh(I:5#s)(h:aI X.K H a xs)(h' : aI X.K H a v):xs=v:=by
 show aA (λC r b _=>?_) (I.list h);obtain⟨o,n,e,_,_,d⟩:=b
 show aA (λg G c _=>?_) (I.list h');obtain⟨S,j,D,_,_,l⟩:=c
 rw[e]at D;cases D;rw[d]at l;injection l with t _
 have:C=g:=by simpa using k! Array.toList t
 subst this;show r.inj G
def θ.yq(I:5#s)(h:aZ X.K H a xs)(h' : aZ X.K H a v):xs=v:=by
 show aA (λC r p _=>?_) (I.tuple h);obtain⟨o,e,_,n,d⟩:=p
 show aA (λg G b _=>?_) (I.tuple h');obtain⟨S,D,_,j,l⟩:=b
 rw[e]at D;cases D;rw[d]at l;injection l with t _
 have:C=g:=by simpa using k! Array.toList t
 subst this;show r.inj G
end
abbrev Cx.xB(X:Cx)(E:xw):Cx:={ X with xe:=E}
abbrev Cx.OL(X:Cx):Cx:=X.xB 51#0
def Cx.Ok.xB{X:Cx}(j:X.Ok)(E):(X.xB E).Ok :=
 ⟨j.mod,j.kind,j.glob,j.blt,j.above,j.inj,j.has,j.RX,j.hd,j.frames,j.Lu,j.WN,j.bs,j.Ll,j.EO,j.Jg,j.funs,j.Lv⟩
def Cx.Ok.mq{X:Cx}(j:(X.xB E).Ok):X.Ok :=
 ⟨j.mod,j.kind,j.glob,j.blt,j.above,j.inj,j.has,j.RX,j.hd,j.frames,j.Lu,j.WN,j.bs,j.Ll,j.EO,j.Jg,j.funs,j.Lv⟩
section
variable {X:Cx}{pq:cF}{σ:St}
def θ.xB(I:5#s)(E):θ (X.xB E) pq σ H s:=⟨I.ok.xB E,I.os,I.bare,I.base,I.loc,I.cell,I.free,I.gG,I.pin,I.hok,I.len⟩
def θ.mq(I:θ (X.xB E) pq σ H s):5#s:=⟨I.ok.mq,I.os,I.bare,I.base,I.loc,I.cell,I.free,I.gG,I.pin,I.hok,I.len⟩
def SP.mq(h:SP (X.xB E) pq D f Z):SP X pq D f Z:=by
 cases f with
 | next=>revert h;show bh λk Y I q=>?_;show bf k Y I.mq q
 | brk=>revert h;show bh λk Y I q=>?_;show bf k Y I.mq q
 | cont=>revert h;show bh λk Y I q=>?_;show bf k Y I.mq q
 | ret u=>revert h;show eu λv k Y I r q=>?_;show⟨v,(aq k Y I.mq r q)⟩
def pY.OL{st}(h:pY X.OL st t):pY X st t:=λpq s σ H D I o =>
 p! (h pq s σ H D (I.xB _) o) (λ_ _ q=>q.mq) λ_ _ z=>False.elim z
end
section
variable {X:Cx}{st:Stmt}{rest:List Stmt}  {e:Expr}{te:TE}{pos:Pos}
def cE:TS:=λD U H=>D.nx U H
def Ends.on(D:Ends)(u:TS):Ends:={ D with nx:=u D}
def aK(t u:TS):TS:=λD U H=>t (D.on u) U H
def aO:pY X [] cE:=λ_ _ U H _ I h=>wpAny_execs_nil (bf U H I h)
def ah(Z:PS X st t)(R:pY X rest u):pY X (st::rest) (aK t u):=by
 show 140;show wpAny_execs_cons (c6 (Z S s U H { D with nx:=u D} I h) λf j q=>?_)
 cases f with
 | next =>
   revert q;show bh λk Y c q=>?_
   show R S j k Y D c q
 | ret v=>show q
 | brk=>show q
 | cont=>show q
def aj(Z:PS X st t):pY X [st] t:=by
 show 140;show wpAny_execs_cons (c6 (Z S s U H D I h) λf j q=>?_)
 cases f with
 | next=>show wpAny_execs_nil q
 | ret v=>show q
 | brk=>show q
 | cont=>show q
def θ.quiet{S:cF}{U:St}(I:θ X S U H s):interactive X.env=false:=by simp[interactive,I.ok.kind]
def UW(te:TE):TS:=λD U H=>te U H λ_ N=>D.nx U N
def bX(T:PE X e te)(W:swapsWith e none pos.line X.env=pure false:=by rfl):PS X (.Expr e pos) (UW te):=by
 show 140;show wpAny_Expr_any (c6 27#T λv j=>aD λx N A J n=>bf U N A n) I.quiet W
def Xr(te:TE):TS:=λD U H=>te U H D.rt
def ay(T:PE X e te):PS X (.Return (some e) pos) (Xr te):=by
 show 140;show wpAny_Return_some (146#27#T)
 show⟨x,(aq U N A J n)⟩
def dX(c:TT)(t u:TS):TS:=λD U H=>c U H λb N=>if b=true then t D U N else u D U N
def bD(L:PT X c g)(E:pY X a t)(O:pY X b u):PS X (.If c a b pos) (dX g t u):=by
 show 140;show wpAny_If (c6 27#L λd j=>af λN A n=>?_)
 cases d with
 | true=>show E S j U N D A n
 | false=>show O S j U N D A n
def RZ:TS:=λ_ _ _=>False
def dG:pY X a RZ:=λ_ _ _ _ _ _ h=>h.elim
end
abbrev TG:=V->St->Hp->(St->Hp->Prop)->Prop
abbrev OM:=List V->St->Hp->(St->Hp->Prop)->Prop
def PG(X:Cx)(c:Expr)(t:TG):Prop :=
 ∀pq s (σ:St) H v u Q,5#s->Δ v u->t v σ H Q->
   wpAny 8#0 X.A (assign c X.env u) (λ_ Z=>∃k Y,θ X pq k Y Z/\Q k Y) X.xe s
def Uu(X:Cx)(J:List Expr)(t:OM):Prop :=
 ∀pq s (σ:St) H vs us Q,5#s->υ vs us->t vs σ H Q->
   wpAny 8#0 X.A (assignInOrder ((188#J).map (·.2)) us) (λ_ Z=>∃k Y,θ X pq k Y Z/\Q k Y) X.xe s
abbrev Ly:=V->V->V->Hp->(Hp->Prop)->Prop
def R0(X:Cx)(t:Ly):Prop :=
 ∀pq s (σ:St) H o i v ov iv u Q,5#s->Δ o ov->Δ i iv->Δ v u->t o i v H Q->
   wpAny 8#0 X.A (setItem ov iv u) (λ_ Z=>∃Y,θ X pq σ Y Z/\Q Y) X.xe s
abbrev UX:=V->80#V
def Zr(X:Cx)(op:Operator)(t:UX):Prop :=
 ∀pq s (σ:St) H x y v u Q,5#s->Δ x v->Δ y u->t x y H Q->
   98#(inplaceOp op v u)
section
variable {X:Cx}{pos:Pos}
def Hr(i:Nat):TG:=λv U H Q=>Q (U.set i (some v)) H
def p8{i:Nat}{x:Str}(o:X.N.Nodup)(a:X.N[i]?=some x)(B:Loc X.env.scope x)(F:X.fn x=true\/32#x:=by show 111):PG X (.Name x pos) (Hr i):=by
 intro S s U H v u Q I r h;show wpAny_assign_Name (l9 I o a B r (λZ c=>bf _ H c h) F)
def Xs:OM:=λF U H Q=>F=[]/\Q U H
def UY(t:TG)(u:OM):OM:=λF U H Q=>∃v r,F=v::r/\t v U H λk Y=>u r k Y Q
def cR:Uu X [] Xs:=by
 intro S s U H F g Q I r h;obtain⟨e,h⟩:=h;subst e;cases r;show assignInOrder_nil (bf U H I h)
def aL{e:Expr}{b:List Expr}{t:TG}{u:OM}(Z:PG X e t)(R:Uu X b u)
 (W:(188#(e::b)).map (·.2)=assign e X.env::(188#b).map (·.2):=by rfl):Uu X (e::b) (UY t u):=by
 intro S s U H F g Q I r h
 revert h;show bh λv a c h=>?_
 subst c;cases r with
 | cons r y =>
   rw[W];show assignInOrder_cons (c6 (Z S s U H _ _ _ I r h) λ_ j=>bh λi N A n=>?_)
   show R S j i N _ _ Q A y n
def UZ(K:cu)(n:Nat)(t:OM):TG:=λv U H Q=>∃a f,v = .ref a/\aZ K H a f/\f.length=n/\t f U H Q
def R1{W:List Expr}{k:Nat}{t:OM}{n:Nat}(L:X.calm=true)(h:Uu X W t)
 (g:29#(188#W)=n:=by rfl) (Y:(188#W).findIdx? (·.1)=none:=by rfl):PG X (.Tuple W k pos) (UZ X.K n t):=by
 intro S s U H v u Q I r c
 revert c;show aY λa f d D P c=>?_
 subst d;cases r;show aA (λC G i m=>?_) (I.tuple D)
 show assign_Tuple_tuple (I.ok.hd L) i (by simp[g,<-P,G.length]) Y λN B=>?_
 have A:=I.kept (t':=s.toks) λb o e=>B b o (n! (a! e)) e
 show h S _ U H f _ Q A (by simpa using G) c
def Xu(g f:TE)(t:Ly):TG:=λv U H Q=>g U H λo N=>f U N λi G=>t o i v G λu=>Q U u
def Aj{o i:Expr}{g f:TE}{t:Ly}(Y:PE X o g)(d:PE X i f)(W:R0 X t)
 (E:∀v,assign (.Subscript o i pos) X.env v=(do
  let b←holding [v] 123#o
  let p←holding [v,b] 123#i
  standAt pos
  holding [v,b,p] (setItem b p v)
  release [v,b,p] []):=by intro _;rfl):PG X (.Subscript o i pos) (Xu g f t):=by
 intro S s U H v u Q I r h;rw[E];show aU (F! (c6 27#Y λb j=>aD λx N A J n=>?_))
 show aU (F! (c6 (d S j U N _ A n) λp w=>aD λy G L a R=>?_))
 show aU (wpAny_standAt (aU (F! (c6 (W S w U G x y v b p u _ L J a r R) λ_ O=>af λc F C=>?_))))
 show wpAny_release (bf U c F C)
def R3(C:TE)(g:TG):TS:=λD U H=>C U H λx N=>g x U N D.nx
def uF{tg e:Expr}{C:TE}{g:TG}(T:PE X e C)(M:PG X tg g)(W:swapsWithSole [tg] e pos.line X.env=pure false:=by rfl)(o:swappedStores [tg] e X.env=pure none:=by rfl)
 (Z:(188#([tg])).map (·.2)=[assign tg X.env]:=by rfl):PS X (.Assign [tg] e pos) (R3 C g):=by
 show 140;show wpAny_Assign_stores (146#27#T) W o
 rw[Z];show c6 (M S j U N x v _ A J n) λ_ w q=>q
def gU{i:Nat}{x:Str}{e:Expr}{C:TE}{p:Pos}(o:X.N.Nodup)(a:X.N[i]?=some x)(B:Loc X.env.scope x)(T:PE X e C)(W:swapsWith e (some (.Name x p)) pos.line X.env=pure false:=by rfl)(F:X.fn x=true\/32#x:=by show 111):
 PS X (.Assign [.Name x p] e pos) (R3 C (Hr i)):=by
 show 140;show wpAny_Assign_Name (c6 27#T λv j=>aD λy N A J n=>?_) W
 show l9 A o a B J (λw L=>bf _ N L n) F
def Xv(i:Nat)(C:TE)(f:UX):TS:=λD U H=>∃x,U[i]?=some (some x)/\C U H λy N=>f x y N λz G=>D.nx (U.set i (some z)) G
def rm{i:Nat}{x:Str}{e:Expr}{C:TE}{op:Operator}{f:UX}{p:Pos}(o:X.N.Nodup)(Q:X.N[i]?=some x)(B:Loc X.env.scope x)(T:PE X e C)(W:Zr X op f)(F:X.fn x=true\/32#x:=by show 111):
 PS X (.AugAssign (.Name x p) op e pos) (Xv i C f):=by
 show 140
 revert h;show af λv t h=>?_
 show af (λm g P=>?_) I.loc
 have E:WM X.env.scope x:=by rcases B with k | k;show .inl k;show .inr (.inl k)
 show af (λu r l=>?_) (P i x v Q t E)
 show wpAny_AugAssign_Name ?_;have M:wpAny 8#0 X.A 123#e (λw q=>wpAny 8#0 X.A (inplaceOp op u w) (λr b=>wpAny 8#0 X.A (storeName X.env x r) (λ_=>SP X S D .next) X.xe b) X.xe q) X.xe s:=by
  show c6 27#T λw j=>aD λy N A J n=>?_
  show c6 (W S j U N v y u w _ A r J n) λz Y=>aD λc G L a R=>?_
  show l9 L o Q B a (λO d=>bf _ G d R) F
 rcases l with⟨Y,d⟩|⟨Y,c,L,R⟩
 .show wpAny_loadName_local I.ok.kind Y g d M
 .rcases Y with Y|Y
  .show wpAny_loadName_cell I.ok.kind Y L R M
  .rcases B with k|k
   .have:X.env.scope.names.lookup x=some .free:=Y;rw[k]at this;cases this
   .have:X.env.scope.names.lookup x=some .free:=Y;rw[k]at this;cases this
def U0(g f C:TE)(r:V->80#V)(B:UX)(P:Ly):TS:=λD U H=>g U H λo N=>f U N λi G=>r o i G λx u=>C U u λy c=>B x y c λz I=>P o i z I λR=>D.nx U R
def U1(X:Cx)(t:V->80#V):Prop :=
 ∀pq s (σ:St) H o i ov iv Q,5#s->Δ o ov->Δ i iv->t o i H Q->
   98#(getItem ov iv)
def Hs{o i e:Expr}{g a C:TE}{r:V->80#V}{B:UX}{P:Ly}{op:Operator}{f:Pos}(Y:PE X o g)(d:PE X i a)(c:U1 X r)(T:PE X e C)(M:Zr X op B)(W:R0 X P)
 (E:∀b p Q,augStore i b p Q=(do holding [Q,b,p] (setItem b p Q);release [Q,b,p] [];pure .next):=by intros;rfl):PS X (.AugAssign (.Subscript o i f) op e pos) (U0 g a C r B P):=by
 show 140;show wpAny_AugAssign_SubscriptAny (c6 27#Y λb j=>aD λe N A J n=>?_) E
 show c6 (d S j U N _ A n) λp w=>aD λz G L a R=>?_
 show c6 (c S w U G e z b p _ L J a R) λi O=>aD λm u F l d=>?_
 show c6 (T S O U u _ F d) λv Z=>aD λy c f t j=>?_
 show c6 (M S Z U c m y i v _ f l t j) λQ d=>aD λn g h k x=>?_
 show c6 (W S d U g e z n b p Q _ h J a k x) λ_ l=>af λc q m=>?_
 show bf U c q m
def uG(c:TT)(tb:TS):TS:=λD U H=>∃W:81#St,(∃m,W m U H)/\∀m U H,W m U H->
 c U H λb a=>if b=true then ∃N:St->Hp->Prop,(∀k Y,N k Y->∃B,B<m/\W B k Y)/\tb { D with nx:=N,ct:=N,bk:=D.nx} U a else D.nx U a
def p9(M:PassesOwn 8#0 X.A X.env X.xe)(L:PT X c g)(O:pY X a tb):PS X (.While c a [] pos) (uG g tb):=by
 show 140
 revert h;show af λW t x=>?_;obtain⟨z,r⟩:=t
 show wpAny_While (codeAny_whileLoop (λn Z=>∃k Y,θ X S k Y Z/\W n k Y) ?_ z (bf U H I r))
 intro n j;show bh λi m A y=>?_
 show wpAny_passesOwn M (c6 (L S j i m _ A (x n i m y)) λb w=>af λG p R=>?_)
 cases b with
 | true =>
   revert R;show af λN o R=>?_
   rw[ο rfl];show wpAny_passesOwn M (c6 (O S w i G _ p R) λf E C=>?_)
   cases f with
   | next =>
     revert C;show bh λe u F l=>?_
     show af (λB d q=>?_) (o e u l)
     show⟨B,(aS d e u F q)⟩
   | cont =>
     revert C;show bh λe u F l=>?_
     show af (λB d q=>?_) (o e u l)
     show⟨B,(aS d e u F q)⟩
   | brk=>show C
   | ret v=>show C
 | false =>
   rw[ξ w!];show wpAny_execs_nil (bf i G p R)
end
structure It where
 go:Nat->Hp->Prop
 Ji:Nat->Hp->V->Hp->Prop
 stop:Nat->Hp->Prop
def pC(X:Cx)(S:cF)(H:Hp)(b:Addr):Prop :=
 H b=none/\114#b/\b∉X.fs/\(b∈X.ex\/144#b)/\(∀x c,33#x->c≠b)/\∀p∈X.pn++S,p.1≠b
def θ.xC{S:cF}{U:St}{b:Addr}(I:θ X S U H s)(O:180#b)(g:Y b=none):pC X S Y b:=by
 show⟨g,(dD (j? (t! I.lt O)) (I.US O) (.inr (b! I.sz O)) (λx c e z=>?_) λp M z=>?_)⟩
 .obtain⟨v,q⟩:=I.cell x c e;show 204#(t! q.lt (by rw[z];show O))
 .show 204#(t! (a! (I.pin p M).1) (by rw[z];show O))
structure Turn(P:Program)(w:World)(K:cu)(tg:Expr)(J:It)(fp:214#0)(it:Addr)(tn:Nat->Heap->Prop):Prop where
 mem:it∈fp
 obj:∀i h,tn i h->∀b∈fp,∃o,48#h.get?/\∀v,o.data≠.cell v
 keep:∀i h h',tn i h->(∀b∈fp,∀o,48#h.get?->48#h'.get?)->tn i h'
 item:∀(X:Cx),X.prog=P->X.w=w->X.K=K->X.calm=true->∀(i:Nat) (pq:cF) (s:Shared) (σ:St) (H:Hp) (E:xw),5#s->(∀b∈fp,pC X pq H b)->tn i s.heap->J.go i H->
  wpAny (model P w) X.A (pyNext (.ref it)) (λr s1=>∃u,r=some u/\
   wpAny (model P w) X.A (letOwnedTupleGo tg (.ref it) u) (λ_ s2=>∃x H',θ X pq σ H' s2/\Δ x u/\J.Ji i H x H'/\tn (i+1) s2.heap/\∀b∈fp,H' b=none) E s1) E s
 done:∀(X:Cx),X.prog=P->X.w=w->X.K=K->X.calm=true->∀(i:Nat) (pq:cF) (s:Shared) (σ:St) (H:Hp) (E:xw),5#s->(∀b∈fp,pC X pq H b)->tn i s.heap->J.stop i H->
  wpAny (model P w) X.A (pyNext (.ref it)) (λr s1=>r=none/\5#s1) E s
 self:∀(A:Around) (i:Nat) (s:Shared) (Q:xw) (E:xw),tn i s.heap->Q (.ref it) s->74#(pyIter (.ref it))
abbrev TI:=St->Hp->(It->Hp->Prop)->Prop
def Zs(X:Cx)(S:cF)(U:St)(tg:Expr)(R:It->Hp->Prop)(f:Value)(w:Shared):Prop :=
 ∃y t E J Y,f = .ref y/\θ X S U Y w/\Turn X.prog X.w X.K tg J t y E/\E 0 w.heap/\(∀b∈t,pC X S Y b)/\R J Y
def PI(X:Cx)(tg iter:Expr)(d:TI):Prop :=
 ∀pq s (σ:St) H R,5#s->d σ H R->
   wpAny 8#0 X.A 123#iter (λv j=>wpAny 8#0 X.A (pyIter v) (Zs X pq σ tg R) X.xe j) X.xe s
def yr{s:Shared}(Y:s.heap.get? y=some o)(L:o.cls = .type n)(J:o.data = .fields vs)
 (g:["enumerate","zip","dict_itemiterator","dict_reverseitemiterator","odict_iterator","itertools.zip_longest","itertools.pairwise"].contains n=false) (T:Q () s):186#(letOwnedTupleGo tg (.ref y) u):=by
 cases tg<;>first
  | show Θ T
  | (cases u<;>first
   | show Θ T
   | (show aU (wpAny_load Y ?_)
      rw[L,J];change 186#(if(["enumerate","zip","dict_itemiterator","dict_reverseitemiterator","odict_iterator","itertools.zip_longest","itertools.pairwise"].contains n&&vs[0]? == some (rawInt _))=true then _ else _)
      rw[ξ (by intro h;rw[g,_b]at h;cases h)]
      show Θ T))
def Lm(K:cu)(a:Addr):It :=
 ⟨λi H=>∃f x,aI K H a f/\f[i]?=some x,λi H x Y=>Y=H/\∀f,aI K H a f->f[i]?=some x,λi H=>∃f,aI K H a f/\f.length<=i⟩
def Uv(K:cu)(a:Addr):It :=
 ⟨λi H=>∃f x,aZ K H a f/\f[i]?=some x,λi H x Y=>Y=H/\∀f,aZ K H a f->f[i]?=some x,λi H=>∃f,aZ K H a f/\f.length<=i⟩
def Lz(lo:Int)(n:Nat):It:=⟨λi _=>i<n,λi H x Y=>Y=H/\x = .int (lo+i),λi _=>n<=i⟩
def yt{K}(a it):Turn P w K tg (Lm K a) [it] it (λi h=>h.IsListIter it a i) where
 mem:=by simp
 obj:=λi h st b O=>by
  have e:b=it:=108#0
  subst e
  revert st;show aA λo e c d=>?_
  show ae o e λv z=>by rw[d]at z;cases z
 keep:=λi h N st k=>st.at λo e=>k it 22#0 o e
 item:=by
  intro X g j J L i S s U H E I F st M;subst g j J
  revert M;show bh λf x D B=>?_
  show 130#(λC G p m=>?_)
  show af (λu n Y=>?_) (G.get B)
  show eV (λt y Q l R Z=>?_) (F it 22#0)
  show wpAny_pyNext_list_item st p.isList (by simpa using n) λN T r=>?_
  have A:=I.turned (t':=s.toks) (λb o O e=>(r.2 b O).trans e) t y l R Z
  show aA (λo e c d=>?_) (id T)
  show ae u rl (yr (s:={ s with heap:=N}) e c d 7#0 (cI x H A Y 34#(λv W=>by rw[I.mh W D];show B) T (λb O=>(F b O).1)))
 done:=by
  intro X g j J L i S s U H E I F st M;subst g j J
  revert M;show af λf D B=>?_
  show 130#(λC G p m=>?_)
  show eV (λt y Q l R Z=>?_) (F it 22#0)
  have c:=G.length;show wpAny_pyNext_list_end (I.ok.hd L) st p.isList (by simp;lia) λN q=>34#(I.turned (t':=s.toks) (λb o O e=>q b o O e) t y l R Z)
 self:=λ_ _ _ _ _ st h=>wpAny_pyIter_listiter st h
def ER{K}(a it):Turn P w K tg (Uv K a) [it] it (λi h=>h.IsTupleIter it a i) where
 mem:=by simp
 obj:=λi h st b O=>by
  have e:b=it:=108#0
  subst e
  revert st;show aA λo e c d=>?_
  show ae o e λv z=>by rw[d]at z;cases z
 keep:=λi h N st k=>st.at λo e=>k it 22#0 o e
 item:=by
  intro X g j J L i S s U H E I F st M;subst g j J
  revert M;show bh λf x D B=>?_
  show aA (λC G p m=>?_) (I.tuple D)
  show af (λu n Y=>?_) (G.get B)
  show eV (λt y Q l R Z=>?_) (F it 22#0)
  show wpAny_pyNext_tuple_item st (p) (by simpa using n) λN T r=>?_
  have A:=I.turned (t':=s.toks) (λb o O e=>(r.2 b O).trans e) t y l R Z
  show aA (λo e c d=>?_) (id T)
  show ae u rl (yr (s:={ s with heap:=N}) e c d 7#0 (cI x H A Y 34#(λv W=>by rw[I.yq W D];show B) T (λb O=>(F b O).1)))
 done:=by
  intro X g j J L i S s U H E I F st M;subst g j J
  revert M;show af λf D B=>?_
  show aA (λC G p m=>?_) (I.tuple D)
  show eV (λt y Q l R Z=>?_) (F it 22#0)
  have c:=G.length;show wpAny_pyNext_tuple_end (I.ok.hd L) st (show s.heap.IsTuple a C.toArray from p) (by simp;lia) λN q=>34#(I.turned (t':=s.toks) (λb o O e=>q b o O e) t y l R Z)
 self:=λ_ _ _ _ _ st h=>wpAny_pyIter_tupleiter st h
def ES{K}(it)(lo)(n):Turn P w K tg (Lz lo n) [it] it (λi h=>IsRangeIter h it (lo+(i:Nat)*1) ((n:Int)-(i:Nat)) 1) where
 mem:=by simp
 obj:=λi h st b O=>by
  have e:b=it:=108#0
  subst e;show ae _ st λv z=>by
   have y:=z;cases y
 keep:=λi h N st k=>k it 22#0 _ st
 item:=by
  intro X g f J L i S s U H E I F st M;subst g f J;show eV (λc y Q l R Z=>?_) (F it 22#0)
  have W:=Walks.range (prog:=X.prog) (w:=X.w) (I.ok.hd L) it lo 1 n;show W.item i s _ _ M st λv N j a T d=>?_
  obtain⟨t,rfl⟩:=a;have A:θ X S U H { s with heap:=N,toks:=j}:=I.turned (λb o O e=>d b o (108#0) e) c y l R Z
  show ae _ rl (yr T rl rl 7#0 (cI (.int (lo+i)) H A ⟨t,?_⟩ 196#0 T (λb O=>(F b O).1)))
  rw[Int.mul_one]
 done:=by
  intro X g f J L i S s U H E I F st M;subst g f J;show eV (λc y Q l R Z=>?_) (F it 22#0)
  show wpAny_pyNext_range_end (I.ok.hd L) st (by have:n<=i:=M;lia) λN q=>34#(I.turned (λb o O e=>q b o O e) c y l R Z)
 self:=λ_ _ _ _ _ st h=>wpAny_pyIter_rangeiter st h
section
variable {X:Cx}{tg:Expr}
def Ht(K:cu)(d:TE):TI:=λU H R=>d U H λx N=>∃a,x = .ref a/\(∃f,aI K N a f)/\R (Lm K a) N
def OZ(K:cu)(d:TE):TI:=λU H R=>d U H λx N=>∃a,x = .ref a/\(∃f,aZ K N a f)/\R (Uv K a) N
def Hu(P:PE X l d):PI X tg l (Ht X.K d):=by
 intro S s U H R I h;show 146#27#P
 revert n;show aA λa e c q=>?_;obtain⟨f,D⟩:=c
 subst e;cases J;show aA (λC G p m=>?_) (A.list D)
 show wpAny_pyIter_list p.isList ?_;show b9 j.heap.objs.size [j.heap.objs.size] _ _ N rl (A.kept λb o e=>c! _ e) (yt a _) (au _ (v! _ rl) rl rl) (λb O=>?_) q
 have e:b=j.heap.objs.size:=108#0
 subst e;show A.xC (Ξ _) (A.hok.fresh (Ξ _))
def LA(P:PE X l d):PI X tg l (OZ X.K d):=by
 intro S s U H R I h;show 146#27#P
 revert n;show aA λa e g q=>?_;obtain⟨f,D⟩:=g
 subst e;cases J;show aA (λC G p m=>?_) (A.tuple D)
 show wpAny_pyIter_tuple (p) ?_;show b9 j.heap.objs.size [j.heap.objs.size] _ _ N rl (A.kept λb o e=>c! _ e) (ER a _) (au _ (v! _ rl) rl rl) (λb O=>?_) q
 have e:b=j.heap.objs.size:=108#0
 subst e;show A.xC (Ξ _) (A.hok.fresh (Ξ _))
def B8{S:cF}{U:St}{lo hi}(I:θ X S U H s)(Z : -(2^62)<=lo)(d:lo<2^62)(l : -(2^62)<=hi)(f:hi<2^62)
 (q:R (Lz lo (hi-lo).toNat) H):wpAny 8#0 X.A (pyIter (23#.ref)) (Zs X S U tg R) E { s with heap:=110#{ cls:=.type "range",data:=.fields #[.int lo t,.int hi u,.int 1 v]},toks:=j}:=by
 show wpAny_pyIter_range (IsRange.new ..) (small_one Z d l f) ?_;have A:θ X S U H { s with heap:=110#{ cls:=.type "range",data:=.fields #[.int lo t,.int hi u,.int 1 v]},toks:=j}:=I.kept λb o e=>c! _ e
 show⟨35#{ cls:=.type "range",data:=.fields #[.int lo t,.int hi u,.int 1 v]},[35#{ cls:=.type "range",data:=.fields #[.int lo t,.int hi u,.int 1 v]}],_,_,H,rfl,
  A.kept λb o e=>c! _ e,ES _ lo (hi-lo).toNat,?_,λb O=>?_,q⟩
 .have a:lo+((0:Nat))*1=lo:=by simp
  have c:(((hi-lo).toNat:Nat))-((0:Nat))=Builtin.Range.rangeSize lo hi 1:=by rw[rangeSize_one];split<;>lia
  rw[a,c];show v! _ rfl
 .have e:b=35#{ cls:=.type "range",data:=.fields #[.int lo t,.int hi u,.int 1 v]}:=108#0
  subst e;show A.xC (Ξ _) (A.hok.fresh (Ξ _))
def U3(z:TA):TI:=λU H R=>z U H λF N=>∃j:Int,F=[.int j]/\-(2^62)<=j/\j<2^62/\R (Lz 0 j.toNat) N
def U4(z:TA):TI:=λU H R=>z U H λF N=>∃i j:Int,F=[.int i,.int j]/\(-(2^62)<=i/\i<2^62/\-(2^62)<=j/\j<2^62)/\R (Lz i (j-i).toNat) N
def c8{a:Expr}{z:TA}{p l:Pos}(M:Gl X "range")(d:X.mg "range"=none)(E:PA X [a] z)(W:9#([a])=[25#a]:=by rfl):PI X tg (.Call (.Name "range" p) [a] [] l) (U3 z):=by
 intro S s U H R I h;show Call_ (jO I M d boot_range (s_ (c6 (E l S s U H _ I h) λg c=>aD λF N A J n=>?_) W rl))
 revert n;show gE λj e n b q=>?_
 subst e;cases J with
 | cons r y =>
   cases y;show 223;show call_range_1 (B8 A (by lia) (by lia) n b (by simpa using q))
def rq{a b:Expr}{z:TA}{p l:Pos}(M:Gl X "range")(d:X.mg "range"=none)(E:PA X [a,b] z)(W:9#([a,b])=[25#a,25#b]:=by rfl)(k:9#([b])=[25#b]:=by rfl):
 PI X tg (.Call (.Name "range" p) [a,b] [] l) (U4 z):=by
 intro S s U H R I h;show Call_ (jO I M d boot_range (s_ (c6 (E l S s U H _ I h) λg o=>aD λF N A J n=>?_) (by rw[W,k]) (by rw[k];rfl)))
 revert n;show aD λi j e f q=>?_;obtain⟨n,m,C,c⟩:=f
 subst e;cases J with
 | cons r y =>
   cases y with
   | cons G y =>
     cases y;show 223;obtain⟨T,rfl⟩:=G;show call_range_2 (B8 A n m C c q)
def iV(d:TI)(g:TG)(tb:TS):TS:=λD U H=>d U H λJ a=>∃W:Nat->81#St,(∃m,W 0 m U a)/\∀i m U H,W i m U H->
 (J.stop i H/\D.nx U H)\/(J.go i H/\∃N:St->Hp->Prop,75#(J.Ji i H x Y))
def uH(t:214#0)(h:Heap):cF:=t.filterMap λb=>(h.get? b).map λo=>(b,o)
def kT{h:Heap}(O:b∈t)(e:48#h.get?):(b,o)∈uH t h:=Y_.mpr (ae b O (by rw[e];rfl))
def Jj(M:p∈uH t h):p.1∈t/\h.get? p.1=some p.2:=by
 show af (λb O e=>?_) (Y_.mp M)
 cases q:h.get? b with
 | none=>rw[q]at e;cases e
 | some o =>
   rw[q]at e;have D:=20#e;subst D;show⟨O,q⟩
def θ.pinned{S:cF}{U:St}(I:θ X S U H s)(F:∀b∈t,pC X S H b)(Y:∀b∈t,∃o,16#o/\∀v,o.data≠.cell v):θ X (S++uH t s.heap) U H s :=
 I.gT λp M=>(D!.mp M).elim (λz=>I.pin p (jd _ z)) λz=>by
  obtain⟨O,e⟩:=Jj z;show jM (λa y Q _=>?_) (F p.1 O)
  show af (λo D d=>?_) (Y p.1 O)
  rw[e]at D;cases D;show dD e a y Q d
def θ.qa{S k:cF}{U:St}(I:θ X (S++k) U H s):θ X S U H s:=I.gT λp M=>I.pin p (jd _ (Ur _ M))
def dw{iter:Expr}{a:List Stmt}{b:TI}{g:TG}{tb:TS}{l:Pos}(M:PassesOwn 8#0 X.A X.env X.xe)(L:X.calm=true)(c:PI X tg iter b)(p:PG X tg g)(O:pY X a tb)
 (d:∀x,foldedSetIterable iter X.env x=pure x:=by intro _;rfl):PS X (.For tg iter a [] l) (iV b g tb):=by
 show 140;show wpAny_For (c6 27#c λv j Z=>c6 Z λa w R=>?_) d
 revert R;show fy λy t E=>aY λJ G e c T=>bG λd Q W a r=>?_;obtain⟨z,f⟩:=a
 subst e;have g:∀{Y:Hp},(∀b∈t,Y b=none)->∀b∈t,pC X S Y b:=λa b O=>⟨a b O,(Q b O).2⟩
 show codeAny_forLoop_any (λn a=>∃i k Y,θ X S k Y a/\E i a.heap/\(∀b∈t,Y b=none)/\W i n k Y) ?_ z (aV 0 U G c d (λb O=>(Q b O).1) f)
 intro n j;show eg λi=>aY λa d F l h c=>?_
 rcases r i n a d c with⟨f,q⟩|⟨m,N,o,step⟩
 .show wpAny_passesOwn M (c6 (T.done X rl rl rl L i S j a d X.xe F (g h) l f) λr s c=>?_)
  obtain⟨C,f⟩:=c;subst C;show wpAny_execs_nil (bf a d f q)
 .show wpAny_passesOwn M (c6 (T.item X rl rl rl L i S j a d X.xe F (g h) l m) λr s=>af λu C A=>?_)
  subst C;show wpAny_passesOwn M (c6 A λ_ d=>gF λx c=>iI λf r w j h=>?_)
  have l:=f.pinned (g h) (T.obj _ _ j);show wpAny_passesOwn M (c6 (p _ d a c x u _ l r (step x c w)) λ_ s=>bh λy h q m=>?_)
  show wpAny_passesOwn M (c6 (O _ s y h _ q m) λf c g=>?_)
  have again:∀{a:St} {P:Hp},θ X (S++uH t d.heap) a P c->N a P->∃m,m<n/\∃i k Y,θ X S k Y c/\E i c.heap/\(∀b∈t,Y b=none)/\W i m k Y:=λ{a P} p h=>by
   show af (λB c d=>?_) (o a P h)
   show ae B c (aV (i+1) a P p.qa (T.keep _ _ _ j λb O o e=>(p.pin (b,o) (jd _ (jd _ (kT O e)))).1) (λb O=>?_) d)
   show af (λo e d=>?_) (T.obj _ _ j b O)
   show(p.pin (b,o) (jd _ (jd _ (kT O e)))).2.1
  cases f with
  | next=>revert g;show bh λa P p h=>?_;show again p h
  | cont=>revert g;show bh λa P p h=>?_;show again p h
  | brk=>revert g;show bh λa P p g=>?_;show bf a P p.qa g
  | ret v=>revert g;show eu λd a P p o g=>?_;show⟨d,(aq a P p.qa o g)⟩
end
def mu{K:cu}{xs:List V}{g:TG}{tb:TS}{D:Ends}(d:81#St)(o:d 0 U H)(P:∀i U H,i<=xs.length->d i U H->aI K H a xs)
 (c:∀i x U H,xs[i]?=some x->d i U H->g x U H λt G=>tb { D with nx:=d (i+1),ct:=d (i+1),bk:=D.nx} t G) (J:∀U H,d xs.length U H->D.nx U H) :
 ∃W:Nat->81#St,(∃m,W 0 m U H)/\∀i m U H,W i m U H->
   ((Lm K a).stop i H/\D.nx U H)\/((Lm K a).go i H/\∃N:St->Hp->Prop,75#((Lm K a).Ji i H x Y)):=by
 show 106#(λi m U H=>112#U)
 intro i m U H;show cW λb I p=>?_;subst b
 have q:=P i U H I p
 by_cases w:i<xs.length
 .show .inr (bR (bf xs (xs[i]) q (by simp[w])) (d (i+1)) (λk Y F=>113#F) (λx Y y=>?_))
  obtain⟨e,y⟩:=y;subst e;show c i x U _ (y xs q) p
 .show 206
  subst e;show .inl ⟨ae xs q (Ξ _),J U H p⟩
def Hv{K:cu}{xs:List V}{g:TG}{tb:TS}{D:Ends}(d:81#St)(o:d 0 U H)(P:∀i U H,i<=xs.length->d i U H->aZ K H a xs)
 (c:∀i x U H,xs[i]?=some x->d i U H->g x U H λt G=>tb { D with nx:=d (i+1),ct:=d (i+1),bk:=D.nx} t G) (J:∀U H,d xs.length U H->D.nx U H) :
 ∃W:Nat->81#St,(∃m,W 0 m U H)/\∀i m U H,W i m U H->
   ((Uv K a).stop i H/\D.nx U H)\/((Uv K a).go i H/\∃N:St->Hp->Prop,75#((Uv K a).Ji i H x Y)):=by
 show 106#(λi m U H=>112#U)
 intro i m U H;show cW λb I p=>?_;subst b
 have q:=P i U H I p
 by_cases w:i<xs.length
 .show .inr (bR (bf xs (xs[i]) q (by simp[w])) (d (i+1)) (λk Y F=>113#F) (λx Y y=>?_))
  obtain⟨e,y⟩:=y;subst e;show c i x U _ (y xs q) p
 .show 206
  subst e;show .inl ⟨ae xs q (Ξ _),J U H p⟩
def i4{lo}{g:TG}{tb:TS}{D:Ends}(d:81#St)(o:d 0 U H)
 (b:∀i U H,i<n->d i U H->g (.int (lo+i)) U H λt G=>tb { D with nx:=d (i+1),ct:=d (i+1),bk:=D.nx} t G) (J:∀U H,d n U H->D.nx U H) :
 ∃W:Nat->81#St,(∃m,W 0 m U H)/\∀i m U H,W i m U H->
   ((Lz lo n).stop i H/\D.nx U H)\/((Lz lo n).go i H/\∃N:St->Hp->Prop,75#((Lz lo n).Ji i H x Y)):=by
 show ae (λi m U H=>m=n-i/\i<=n/\d i U H) (au n 22#0 (r! _) o) ?_
 intro i m U H;show cW λa I p=>?_;subst a
 by_cases w:i<n
 .show .inr (bR w (d (i+1)) (λk Y F=>cP (n-(i+1)) (by lia) rl w F) (λx Y y=>?_))
  obtain⟨e,y⟩:=y;subst e y;show b i U _ w p
 .have e:i=n:=by lia
  subst e;show .inl ⟨Ξ _,J U H p⟩
abbrev R2:=V->80#V
def jQ(X:Cx)(f:Value->Value->Sem Value)(r:R2):Prop :=
 ∀pq s (σ:St) H x y v u Q,5#s->Δ x v->Δ y u->r x y H Q->
   98#(f v u)
def Xw(X:Cx)(f:Value->Sem Value)(r:80#V):Prop :=
 ∀pq s (σ:St) H x v Q,5#s->Δ x v->r x H Q->
   98#(f v)
def fB(X:Cx)(f:Value)(r:80#(List V)):Prop :=
 ∀pq s (σ:St) H xs us Q,5#s->υ xs us->r xs H Q->
   98#(call f us)
def R4(r:R2)(z tb:TE):TE:=λU H Q=>z U H λx N=>tb U N λy G=>r x y G Q
def tUn(r:80#V)(z:TE):TE:=λU H Q=>z U H λx N=>r x N Q
def rI(C:Int->Int->Prop)(g:Int->Int->V):R2:=λx y H Q=>∃i j,x = .int i/\y = .int j/\C i j/\Q (g i j) H
def Jk(g:Int->Int->V):R2:=λx y H Q=>∃i j,x = .int i/\y = .int j/\Q (g i j) H
def rU(g:Int->V):80#V:=λx H Q=>∃i,x = .int i/\Q (g i) H
section
variable {X:Cx}
def R5(E:PE X a z)(O:PE X b tb){S:cF}{U:St}{R:V->V->Hp->Prop}(I:θ X S U H s)
 (h:z U H λx N=>tb U N λy G=>R x y G) {f:Value->Value->Sem Value}
 (F:∀v u w x y G,θ X S U G w->Δ x v->Δ y u->R x y G->wpAny 8#0 X.A (f v u) Q X.xe w) :
 wpAny 8#0 X.A 123#a (λv B=>wpAny 8#0 X.A 123#b (λu q=>wpAny 8#0 X.A (f v u) Q X.xe q) X.xe B) X.xe s:=by
 show 146#27#E
 show c6 (O S j U N _ A n) λu w=>aD λy G L d c=>?_
 show F v u w x y G L J d c
def aP(Y:jQ X (binaryOp op) r)(E:PE X a z)(O:PE X b tb):PE X (.BinOp a op b l) (R4 r z tb):=by
 show 47;show wpAny_BinOp (R5 E O I h λv u w x y G L rx B q=>Y S w U G x y v u Q L rx B q)
def sA(Y:Xw X (unaryOp op) r)(E:PE X a z):PE X (.UnaryOp op a l) (tUn r z):=by
 show 47;show UnaryOp_ (146#27#E)
 show Y S j U N x v Q A J n
def Ra{g:Int->Int->Int}
 (rule:∀i j t u s Q E,C i j->Q (.int (g i j) s.toks) { s with toks:=s.toks+1}->wpAny 8#0 X.A (f (.int i t) (.int j u)) Q E s) :
 jQ X f (rI C 212#(g i j)):=by
 show 58
 revert h;show aY λi j b a L q=>?_;subst b a
 show 59;show 76;show rule i j t T s _ _ L (92#(.int (g i j)))
def ET{g:Int->Int->Int}
 (rule:∀i j t u s Q E,Q (.int (g i j) s.toks) { s with toks:=s.toks+1}->wpAny 8#0 X.A (f (.int i t) (.int j u)) Q E s) :
 jQ X f (Jk 212#(g i j)):=by
 show 58
 revert h;show aD λi j b a q=>?_;subst b a
 show 59;show 76;show rule i j t T s _ _ (92#(.int (g i j)))
def O0{g:Int->Int->Bool}
 (rule:∀i j t u s Q E,Q (.bool (g i j)) s->wpAny 8#0 X.A (f (.int i t) (.int j u)) Q E s) :
 jQ X f (Jk λi j=>.bl (g i j)):=by
 show 58
 revert h;show aD λi j a b q=>?_;subst a b
 show 59;show 76;show rule i j t T s _ _ (aq (.bl (g i j)) H I rl q)
def R6(i j:Int):Prop:=0<j/\j<1073741824
def U5(i j:Int):Prop:=0<=j/\j<=1000000/\i.natAbs<2^64
def R7(i j:Int):Prop:=(-(2^64)<i/\i<2^64)\/(-(2^64)<j/\j<2^64)
def R7.ok(h:R7 i j):IntMulOk i j:=by
 rcases h with⟨Z,R⟩|⟨Z,R⟩
 .show .of_left (intBits_le_64 Z R)
 .show .of_right (intBits_le_64 Z R)
def EU(k):(0:Int)<=2^k:=by
 rw[two_pow_cast];show _H _
def gg:jQ X (binaryOp .Add) (Jk 212#(i+j)):=ET 211#add_int
def kU:jQ X (binaryOp .Sub) (Jk 212#(i-j)):=ET 211#sub_int
def uI:jQ X (binaryOp .Mult) (rI R7 212#(i*j)):=Ra λ_ _ _ _ _ _ _ L q=>mul_int q L.ok
def nE:jQ X (binaryOp .FloorDiv) (rI R6 212#(i/j)):=Ra λi j _ _ _ _ _ L q=>by
 have Z:=L.1;have R:=L.2;show floordiv_int (by lia) (by rw[Int.fdiv_eq_ediv_of_nonneg i (by lia)];show q) (.inl (PyProof.noPylong_small (by lia)))
def eZ:jQ X (binaryOp .Mod) (rI (λ_ j=>0<j) 212#(i%j)):=Ra λi j _ _ _ _ _ L q=>by
 have Z:=L;show mod_int' (by lia) (by rw[Int.fmod_eq_emod_of_nonneg i (by lia)];show q)
def LC:jQ X (binaryOp .Pow) (rI U5 212#(i^j.toNat)):=Ra λ_ _ _ _ _ _ _ L q=>pow_int_small L.1 L.2.1 L.2.2 q
def je:jQ X (binaryOp .LShift) (rI U5 212#(i*2^j.toNat)):=Ra λ_ _ _ _ _ _ _ L q=>lshift_int_small L.1 L.2.1 L.2.2 q
def R8:jQ X (binaryOp .RShift) (rI (λ_ j=>0<=j) 212#(i/2^j.toNat)):=Ra λi j _ _ _ _ _ L q =>
 rshift_int L (by rw[Int.fdiv_eq_ediv_of_nonneg i (EU _)];show q)
def LD:jQ X (binaryOp .BitAnd) (Jk 212#(Builtin.bitAnd i j)):=ET 211#and_int
def h9:jQ X (binaryOp .BitXor) (Jk 212#(Builtin.bitXor i j)):=ET 211#xor_int
def Hw:jQ X (inplaceOp .Add) (Jk 212#(i+j)):=ET 211#iadd_int
def LF:jQ X (inplaceOp .BitOr) (Jk 212#(Builtin.bitOr i j)):=ET 211#ior_int
def t6:jQ X (inplaceOp .BitXor) (Jk 212#(Builtin.bitXor i j)):=ET 211#ixor_int
def unI{g:Int->Int}
 (rule:∀i t s Q E,Q (.int (g i) s.toks) { s with toks:=s.toks+1}->wpAny 8#0 X.A (f (.int i t)) Q E s) :
 Xw X f (rU λi=>.int (g i)):=by
 intro S s U H x v Q I rx h
 revert h;show af λi a q=>?_;subst a
 show 59;show rule i t s _ _ (92#(.int (g i)))
def mw:Xw X (unaryOp .USub) (rU λi=>.int (-i)):=unI λ_ _ _ _ _ q=>neg_int q
end
def R9:V->V->Bool
 | .eM,.eM=>true | .eM,.int _=>true | .int _,.eM=>true | .eM,.bl _=>true | .bl _,.eM=>true | .eM,.str _=>true | .str _,.eM=>true
 | .int _,.int _=>true | .bl _,.bl _=>true | .str _,.str _=>true | .Lj _,.Lj _=>true
 | .int _,.str _=>true | .str _,.int _=>true | .bl _,.str _=>true | .str _,.bl _=>true
 | _,_=>false
def rEq:R2:=λx y H Q=>R9 x y=true/\Q (.bl (decide (x=y))) H
def rNe:R2:=λx y H Q=>R9 x y=true/\Q (.bl (! decide (x=y))) H
def Hx:13#(V.int i=V.int j)=(i==j):=by
 rw[R!];simp
def LG:13#(V.bl i=V.bl j)=(i==j):=by
 rw[R!];simp
def Hy:13#(V.str i=V.str j)=(i==j):=by
 rw[R!];simp
def Hz:13#(V.Lj i=V.Lj j)=(i.toList==j.toList):=by
 rw[R!];cases i;cases j;simp
section
variable {X:Cx}
def cB{S:cF}{U:St}(I:θ X S U H s)(q:Q (.bl k) H)(e:k=b):EP X S U Q (.bool b) s:=by
 subst e;show aq (.bl k) H I rl q
def dP:jQ X 137#.Eq rEq:=by
 show 58;obtain⟨W,q⟩:=h;cases x with
 | eM =>
   cases rx;cases y with
   | eM=>cases B;show 122#PySem.EqNone.eq_none_none
   | bl j=>cases B;show 122#PySem.EqNone.eq_none_bool
   | int j=>show 76;show 122#PySem.EqNone.eq_none_int
   | str j=>show 76;show 122#PySem.EqNone.eq_none_str
   | _=>show absurd (W) w!
 | bl i =>
   cases rx;cases y with
   | eM=>cases B;show 122#PySem.EqNone.eq_bool_none
   | bl j=>cases B;show eq_bool (cB I q LG)
   | str j=>show 76;show 122#PySem.EqMixed.eq_bool_str
   | _=>show absurd (W) w!
 | int i =>
   show 59;cases y with
   | eM=>cases B;show 122#PySem.EqNone.eq_int_none
   | int j=>show 76;show eq_int (cB I q Hx)
   | str j=>show 76;show 122#PySem.EqMixed.eq_int_str
   | _=>show absurd (W) w!
 | str i =>
   show 59;cases y with
   | eM=>cases B;show 122#PySem.EqNone.eq_str_none
   | bl j=>cases B;show 122#PySem.EqMixed.eq_str_bool
   | int j=>show 76;show 122#PySem.EqMixed.eq_str_int
   | str j=>show 76;show eq_str (cB I q Hy)
   | _=>show absurd (W) w!
 | Lj i =>
   show 59;cases y with
   | Lj j=>show 76;show PySem.W.eq_bytes (cB I q Hz)
   | _=>show absurd (W) w!
 | _=>cases y<;>show absurd (W) w!
def lM:jQ X 137#.NotEq rNe:=by
 show 58;obtain⟨W,q⟩:=h;cases x with
 | eM =>
   cases rx;cases y with
   | eM=>cases B;show 122#PySem.EqNone.ne_none_none
   | bl j=>cases B;show 122#PySem.EqNone.ne_none_bool
   | int j=>show 76;show 122#PySem.EqNone.ne_none_int
   | str j=>show 76;show 122#PySem.EqNone.ne_none_str
   | _=>show absurd (W) w!
 | bl i =>
   cases rx;cases y with
   | eM=>cases B;show 122#PySem.EqNone.ne_bool_none
   | bl j=>cases B;show ne_bool (cB I q (k! not LG))
   | str j=>show 76;show 122#PySem.EqMixed.ne_bool_str
   | _=>show absurd (W) w!
 | int i =>
   show 59;cases y with
   | eM=>cases B;show 122#PySem.EqNone.ne_int_none
   | int j=>show 76;show ne_int (cB I q (k! not Hx))
   | str j=>show 76;show 122#PySem.EqMixed.ne_int_str
   | _=>show absurd (W) w!
 | str i =>
   show 59;cases y with
   | eM=>cases B;show 122#PySem.EqNone.ne_str_none
   | bl j=>cases B;show 122#PySem.EqMixed.ne_str_bool
   | int j=>show 76;show 122#PySem.EqMixed.ne_str_int
   | str j=>show 76;show ne_str (cB I q (k! not Hy))
   | _=>show absurd (W) w!
 | Lj i =>
   show 59;cases y with
   | Lj j=>show 76;show PySem.W.ne_bytes (cB I q (k! not Hz))
   | _=>show absurd (W) w!
 | _=>cases y<;>show absurd (W) w!
def B9:jQ X 137#.Lt (Jk λi j=>.bl (decide (i<j))):=O0 211#lt_int
def HA:jQ X 137#.LtE (Jk λi j=>.bl (decide (i<=j))):=O0 211#le_int
def j3:jQ X 137#.Gt (Jk λi j=>.bl (decide (j<i))):=O0 211#gt_int
def yu:jQ X 137#.GtE (Jk λi j=>.bl (decide (j<=i))):=O0 211#ge_int
def Jl:jQ X 137#.In (λx y H Q=>∃i j,x = .str i/\y = .str j/\Q (.bl (!(Builtin.Str.occurrences j i 0 j.length 1).isEmpty)) H):=by
 show 58
 revert h;show aD λi j b a q=>?_;subst b a
 show 59;show 76;show in_str (cB I q rl)
def iL:jQ X 137#.Is (λx y H Q=>y = .eM/\Q (.bl (13#(x = .eM))) H):=by
 show 58;obtain⟨rfl,q⟩:=h;cases B;show is_none_gen (cB I q ?_);cases x<;>first
  | (cases rx;rfl)
  | (show 59;rfl)
def t8:jQ X 137#.IsNot (λx y H Q=>y = .eM/\Q (.bl (! 13#(x = .eM))) H):=by
 show 58;obtain⟨rfl,q⟩:=h;cases B;show isnot_none_gen (cB I q ?_);cases x<;>first
  | (cases rx;rfl)
  | (show 59;rfl)
def aG(b:Expr){op:CmpOp}(h:op≠.In:=by decide)(R:op≠.NotIn:=by decide):behindInMarks op b=false:=by
 have t:(op==CmpOp.In)=false:=by cases op<;>first | rfl | show absurd rl h
 have U:(op==CmpOp.NotIn)=false:=by cases op<;>first | rfl | show absurd rl R
 cases b<;>simp[behindInMarks,t,U]
def cN(Y:jQ X 137#op r)(E:PE X a z)(O:PE X b tb)(d:behindInMarks op b=false):PE X (.Compare a [op] [b] l) (R4 r z tb):=by
 show 47;show wpAny_Compare1 (R5 E O I h λv u w x y G L rx B q=>Y S w U G x y v u Q L rx B q) d
def U6(t:TE):TT:=λU H Q=>t U H λx Y=>∃k,x = .bl k/\Q k Y
def aF(Y:jQ X 137#op r)(E:PE X a i)(O:PE X b tb)(d:behindInMarks op b=false):PT X (.Compare a [op] [b] l) (U6 (R4 r i tb)):=by
 show 47;show wpAny_isTrue_Compare1 (c6 27#E λv j=>aD λx N A J n=>c6 (O S j U N _ A n) λu w=>aD λy G L g R=>
  c6 (Y S w U G x y v u _ L J g R) λc m=>gF λz f=>bG λF Z k e C=>?_) d
 subst e;cases Z;show wpAny_truthy_bool (ae f F C)
def my:(sizeLine:Nat)<2^63:=by rw[sizeLine_eq];decide
def gz:jQ X (binaryOp .Add) (λx y H Q=>∃i j,x = .str i/\y = .str j/\36#(i.length+j.length)/\Q (.str (i++j)) H):=by
 show 58
 revert h;show aY λi j a b m q=>?_;subst a b
 show 59;show 76;show add_str (λT c=>92#(.str (i++j))) m
def vals1(r:υ [x] g):∃u,g=[u]/\Δ x u:=by
 cases r with
 | cons J a=>cases a;show ae _ rl J
def vals2(r:υ [x,y] g):∃u n,g=[u,n]/\Δ x u/\Δ y n:=by
 cases r with
 | cons J a =>
   cases a with
   | cons Z t=>cases t;show aq _ _ rl J Z
def LH:fB X (.builtin "abs") (λxs H Q=>∃i,xs=[.int i]/\Q (.int (if i<0 then -i else i)) H):=by
 show 185
 revert h;show af λi a q=>?_;subst a
 show 164#(λu c=>eg λt b=>?_);subst c b
 show call_abs_int λu j=>92#(.int (if i<0 then -i else i))
def yv(L:X.calm=true):fB X (.builtin "max") (λxs H Q=>∃i j,xs=[.int i,.int j]/\Q (.int (if j > i then j else i)) H):=by
 show 185
 revert h;show bh λi j a q=>?_;subst a
 show aD (λu n c b d=>?_) (vals2 r);subst c;obtain⟨t,rfl⟩:=b;obtain⟨T,rfl⟩:=d
 show max_two_ints (I.ok.hd L) λN e k=>aq _ H (I.kept k) ?_ q
 by_cases D:j > i
 .rw[ο D,ο D];show 197#0
 .rw[ξ D,ξ D];show 197#0
def yw(L:X.calm=true):fB X (.builtin "min") (λxs H Q=>∃i j,xs=[.int i,.int j]/\Q (.int (if j<i then j else i)) H):=by
 show 185
 revert h;show bh λi j a q=>?_;subst a
 show aD (λu n d c b=>?_) (vals2 r);subst d;obtain⟨t,rfl⟩:=c;obtain⟨T,rfl⟩:=b
 show min_two_ints (I.ok.hd L) λN e k=>aq _ H (I.kept k) ?_ q
 by_cases D:j<i
 .rw[ο D,ο D];show 197#0
 .rw[ξ D,ξ D];show 197#0
def Jm:fB X (.type "int") (λxs H Q=>(∃i,xs=[.int i]/\Q (.int i) H)\/∃k,xs=[.bl k]/\Q (.int (if k then 1 else 0)) H):=by
 show 185;rcases h with⟨i,rfl,q⟩|⟨k,rfl,q⟩
 .show 164#(λu a=>eg λt b=>?_);subst a b
  show call_int_int (aq (.int i) H I 197#0 q)
 .show 164#(λu a J=>?_);subst a
  cases J;show call_int_bool (92#(.int (if k then 1 else 0)))
def gV:fB X (.type "str") (λxs H Q=>∃i,xs=[.int i]/\i.natAbs.log2<1920/\Q (.str (toString i)) H):=by
 show 185
 revert h;show aA λi c m q=>?_;subst c
 show 164#(λu a=>eg λt b=>?_);subst a b
 show PySem.P.str_of_int m (92#(.str _))
end
structure EV(h:Heap)(x dx C:Addr)(mA:xA):Prop where
 obj:h.get? x=some (PySem.W.instObj C dx)
 ns:h.Ns1 dx mA
 ne:dx≠x
def yx{h:Heap}(n:h.Ns1 i p):∃m,h.get? i=some m/\∀name,PySem.W.lookIn name m=some (p name):=by
 revert n;show bO λo b E g J Y _ d=>?_
 show ae o g λname=>?_
 have e:=d name;unfold nsFind findBy at e;rw[<-Array.find?_toList]at e;unfold PySem.W.lookIn;rw[J];dsimp only
 split
 .rename_i y q
  rw[q]at e;show k! some e
 .rename_i q
  rw[q]at e;have a:b.toList.any (·.refKey)=false:=by
   rw[List.any_eq_false];intro y W;show gF (λz t f=>?_) (Y y (Array.mem_toList_iff.mp W))
   simp[DictEntry.refKey,f]
  have c : ¬ b.toList.any (·.refKey)=true:=by rw[a];show w!
  rw[ξ c];show k! some e
def EV.look(I:EV h x i C p):∃m,PySem.W.InstAt h x (PySem.W.instObj C i) C (some m)/\∀name,PySem.W.lookIn name m=some (p name) :=
 let⟨m,ho,hl⟩:=yx I.ns
 (ae m ⟨I.obj,rfl,rfl,ho⟩ hl)
section
variable   {A:Around}  {s:Shared}{K:cu}
def get_map(X:K.In s.heap)(I:EV s.heap x i C p)(M:PySem.W.plainGet K C name=true)(k:PySem.W.hasDictIn K C=true)
 (c:PySem.W.findIn K (.ref C) name=some none) (a:p name=some v) (e:PySem.W.handedIn v=true) (h:Q v { s with toks:=s.toks+1}) :
 52#(getAttr (.ref x) name b):=by
 show af (λm J P=>?_) I.look
 show PySem.W.get_value X J (adI M).1 (PySem.W.findObj_own k c rl (by rw[P,a])) e h
def LI(X:K.In s.heap)(I:EV s.heap x i C p)(M:PySem.W.plainGet K C name=true)
 (F:PySem.W.findIn K (.ref C) name=41#(.ref f)) (n:PySem.W.isFn K (.ref f)=true) (a:p name=none) (h:Q (.ref f,[.ref x]) s) :
 52#(getMethod (.ref x) name k):=by
 show af (λm J P=>?_) I.look
 show PySem.W.method_fn X J (adI M).1 (adI M).2 F (P?.mp n) (by change(PySem.W.lookIn name m).map (·.isSome)=some false;rw[P,a];rfl) h
def O1(X:K.In s.heap)(I:EV s.heap x i C p)
 (W:PySem.W.findIn K (.ref C) "__setattr__"=41#(.builtin "object.__setattr__")) (M:PySem.W.plainOver K C=true) (n:PySem.W.takerIn K C name=some none) (k:PySem.W.hasDictIn K C=true)
 (o:PySem.Within p ns) (l:36#ns.length)
 (h:∀h',EV h' x i C (λy=>if y=name then some v else p y)->213#i->Q () { s with heap:=h',toks:=s.toks+2}) :
 52#(setAttr (.ref x) name v):=by
 show af (λm J P=>?_) I.look
 show PySem.W.set_plain X J W (PySem.W.osa_open X J M n λb=>?_)
 show af (λcd L d=>?_) (PySem.W.any_some k)
 have B:=I.obj;show aU (Θ (aU (aU (wpAny_loadPart B (aU (PySem.W.Looks.here (PySem.W.looks_clsIn X L) ?_))))));rw[d];show Θ (aU (Θ (aU ?_)));show wpAny_nsSet1 I.ns λh' U r=>?_
 show eu (λe g j a c f=>?_) (U.count (PySem.Within.cons name v o))
 show aU (wpAny_lookBehind a (by rw[c];show pastItsLine_dict (b! f (by rw[y!];lia))) ?_)
 show Θ (h _ ⟨(r.2 _ (e! I.ne)).trans I.obj,U,I.ne⟩ r)
def LJ(X:K.In s.heap)(c:PySem.W.makesIn K C=true)
 (I:PySem.W.findIn K (.ref C) "__init__"=41#(.ref f)) (F:PySem.W.typeIn K (.ref f)=some (.type "function"))
 (h:codeAny 21#w (A.under (.builtin "type.__call__" ⟨.ref C::vs,a⟩)) (.call (.ref f) ⟨.ref (40#0)::vs,a⟩) (PySem.W.InitBack (40#0) R)
  { s with heap:=(110#PySem.W.emptyDict).push (181#0)}) :
 codeAny 21#w A (.call (.ref C) ⟨vs,a⟩) R s:=by
 obtain⟨k,g,d,t,os⟩:=s;show PySem.W.make_core (PySem.W.makes_of X c) (PySem.W.looks_findIn X I) (λb=>PySem.W.bind_fn X b F) (.inl rl) h
end
def eG(f:Str)(v:V):List (Str×V)->List (Str×V)
 | []=>[(f,v)]
 | (g,x)::r=>if g=f then(g,v)::r else(g,x)::eG f v r
theorem b7(f g)(v):∀W:List (Str×V),(eG f v W).lookup g=if g=f then some v else W.lookup g
 | []=>by
   change List.lookup g [(f,v)]=_
   by_cases h:g=f
   .have O:=P?.mpr h;simp only[List.lookup,O,ο h]
   .have O:=99#h;simp only[List.lookup,O,ξ h]
 | (k,x)::r=>by
   have G:=b7 f g v r;rw[show eG f v ((k,x)::r)=(if k=f then(k,v)::r else(k,x)::eG f v r) from rfl]
   by_cases Y:k=f
   .rw[ο Y]
    by_cases h:g=k
    .have O:=P?.mpr h;simp only[List.lookup,O,ο (h.trans Y)]
    .have O:=99#h;simp only[List.lookup,O,ξ (λe:g=f=>h (e.trans Y.symm))]
   .rw[ξ Y]
    by_cases h:g=k
    .have O:=P?.mpr h;simp only[List.lookup,O,ξ (λe:g=f=>Y (h.symm.trans e))]
    .have O:=99#h;simp only[List.lookup,O];show G
theorem ry(f)(v):∀W:List (Str×V),f∈(eG f v W).map (·.1)/\∀g,g∈W.map (·.1)->g∈(eG f v W).map (·.1)
 | []=>⟨by simp[eG],λg h=>by simp at h⟩
 | (k,x)::r=>by
   obtain⟨n,l⟩:=ry f v r;rw[show eG f v ((k,x)::r)=(if k=f then(k,v)::r else(k,x)::eG f v r) from rfl]
   by_cases Y:k=f
   .rw[ο Y];subst Y;show⟨by simp,λg h=>by simpa using h⟩
   .rw[ξ Y];show⟨?_,λg h=>?_⟩
    .rw[l!];show jx _ n
    .rw[l!]at h ⊢;rcases Z'.mp h with e|e
     .show Z'.mpr (.inl e)
     .show jx _ (l g e)
theorem iB(f)(v):∀W:List (Str×V),29#(eG f v W)<=W.length+1
 | []=>by simp[eG]
 | (k,x)::r=>by
   have G:=iB f v r;rw[show eG f v ((k,x)::r)=(if k=f then(k,v)::r else(k,x)::eG f v r) from rfl]
   by_cases Y:k=f
   .rw[ο Y,y!,y!];lia
   .rw[ξ Y,y!,y!];lia
def jZ.some_of(r:jZ (some v) o):∃u,o=some u/\Δ v u:=by
 cases o with
 | none=>show(r).elim
 | some u=>show ae u rfl r
def jZ.none_of(r:jZ none o):o=none:=by
 cases o with
 | none=>rfl
 | some u=>show(r).elim
def yy(r:Δ v u):PySem.W.handedIn u=true:=by
 cases v with
 | eM=>cases(r);rfl
 | bl b=>cases(r);rfl
 | int i=>obtain⟨t,e⟩:=(r);cases e;rfl
 | str x=>obtain⟨t,e⟩:=(r);cases e;rfl
 | Lj b=>obtain⟨t,e⟩:=(r);cases e;rfl
 | WL b=>obtain⟨t,e⟩:=(r);cases e;rfl
 | ref a=>cases(r);rfl
 | ty n=>cases(r);rfl
def Ak(D:lX P w H h)(e:215#(.ins C i W)):∃p,EV h a i C p/\(∀f,jZ (W.lookup f) (p f))/\PySem.Within p (W.map (·.1))/\W.length<=1000/\H i=some (.own a):=by
 show iI (λd z G T=>aA λp n r q=>?_) (D a _ e)
 show⟨p,(dD ⟨T,n,G⟩ r q z d)⟩
structure Ln(K:cu)(C:Addr):Prop where
 pg:PySem.W.plainGet K C Str.empty=true
 hd:PySem.W.hasDictIn K C=true
 po:PySem.W.plainOver K C=true
 sa:PySem.W.findIn K (.ref C) "__setattr__"=41#(.builtin "object.__setattr__")
def Ln.get{K}(c:Ln K C)(f):PySem.W.plainGet K C f=true:=c.pg
def jR(K:cu)(C:Addr)(f:Str):Prop:=PySem.W.findIn K (.ref C) f=some none
def jR.U7{K}(n:jR K C f):PySem.W.takerIn K C f=some none:=by
 unfold PySem.W.takerIn;rw[show PySem.W.findIn K (.ref C) f=some none from n]
 rfl
structure Meth(K:cu)(C:Addr)(m:Str)(f:Addr):Prop where
 at_:PySem.W.findIn K (.ref C) m=41#(.ref f)
 fn:PySem.W.isFn K (.ref f)=true
 kp:68#K
section
variable  {pq:cF}{σ:St}
def EW(I:5#s)(e:215#(.ins C i W))(c:Ln X.K C)(n:jR X.K C f)(l:W.lookup f=some v)
 (h:∀u Z,5#Z->Δ v u->Q u Z):wpAny 8#0 A (getAttr (.ref a) f b) Q E s:=by
 show eg (λp=>iI λO r _ _ _=>?_) (Ak I.hok e)
 show af (λu d Y=>?_) (jZ.some_of (by rw[<-l];show r f))
 show get_map I.pB O (c.get f) c.hd n d (yy Y) (h u _ (I.tok _) Y)
def uJ(I:5#s)(e:215#(.ins C i W))(c:Ln X.K C)(k:Meth X.K C m g)(l:W.lookup m=none)
 (h:Q (.ref g,[.ref a]) s):wpAny 8#0 A (getMethod (.ref a) m d) Q E s:=by
 show eg (λp=>iI λO r _ _ _=>?_) (Ak I.hok e)
 have b:=jZ.none_of (by rw[<-l];show r m)
 show LI I.pB O (c.get m) k.at_ k.fn b h
def EX(I:5#s)(e:215#(.ins C i W))(c:Ln X.K C)(n:jR X.K C f)(P:W.length<1000)(B:Δ y u)
 (h:∀Z,θ X pq σ (η H a (.ins C i (eG f y W))) Z->Q () Z):wpAny 8#0 A (setAttr (.ref a) f u) Q E s:=by
 show eg (λp=>iI λO r d _ Y=>?_) (Ak I.hok e)
 have m:(W.map (·.1)).length<=sizeLine:=by rw[χ,sizeLine_eq];lia
 show O1 I.pB O c.sa c.po n.U7 c.hd d m λN j l=>h _ ?_
 have J:∃o,N.get? i=some o:=let⟨o,_,_,e',_⟩:=j.ns;⟨o,e'⟩;show I.write (by rw[e];show True.intro) (.inr Y) (λb q k z=>(l.2 b k).trans z) J ?_
 show dD (by rw[ao O.ne];show Y) ?_ O.ne j.obj (au _ j.ns (λg=>?_) λg M=>?_)
 .have:=iB f y W;lia
 .rw[b7]
  by_cases q:g=f
  .rw[ο q,ο q];show B
  .rw[ξ q,ξ q];show r g
 .by_cases q:g=f
  .rw[q];show(ry f y W).1
  .show(ry f y W).2 g (d g λz=>M ?_)
   change(if g=f then some u else p g)=none
   rw[ξ q];show z
def θ.made(I:5#s):θ X pq σ (η (η H s.heap.objs.size (.own (40#0))) (40#0) (.ins C s.heap.objs.size []))
 { s with heap:=(110#PySem.W.emptyDict).push (181#0)}:=by
 have t:23#(110#PySem.W.emptyDict).get?=some PySem.W.emptyDict:=v! s.heap rfl;have U:((110#PySem.W.emptyDict).push (181#0)).get? (40#0)=some (181#0):=by
  have:=v! (110#PySem.W.emptyDict) (o:=181#0) rfl
  rwa [Z?]at this
 have R:(110#PySem.W.emptyDict).Ns s.heap.objs.size (λ_=>none):=aV PySem.W.emptyDict (#[]) _ t rl (λe T=>absurd T 22#0) λ_=>rfl
 have A:=I.laid (o:=.own (40#0)) (t':=s.toks) (λb u q=>c! _ q) (Ξ _) ⟨_,t⟩
 show A.laid (λb u q=>c! _ q) (o_ (Z? _ _)) ?_
 have G:s.heap.objs.size≠40#0:=n! (X? _);show dD (by rw[ao G,aa]) (r! _) G U (au (λ_=>none) ((Heap.Ns1.of_empty R).at λo q=>c! _ q) (λ_=>True.intro) λy W=>absurd rl W)
def HB(O:attributeBase e f env (eval e env)=eval e env)
 (h:wpAny 21#w A (eval e env) (λo B=>wpAny 21#w A (getAttr o f true) Q E B) E s):52#(eval (.Attribute e f l) env) :=
 Attribute_any_ h (by rw[arm_eval_Attribute,O])
end
def U8(K:cu)(z:TE)(f:Str):TE:=λU H Q=>z U H λx N=>∃a C i W v,x = .ref a/\N a=some (.ins C i W)/\Ln K C/\jR K C f/\W.lookup f=some v/\Q v N
def Xx(K:cu)(z e:TE)(f:Str):TS:=λD U H=>e U H λy N=>z U N λx G=>∃a C i W,x = .ref a/\G a=some (.ins C i W)/\Ln K C/\jR K C f/\W.length<1000/\
 D.nx U (η G a (.ins C i (eG f y W)))
section
variable    {pos pos' tpos:Pos}
def Sa(T:PE X e z)(O:attributeBase e f X.env 123#e=eval e X.env):PE X (.Attribute e f pos) (U8 X.K z f):=by
 show 47;show HB O (c6 27#T λu j=>aD λx N A rx=>dO λa C i W v P L=>jM λc n l q=>?_)
 subst P;show 124;show EW A L c n l λd w b Y=>aq v N b Y q
def rz(E:PE X o z)(k:PE X d e)(W:swapsWith d (some (.Attribute o f pos')) pos.line X.env=pure false):PS X (.Assign [.Attribute o f pos'] d pos) (Xx X.K z e f):=by
 show 140;show plainObj_wpAny_Assign_Attribute (c6 27#k λu j=>aD λy N A B q=>c6 (E S j U N _ A q) λb w=>aD λx G g rx=>gb λa C i m=>eV λP L c n l R=>?_) W
 subst P;obtain rfl:b=Value.ref a:=rx;show EX g L c n l B λO F=>bf U _ F R
end
structure dF(k:Nat)(A:Around):Prop where
 hd:A.handled=none
 dp:A.depth+3*k+5<recursionLimit
 un:A.units+16*k+200<cLine
def dF.mono(r:dF k A)(h:j<=k):dF j A:=⟨r.hd,by have:=r.dp;lia,by have:=r.un;lia⟩
def dF.deeper(r:dF (k+1) A)(env):dF k (A.deeper env) :=
 ⟨r.hd,by have:=r.dp;change A.depth+1+3*k+5<_;lia,by have:=r.un;change A.units+3+16*k+200<_;lia⟩
def dF.in1(r:dF (k+1) A):dF k A.in1 :=
 ⟨r.hd,by have:=r.dp;change A.depth+3*k+5<_;lia,by have:=r.un;change A.units+1+16*k+200<_;lia⟩
def EY{A:Around}:(A.under (.builtin "type.__call__" ⟨.ref C::g,a⟩)).depth=A.depth+1:=by
 first | rfl | simp[Around.under,Code.weight,Code.isCreation,Code.isGuard,Code.isCaller,Code.frames,Code.isFrame,guardIds]
def EZ{A:Around}:(A.under (.builtin "type.__call__" ⟨.ref C::g,a⟩)).units=A.units+1:=by
 first | rfl | simp[Around.under,Code.cUnits,Code.frames,Code.isFrame]
def dF.make(r:dF (k+1) A)(C)(us)(kw):dF k (A.under (.builtin "type.__call__" ⟨.ref C::us,kw⟩)) :=
 ⟨r.hd,by have:=r.dp;rw[EY];lia,by have:=r.un;rw[EZ];lia⟩
def dF.depth(r:dF k A):A.depth<recursionLimit:=by have:=r.dp;lia
def dF.units(r:dF k A):A.units+64<cLine:=by have:=r.un;lia
def dF.E1(r:dF k A):A.units<cLine:=by have:=r.un;lia
def LK:TA:=λ_ H Q=>Q [] H
def HC(z:TE)(a:TA):TA:=λU H Q=>z U H λx N=>a U N λf G=>Q (x::f) G
section
variable {X:Cx}{e:Expr}{es:List Expr}{te:TE}{t:TA}
def dY:PA X [] LK:=λ_ _ _ _ H Q I h=>Calls.spliced_nil (aq [] H I .nil h)
def bq(E:PE X e te)(C:PA X es t)(W:9#(e::es)=25#e::9#es:=by rfl):PA X (e::es) (HC te t):=by
 intro l S s U H Q I h;rw[W];show Calls.spliced_cons (c6 27#E λu j=>aD λx N A J n=>?_)
 show c6 (C l S j U N _ A n) λg w=>aD λf G L a R=>?_
 show aq (x::f) G L (.cons J a) R
def Xy(t:TA):TE:=λU H Q=>t U H λf N=>36#f.length/\∀p,N p=none->Q (.ref p) (η N p (.tup f))
def Xz(t:TA):TE:=λU H Q=>t U H λf N=>36#f.length/\∀p,N p=none->Q (.ref p) (η N p (.lst f))
def bV{x1}(h:PA X es t):PE X (.Tuple es x1 l) (Xy t):=by
 intro S s U H Q I D;show wpAny_Tuple_spliced (c6 (h l S s U H _ I D) λg j=>aY λf N A r z q=>?_)
 show⟨by rw[<-r.length];show z,?_⟩
 have F:=A.hok.fresh (Ξ _);show aq (.ref j.heap.objs.size) (η N j.heap.objs.size (.tup f)) (A.laid (λb u e=>c! _ e) (Ξ _) ?_) rl (q _ F)
 show bR z g r (ae _ (v! _ rl) (cD rl _ rl))
def bJ(h:PA X es t):PE X (.List es l) (Xz t):=by
 intro S s U H Q I D;show wpAny_List_spliced (c6 (h l S s U H _ I D) λg j=>aY λf N A r z q=>?_)
 show⟨by rw[<-r.length];show z,?_⟩
 have F:=A.hok.fresh (Ξ _);show aq (.ref j.heap.objs.size) (η N j.heap.objs.size (.lst f)) (A.laid (λb u e=>c! _ e) (Ξ _) ?_) rl (q _ F)
 show aS z g 0 r (v! _ rl)
end
abbrev Sp:=List V->Hp->VK->XK->Prop
abbrev Lo:=List Env->Hp->Shared->XK->Value->Shared->Prop
structure Al(P:Program)(w:World)(K:cu)(mg:xA)(base:Heap)(A:Around)(outer:List Env)(s:Shared)(H:Hp):Prop where
 frames:A.frames=some outer
 mod:Mod K mg base
 bs:∀b o,48#base.get?->16#o/\H b=none
 Ll:base.objs.size<=s.heap.objs.size
 funs:s.heap.FunFrames base outer
 Lv:∀b∈frs outer,H b=none
 hok:lX P w H s.heap
 bare:AllBare s.gens
def CE(outer:List Env)(P:Program)(w:World)(H:Hp)(s:Shared)(Q:VK)(u:Value)(Z:Shared):Prop :=
 ∃v Y,Z.os=s.os/\AllBare Z.gens/\Un (frs outer) [] H Y s.heap Z.heap/\lX P w Y Z.heap/\Δ v u/\Q v Y
def CR(CX:Lo)(outer:List Env)(P:Program)(w:World)(H:Hp)(s:Shared)(Q:VK)(E:XK)(r:Result)(Z:Shared):Prop :=
 match r with
 | .ok (.ret u)=>CE outer P w H s Q u Z
 | .ok _=>False
 | .error e=>CX outer H s E e Z
structure iM(P:Program)(w:World)(K:cu)(mg:xA)(base:Heap)(CX:Lo)(k:Nat)(f:Addr)(fd:FuncData)(ps:List Str)(sp:Sp):Prop where
 len:61#ps.length
 run:∀(A:Around) (outer:List Env) (s:Shared) (H:Hp) (args:Args) (us:70#0) (vs:List V) (Q:VK) (E:XK),dF k A->Al P w K mg base A outer s H->BindsTo s fd args (ps.zip us)->υ vs us->sp vs H Q E->
  codeAny (model P w) A (.call (.ref f) args) (CR CX outer P w H s Q E) s
def iM.imp{K}(F:iM P w K mg base CX k f fd i sp)
 (h:∀vs H Q E,c vs H Q E->sp vs H Q E):iM P w K mg base CX k f fd i c :=
 ⟨λvs H Q E q=>F.len vs H Q E (h _ _ _ _ q),λA b s H L g vs Q E C T O a W=>F.run A b s H L g vs Q E C T O a (h _ _ _ _ W)⟩
def Al.make{K}(e:Al P w K mg base A outer s H)(C)(us)(kw):
 Al P w K mg base (A.under (.builtin "type.__call__" ⟨.ref C::us,kw⟩)) outer s H:=⟨by first | show e.frames | (simpa[Around.under,Code.envs,Code.isFrame,pushEnvs]using e.frames),e.mod,e.bs,e.Ll,e.funs,e.Lv,e.hok,e.bare⟩
section
variable  {pq:cF}{σ:St}
def θ.O2(I:5#s):Al X.prog X.w X.K X.mg X.base X.A X.stack s H :=
 ⟨I.ok.frames,I.ok.mod,I.bs,b! I.ok.Ll I.sz,I.stack,I.tZ,I.hok,I.bare⟩
def θ.after(I:5#s)(h:CE X.stack X.prog X.w H s Q u Z):EP X pq σ Q u Z:=by
 revert h;show gF λv Y=>eV λos j l D r q=>?_
 obtain⟨k,g,d,t,a⟩:=Z;obtain rfl:a=s.os:=os;show aq v Y (I.call l D j (λb z=>absurd z 22#0)) r q
end
def Ca(sp:Sp)(b:List V)(E:XK)(t:TA):TE:=λU H Q=>t U H λF N=>sp (F++b) N Q E
def HD(C:Addr)(m:Str)(sp:Sp)(b:List V)(E:XK)(z:TE)(t:TA):TE:=λU H Q=>z U H λx N=>∃a i W,x = .ref a/\N a=some (.ins C i W)/\W.lookup m=none/\
 t U N λF G=>sp (x::(F++b)) G Q E
def U9(C:Addr)(sp:Sp)(b:List V)(E:XK)(t:TA):TE:=λU H Q=>t U H λF N=>∀x i,N x=none->N i=none->i≠x->
 sp (.ref x::(F++b)) (η (η N i (.own x)) x (.ins C i [])) (λv G=>v = .eM/\Q (.ref x) G) E
def Binds(K:cu)(fd:FuncData)(i:List Str)(y:70#0):Prop :=
 ∀s g,K.In s.heap->(g++y).length=i.length->BindsTo s fd ⟨g,[]⟩ (i.zip (g++y))
def Binds.all{K:cu}{i:List Str}(h:∀g:70#0,g.length=i.length->bindArgs fd ⟨g,[]⟩=pure (i.zip g)):Binds K fd i []:=λs g _ P=>by
 rw[A?]at P ⊢;show .of_eq (h g P)
def Passes(CX:Lo)(X:Cx)(E:XK):Prop:=∀pq (σ:St) H s e s',5#s->CX X.stack H s E e s'->X.xe e s'
section
variable {X:Cx}{CX:Lo}{k:Nat}{f C:Addr}{fd:FuncData}{ps:List Str}{sp:Sp}{BZ:List V}{ds:70#0}{E:XK}{x m:Str}{p pos apos:Pos}{e o:Expr}{es:List Expr}{ta:TE}{t:TA}
def Am{S:cF}{U:St}(F:119#ps)(b:dF k X.A)(O:Binds X.K fd ps ds)(J:υ BZ ds)(B:Passes CX X E)
 (I:θ X S U H s) (r:υ vs g) (h:sp (vs++BZ) H Q E):wpAny 8#0 X.A (call (.ref f) g) (EP X S U Q) X.xe s:=by
 have a:=r.append J;have P:29#(g++ds)=ps.length:=by rw[<-a.length];show F.len _ _ _ _ h
 show wpAny_call (codeAny_mono (F.run X.A X.stack s H ⟨g,[]⟩ (g++ds) (vs++BZ) Q E b I.O2 (O s g I.pB P) a h) λr Z D=>?_)
 cases r with
 | error e=>show B S U H s e Z I D
 | ok w =>
   cases w with
   | ret u=>show I.after D
   | next=>show 147#D
   | brk=>show 147#D
   | cont=>show 147#D
def O3(F:119#ps)(c:dF k X.A)(M:Gl X x)(d:X.mg x=some (.ref f))(Y:68#X.K)(O:Binds X.K fd ps ds)(J:υ BZ ds)(B:Passes CX X E)
 (a:PA X (e::es) t) (v:193#("__debug__":Str):=by decide) (T:9#(e::es)=25#e::9#es:=by rfl) (b:(179#9#es).any (·.1)=false:=by rfl) :
 PE X (.Call (.Name x p) (e::es) [] pos) (Ca sp BZ E t):=by
 show 47;show 174#(kQ I M d ?_ v);show A_ I.ok.mod.OY Y (c6 (a pos S s U H _ I h) λg j=>aD λi N A r q=>⟨A.pB,?_⟩) T b
 show Am F c O J B A r q
def O4{D:Sem Bool}(T:PE X o ta)(c:Ln X.K C)(d:Meth X.K C m f)(F:119#ps)(z:dF k X.A)(O:Binds X.K fd ps ds)(J:υ BZ ds)(B:Passes CX X E)(y:PA X (e::es) t)
 (Y:9#(e::es)=25#e::9#es:=by rfl) (b:(179#9#es).any (·.1)=false:=by rfl)
 (n:eval (.Call (.Attribute o m apos) (e::es) [] pos) X.env=(do
  let ov←eval o X.env
  standAt apos.atName
  let(f,first)←holding [ov] (getMethod ov m D)
  callWith pos f first (179#9#(e::es)) 128#pos):=by rfl) :
 PE X (.Call (.Attribute o m apos) (e::es) [] pos) (HD C m sp BZ E ta t):=by
 show 47;show adt (c6 27#T λu j=>eg λx=>cM λN A rx a=>aY λi W P L l q=>?_) n
 subst P;show 124;show uJ A L c d l ?_;show A_ I.ok.mod.OY d.kp (c6 (y pos S j U N _ A q) λg w=>aD λv G p r R=>⟨p.pB,?_⟩) Y b
 show Am (vs:=.ref a::v) F z O J B p (.cons rl r) R
def LL{g:Sem Bool}(T:PE X o ta)(c:Ln X.K C)(d:Meth X.K C m f)(F:119#ps)(b:dF k X.A)(O:Binds X.K fd ps ds)(J:υ BZ ds)(B:Passes CX X E)
 (n:eval (.Call (.Attribute o m apos) [] [] pos) X.env=(do
  let ov←eval o X.env
  standAt apos.atName
  let(f,first)←holding [ov] (getMethod ov m g)
  callWith pos f first (179#9#([])) 128#pos):=by rfl) :
 PE X (.Call (.Attribute o m apos) [] [] pos) (HD C m sp BZ E ta LK):=by
 show 47;show adt (c6 27#T λu j=>eg λx=>cM λN A rx a=>aY λi W P L l q=>?_) n
 subst P;show 124;show uJ A L c d l ?_;show PySem.W.callWith_K0 A.pB d.kp (Am (vs:=[.ref a]) F b O J B A 117#rl q)
structure Mk(K:cu)(C f:Addr):Prop where
 makes:PySem.W.makesIn K C=true
 init:PySem.W.findIn K (.ref C) "__init__"=41#(.ref f)
 fn:PySem.W.isFn K (.ref f)=true
 kp:PySem.W.keepIn K (.ref C)=true
def LM{S:cF}{U:St}(M:Mk X.K C f)(F:119#ps)(c:dF (k+1) X.A)(O:Binds X.K fd ps ds)(J:υ BZ ds)
 (B:Passes CX X E) (I:θ X S U H s) (r:υ vs g)
 (h:∀x i,H x=none->H i=none->i≠x->sp (.ref x::(vs++BZ)) (η (η H i (.own x)) x (.ins C i [])) (λv G=>v = .eM/\Q (.ref x) G) E) :
 wpAny 8#0 X.A (call (.ref C) g) (EP X S U Q) X.xe s:=by
 have D:=h (40#0) s.heap.objs.size (138#(Q! _)) (138#(Ξ _)) (n! (X? _));have L:=θ.made (C:=C) I;have a:υ (V.ref (40#0)::(vs++BZ)) (Value.ref (40#0)::(g++ds)):=.cons rl (r.append J);have P:29#(Value.ref (40#0)::g++ds)=ps.length:=by
  have e:=a.length;rw[F.len _ _ _ _ D]at e;show e.symm
 show wpAny_call (LJ I.pB M.makes M.init (P?.mp M.fn) (codeAny_mono (F.run _ X.stack _ _ ⟨Value.ref (40#0)::g,[]⟩ (Value.ref (40#0)::(g++ds)) _ _ E (c.make C g [])
  (L.O2.make C g []) (O _ (Value.ref (40#0)::g) L.pB P) a D) λr Z d=>?_))
 cases r with
 | error e=>show B S U _ _ e Z L d
 | ok w =>
   cases w with
   | ret u =>
     show aY (λv Y b l W j=>?_) (L.after d)
     subst W;show⟨l,aq (V.ref (40#0)) Y b rl j⟩
   | next=>show 147#d
   | brk=>show 147#d
   | cont=>show 147#d
def O5(M:Mk X.K C f)(F:119#ps)(i:dF (k+1) X.A)(c:Gl X x)(d:X.mg x=some (.ref C))(O:Binds X.K fd ps ds)(J:υ BZ ds)(B:Passes CX X E)
 (a:PA X (e::es) t) (v:193#("__debug__":Str):=by decide) (T:9#(e::es)=25#e::9#es:=by rfl) (b:(179#9#es).any (·.1)=false:=by rfl) :
 PE X (.Call (.Name x p) (e::es) [] pos) (U9 C sp BZ E t):=by
 show 47;show 174#(kQ I c d ?_ v);show A_ I.ok.mod.OY M.kp (c6 (a pos S s U H _ I h) λg j=>aD λl N A r q=>⟨A.pB,?_⟩) T b
 show LM M F i O J B A r q
end
structure dH(N P:List Str)(sc:Scope):Prop where
 kind:sc.kind = .function
 co:sc.isCoroutine=false
 gen:sc.isGenerator=false
 nd:N.Nodup
 pre:N.take P.length=P
 par:∀x∈P,sc.names.lookup x=some .local\/sc.names.lookup x=some .cell
 Sb:∀y∈sc.names,y.2≠.free
theorem yz{kindOf}:∀{binds} {m},(∀v,(x,v)∉binds)->bindL kindOf binds m x=m x
 | [],_,_=>rfl
 | (n,v)::r,m,h=>by
   unfold bindL;rw[yz λw o=>h w (jx _ o)]
   split
   .have:x≠n:=by rintro rfl;show h v g!
    simp[this]
   .rfl
theorem yC{kindOf}:∀{binds} {m},(∀v,(x,v)∉binds)->bindC kindOf binds m x=m x
 | [],_,_=>rfl
 | (n,v)::r,m,h=>by
   unfold bindC;rw[yC λw o=>h w (jx _ o)]
   split
   .rfl
   .have:x≠n:=by rintro rfl;show h v g!
    simp[this]
theorem yD{kindOf}:∀{P:List Str} {vs} {i:Nat} {m},P.Nodup->P[i]?=some x->vs[i]?=some v->kindOf x=some .local->
 bindL kindOf (P.zip vs) m x=some v
 | [],_,_,_,_,h,_,_=>by simp at h
 | _::_,[],_,_,_,_,h,_=>by simp at h
 | p::P,w::vs,0,m,nd,h1,h2,hk=>by
   simp at h1 h2;subst h1;subst h2;change bindL kindOf ((p,w)::P.zip vs) m p=_;unfold bindL;rw[yz λv a=>(P!.mp nd).1 (_Y a).1,ο hk]
   simp
 | p::P,w::vs,i+1,m,nd,h1,h2,hk=>by
   unfold bindL;show yD (i:=i) (P!.mp nd).2 (by simpa using h1) (by simpa using h2) hk
theorem yE{kindOf}:∀{P:List Str} {vs} {i:Nat} {m},P.Nodup->P[i]?=some x->vs[i]?=some v->kindOf x≠some .local->
 bindC kindOf (P.zip vs) m x=some v
 | [],_,_,_,_,h,_,_=>by simp at h
 | _::_,[],_,_,_,_,h,_=>by simp at h
 | p::P,w::vs,0,m,nd,h1,h2,hk=>by
   simp at h1 h2;subst h1;subst h2;change bindC kindOf ((p,w)::P.zip vs) m p=_;unfold bindC;rw[yC λv a=>(P!.mp nd).1 (_Y a).1,ξ hk]
   simp
 | p::P,w::vs,i+1,m,nd,h1,h2,hk=>by
   unfold bindC;show yE (i:=i) (P!.mp nd).2 (by simpa using h1) (by simpa using h2) hk
def start(N:List Str)(vs:List V):St:=vs.map some++73#(N.length-vs.length)
def nZ(CX:Lo)(P:Program)(w:World)(K:cu)(mg:xA)(base:Heap)(N:List Str)(B:Str)(scope:Scope)(f:Addr)(cd:Value)(A:Around)(outer:List Env)(s:Shared)(H:Hp)(E:XK):Cx where
 prog:=P
 w:=w
 K:=K
 mg:=mg
 base:=base
 A:=A.deeper (65#cd)
 N:=N
 s₀:=s
 H₀:=H
 env:=65#cd
 outer:=outer
 stack:=65#cd::outer
 ex:=[]
 calm:=true
 fn:=λ_=>true
 pn:=[]
 xe:=λe Z=>wpAny (model P w) (A.deeper (65#cd)) (leaving (65#cd) e) (λ_ a=>CX outer H s E e a) (λD a=>CX outer H s E D a) Z
def Cb{f:Scope}(h:f.names.lookup x=some .cell):∃c,(cellsFrom n f.names []).lookup x=some c:=by
 have q:=adf f.names n [] (.inl h);show Option.isSome_iff_exists.mp q
def yF{K:cu}{A:Around}{vs:List V}
 (S:dH N n scope) (J:A.handled=none) (U:Al P w K mg base A outer s H) (t:vs.length=n.length) (r:υ vs g)
 (x:InCallC s s.heap.objs.size (bindL (65#cd).kindOf (n.zip g) λ_=>none) (cellsFrom (40#0) scope.names []) (bindC (65#cd).kindOf (n.zip g) λ_=>none) j) :
 θ (nZ CX P w K mg base N B scope f cd A outer s H E) [] (start N vs) H j:=by
 have C:n.length<=N.length:=by have:=k! List.length S.pre;rw[I!]at this;lia
 show bh (λZ D m Y=>?_) x.done;subst m
 have d:∀b:Addr,b∉(nZ CX P w K mg base N B scope f cd A outer s H E).ex:=λb z=>absurd (show b∈([]) from z) 22#0
 show⟨⟨U.mod,S.kind,rfl,rfl,Ξ _,λy z c Z R=>?_,λy W=>?_,λy c _ h=>?_,λ_=>J,Around.frames_deeper U.frames,.inr 196#0,λb z=>absurd z (d b),U.bs,U.Ll,λb _ _=>d b,λb z=>absurd z (d b),U.funs,U.Lv⟩,
  rfl,U.bare,Un.kept Y,ae _ x.toInCall.ns λi y v Z R l=>?_,λy c h=>⟨_,x.cell y c h⟩,U.hok.fresh (Ξ _),λy c h=>?_,λp M=>absurd (show p∈([]) from M) 22#0,U.hok.kept Y,?_⟩
 .show name_of_addr x.apart (L? Z) (L? R)
 .have W:=W;rcases W with W|W
  .show Cb W
  .show absurd rl (S.Sb _ (L? W))
 .show U! (x.above y c (L? h))
 .have I:i<vs.length:=by
   unfold start at R
   by_cases I:i<vs.length
   .show I
   .rw[u? (by simpa using I)]at R
    rw[O_]at R
    split at R<;>cases R
  have o:vs[i]?=some v:=by
   unfold start at R;rw[d? (by simpa using I),d!]at R
   cases e:vs[i]? with
   | none=>rw[e]at R;cases R
   | some a=>rw[e]at R;cases R;rfl
  show af (λu l G=>?_) (r.get o)
  have M:n[i]?=some y:=by
   rw[<-S.pre,List.getElem?_take_of_lt (by lia)];show Z
  have a:n.Nodup:=by rw[<-S.pre];show S.nd.sublist (List.take_sublist _ _)
  show ae u G ?_;rcases S.par y (fP M) with k|k
  .show .inl ⟨k,yD a M l k⟩
  .obtain⟨c,e⟩:=Cb k;show .inr (bR (.inl k) c e ?_);have q:=x.cell y c e;rw[yE a M l (by change scope.names.lookup y≠_;rw[k];decide)]at q
   show q
 .show U.hok.fresh (U! (x.above y c (L? h)))
 .unfold start;change _=N.length;rw[i!,χ,K?]
  lia
def LN{K:cu}{h kV X z d ct oc:Value}
 (c:K.lookup f=some ⟨oc,m,.func (PySem.W.fnOf name B l a scope h kV X z R d ct),b⟩) (p:PySem.W.codeIn K d B=true) (S:dH N i scope)
   (len:61#i.length)
   (M:∀A outer s H vs Q E,dF k (A.deeper (65#d))->sp vs H Q E->
    67#(pY (nZ CX P w K mg base N B scope f d A outer s H E) a t)) :
   iM P w K mg base CX (k+1) f (PySem.W.fnOf name B l a scope h kV X z R d ct) i sp:=by
  show⟨len,λA outer s H L g vs Q E C U O r h=>?_⟩
  have l:=len _ _ _ _ h;have a:=U.mod.OY.keeps λb o e=>(U.bs b o e).1
  have m:=U.mod.nolimit.keeps λb o e=>(U.bs b o e).1
  have b:∀y∈i.zip g,101#y.1\/(scope.names.lookup y.1=some .cell/\((cellsFrom (40#0) scope.names []).lookup y.1).isSome=true):=λ⟨n,v⟩ j=>by
   rcases S.par n (_Y j).1 with q|q
   .show .inl q
   .show .inr ⟨q,adf _ _ _ (.inl q)⟩
  show codeAny_call_function C.depth (a _ _ c) rl S.co S.gen rl (PySem.W.codeRec_of a p) (O _ _ _ _ ?_);show wpAny_newFunctionEnv_cells S.kind b λa T j x=>?_
  subst T;show⟨m.keeps x.toInCall.keep,codeAny_func ?_⟩;show af (λt a D=>?_) (M A outer s H vs Q E (C.deeper _) h)
  have I:θ (nZ CX P w K mg base N B scope f d A outer s H E) [] (start N vs) H j:=yF S C.hd U l r x;show p! (a [] j (start N vs) H _ I D) (λb Z W=>?_) λe Z W=>W
  have F:∀{a:St} {Y:Hp} {v:V} {u:Value},θ (nZ CX P w K mg base N B scope f d A outer s H E) [] a Y Z->Δ v u->Q v Y->CE outer P w H s Q u Z :=
   λ{a Y v u} J G q=>bf v Y J.os (dD J.bare J.base J.hok G q)
  cases b with
  | ret u =>
    revert W;show eu λv a Y J G q=>?_
    show F J G q
  | next =>
    revert W;show bh λa Y J q=>?_
    show F (v:=V.eM) J rl q
  | brk =>
    revert W;show bh λ_ _ _ q=>?_
    show 147#q
  | cont =>
    revert W;show bh λ_ _ _ q=>?_
    show 147#q
section
variable {X:Cx}{x:Str}{p pos:Pos}{e:Expr}{es:List Expr}{t:TA}{id T:String}{r:80#(List V)}
def XA(r:80#(List V))(t:TA):TE:=λU H Q=>t U H λF N=>r F N Q
def cS(L:fB X (.builtin id) r)(M:Gl X x)(d:X.mg x=none)(a:bootBuiltins x=some (.builtin id))(E:PA X (e::es) t)(g:x≠"__name__":=by decide)(v:193#("__debug__":Str):=by decide)
 (c:9#(e::es)=25#e::9#es:=by rfl) (b:(179#9#es).any (·.1)=false:=by rfl):PE X (.Call (.Name x p) (e::es) [] pos) (XA r t):=by
 show 47;show 174#(jO I M d a ?_ g v);show PyProof.Rows.callWith_builtin1 (c6 (E pos S s U H _ I h) λf j=>aD λF N A J n=>L S j U N F f Q A J n) c b
def bU(L:fB X (.type T) r)(M:Gl X x)(d:X.mg x=none)(a:bootBuiltins x=some (.type T))(E:PA X (e::es) t)(g:x≠"__name__":=by decide)(v:193#("__debug__":Str):=by decide)
 (c:9#(e::es)=25#e::9#es:=by rfl) (b:(179#9#es).any (·.1)=false:=by rfl):PE X (.Call (.Name x p) (e::es) [] pos) (XA r t):=by
 show 47;show 174#(jO I M d a ?_ g v);show s_ (c6 (E pos S s U H _ I h) λf j=>aD λF N A J n=>L S j U N F f Q A J n) c b
end
end L2
namespace HT
open PySem PyProof.Rows
def lexLt:List Int->List Int->Bool
 | [],[]=>false
 | [],_::_=>true
 | _::_,[]=>false
 | x::xs,y::ys=>if x=y then lexLt xs ys else decide (x<y)
def fg(x y)(xs ys):lexLt (x::xs) (y::ys)=if x=y then lexLt xs ys else decide (x<y):=rfl
def oj:lexLt [] []=false:=rfl
def uK(y)(ys):lexLt [] (y::ys)=true:=rfl
def gW(x)(xs):lexLt (x::xs) []=false:=rfl
def Cc(A)(s)(a)(t)(c)(u):∃e,SeqAt.EqAt A s (.int a t) (.int c u) e/\(e=true↔a=c) :=
 (ae (a==c) (SeqAt.EqAt.int_int a t c u) 22#0)
def LO(A)(s)(a)(t)(c)(u)(prog)(w)(E)(Q)(h:Q (.bool (decide (a<c))) s):
 52#(richCompare .Lt (.int a t) (.int c u)) :=
 (PyProof.Rows.lt_int h)
section
open PySem.SeqAt
open PySem.AutoSeq1 (wpAny_loadPart')
open PySem.MeetsSeq PySem.MeetsSeq2 PySem.MeetsSeq3
def xD(l b:Addr)(p f:Array Value)(n c:Nat)(C a:184#0)(i d:Array (Option Value))(ns U:List Int)(I:IntsAre p.toList ns)(D:IntsAre f.toList U):
 Meets (Builtin.«tuple.__lt__» ⟨[.ref l,.ref b],[]⟩)
  (λ_ R s=>s.heap.get? l=some { cls:=.type "tuple",dict:=C,data:=.seq p n,slots:=i}/\16#{ cls:=.type "tuple",dict:=a,data:=.seq f c,slots:=d}/\
   R (161#(.bool (lexLt ns U))) s) :=
 .of_wp λL w A R s h=>by
  obtain⟨M,g,d,j,os⟩:=s;revert h;show cW λP O h=>?_
  have Q:=AutoSeq1.sub_tuple_tuple;have a:p.size=ns.length:=by rw[<-I.length];simp
  have X:f.size=U.length:=by rw[<-D.length];simp
  wp_walk using 173#P,173#O,wpAny_forIn_list _ (λH b Z=>b.1=none/\Z=177#j/\∃(F k:70#0) (N r:List Int),H=F.zip k/\
   IntsAre F N/\IntsAre k r/\N.length+f.size=r.length+p.size/\R (161#(.bool (lexLt N r))) 177#j) _
  case turn =>
   intro o H b Z;show cW λi z=>eg λF=>bO λk N r m G v E J=>?_;obtain⟨y,x⟩:=o;subst z
   cases G with
   | nil=>rw[List.zip_nil_left]at m;cases m
   | cons a t l =>
     cases v with
     | nil=>rw[List.zip_nil_right]at m;cases m
     | cons c u n =>
       rw[List.zip_cons_cons]at m;injection m with S b
       injection S with W B
       subst W B;rw[fg]at J;simp only[y!]at E;show af (λe T Y=>?_) (Cc A.in1 177#j a t c u)
       show 157#(T L w _ _ ?_);cases e with
       | true =>
         rw[ο (Y.mp rl)]at J
         wp_walk
         show bF rl rl (bu _ _ _ _ b l n (by lia) J)
       | false =>
         rw[ξ (λq=>absurd (Y.mpr q) w!)]at J
         have b:=LO A.in1 177#j a t c u L w
         wp_walk using b
         show ae _ rl (by simpa using J)
  case fin =>
   intro q Z;show cW λi e=>eg λF=>bO λk N r m G v E J=>?_;obtain⟨y,z⟩:=q;subst e
   subst i;have x:lexLt N r=13#(p.size<f.size):=by
    cases G with
    | nil =>
      cases v with
      | nil =>
        rw[oj];show(gm (by lia)).symm
      | cons c u o =>
        simp only[j_,y!]at E;rw[uK];show(e8 (by lia)).symm
    | cons a t x =>
      cases v with
      | nil =>
        simp only[j_,y!]at E;rw[gW];show(gm (by lia)).symm
      | cons c u o =>
        rw[List.zip_cons_cons]at m;cases m
   rw[x]at J
   wp_walk
   show ae _ rl (by simpa[Builtin.Tuple.tupleCompareSizes]using J)
  case h =>
   show bF rl rl (bu p.toList f.toList ns U rl I D (by lia) h)
end
section
variable   {A:Around}  {s:Shared}
def E2(P:IsTup s.heap l p)(O:IsTup s.heap b f)(I:IntsAre p.toList ns)(D:IntsAre f.toList U)
 (c:A.units<cLine) (h:Q (.bool (lexLt ns U)) s):52#(compareOp .Lt (.ref l) (.ref b)):=by
 show cM (λj Y L n J=>?_) (id P);obtain⟨S,C,R,i⟩:=j
 show cM (λa k e T o=>?_) (id O);obtain⟨W,d,data2,g⟩:=a
 subst L J e o;show richCompare_meets_room (op:=.Lt) (ae _ Y rl) (ae _ k rl) PySem.F.slot_tuple_lt PySem.F.entry_tuple_lt (PySem.F.args_tuple_lt_2 _ _) (xD l b p f n T C d i g ns U I D)
  (bF Y k (show Value.bool (lexLt ns U)≠Value.notImplemented/\Q (.bool (lexLt ns U)) s from⟨(λx=>nomatch x),h⟩)) c
def fX(n d:Nat):218#0->Nat
 | none=>d
 | some v=>if v<0 then(v+(n:Int)).toNat else min v.toNat n
def Cd(n d):fX n d none=d:=rfl
def HE(n d k:Nat):fX n d (some (k:Int))=min k n:=by
 change(if k<0 then((k:Int)+(n:Int)).toNat else min (k:Int).toNat n)=min k n
 rw[ξ (by lia),x!]
def Sd(n d)(J:d<=n)(o):fX n d o<=n:=by
 cases o with
 | none=>show J
 | some v =>
   change(if v<0 then(v+n).toNat else min v.toNat n)<=n
   by_cases a:v<0
   .rw[ο a];lia
   .rw[ξ a];show Nat.min_le_right _ _
def HF(v)(n d:Nat):(if v<0 then max (v+(n:Int)) 0 else min v (n:Int))=18#(fX n d (some v)):=by
 change(if v<0 then max (v+n) 0 else min v n)=18#(if v<0 then(v+n).toNat else min v.toNat n)
 by_cases a:v<0
 .simp only[ο a];lia
 .simp only[ξ a];lia
def E3(lo hi)(n:Nat):Builtin.Slice.sliceAdjust lo hi 1 (n:Int)=(18#(fX n 0 lo),18#(fX n n hi)):=by
 have Z : ¬(1<0):=by lia
 show Prod.ext ?_ ?_
 .cases lo with
  | none=>rfl
  | some v=>show HF v n 0
 .cases hi with
  | none=>rfl
  | some v=>show HF v n n
def E4(i j:Nat):Builtin.Slice.slicePlaces (i:Int) (j:Int) 1=j-i:=by
 unfold Builtin.Slice.slicePlaces;have Z:1 > 0:=by lia
 split<;>lia
def uL(p:IsPart v o)(h:Q o s):52#(Builtin.Slice.slicePartIndex v):=by
 cases p with
 | none=>show slicePart_none h
 | int i t=>show slicePart_int h
def j5{lo hi}{n:Nat}(W:s.heap.IsSliceOf i Y z .none)(k:IsPart Y lo)(y:IsPart z hi)
 (h:Q (18#(fX n 0 lo),1,fX n n hi-fX n 0 lo) s):52#(Builtin.Slice.sliceApplied (.ref i) (pure (n:Int))):=by
 show aA (λos a u b=>?_) (id W)
 show 157#(wpAny_bind (wpAny_field a b rl (wpAny_bind (wpAny_field a b rl (wpAny_bind (wpAny_field a b rl (Θ ?_)))))));show 157#(slicePart_none ?_);rw[ξ 7#0]
 show 157#(uL k (wpAny_bind (uL y (wpAny_bind (Θ ?_)))));show 172#(match Builtin.Slice.sliceAdjust lo hi 1 n with | (lo,hi)=>pure (lo,(1:Int),Builtin.Slice.slicePlaces lo hi 1))
 rw[E3 lo hi n];show 172#(pure (18#(fX n 0 lo),1,Builtin.Slice.slicePlaces ((fX n 0 lo:Nat)) ((fX n n hi:Nat)) 1));rw[E4];show Θ h
def LP(xs:Array Value)(i k:Nat):((19#k).filterMap λ(m:Nat)=>xs[((i:Int)+(m:Int)*1).toNat]?).toArray=((xs.toList.drop i).take k).toArray:=by
 have e:(λ(m:Nat)=>xs[(i+(m:Int)*1).toNat]?)=λm=>xs[i+m]?:=by
  funext m
  have:((i:Int)+(m:Int)*1).toNat=i+m:=by lia
  rw[this]
 rw[e];have:=pick_run xs i k;rw[List.filterMap_map]at this;have U:((λx=>xs[x]?)∘λx=>i+x)=λm=>xs[i+m]?:=rfl
 rw[U]at this;rw[this]
def jy{lo hi}(n:IsTup s.heap t p)(W:s.heap.IsSliceOf i Y z .none)(k:IsPart Y lo)(y:IsPart z hi)
 (o : ¬(fX p.size 0 lo=0/\fX p.size p.size hi=p.size))
 (h:Q (23#.ref) { s with heap:=110#{ cls:=.type "tuple",data:=.seq ((p.toList.drop (fX p.size 0 lo)).take (160#0)).toArray}})
 (x:36#p.size):52#(getItem (.ref t) (.ref i)):=by
 have c:sizeOk (.seq ((p.toList.drop (fX p.size 0 lo)).take (160#0)).toArray):=by
  change 36#((p.toList.drop (fX p.size 0 lo)).take (160#0)).toArray.size;rw[B!,I!,_R,f_]
  lia
 have D:fX p.size p.size hi<=p.size:=Sd _ _ (Ξ _) hi;show aA (λos a u b=>?_) (id W)
 have d:s.TypeIs (.ref i) "slice":=ae os a u;unfold getItem
 try with_reducible show F! ?_
 first | show 157#(Θ ?_) | skip
 show 157#(wpAny_sequenceKey n.typeIs 7#0 ?_)
 show wpAny_bind (wpAny_callSpecial?_slot n.typeIs q_
  (wpAny_call_entry q_ n.typeIs entry_tuple_getitem ?_ (args_tuple_getitem _ _)))
 show 172#(Builtin.Tuple.tupleItemsOf (.ref t) >>= _);show 157#(tupleItemsOf_ n ?_);show 157#(wpAny_typeOf d ?_);rw[ο 7#0]
 show 157#(j5 W k y ?_);have G : ¬((18#(fX p.size 0 lo)==0&&(1:Int)==1&&(160#0)==p.size)=true):=by
  intro q;rw[N!,N!]at q;have e:=eq_of_beq q.1.1;have R:=eq_of_beq q.2;show o ⟨by lia,by lia⟩
 show 172#(if(18#(fX p.size 0 lo)==0&&1==1&&(160#0)==p.size)=true then _ else _)
 rw[ξ G,LP]
 first
  | show 157#(wpAny_newObj_type (Θ (ae _ rfl (Θ h))) c)
  | show 157#(wpAny_newObj_type (wpAny_bind (Θ (Θ ⟨_,rfl,Θ h⟩))) c)
  | show 157#(wpAny_bind (wpAny_newObj_type (Θ (Θ ⟨_,rfl,Θ h⟩)) c))
  | show 157#(wpAny_bind (wpAny_newObj_type (Θ ⟨_,rfl,Θ h⟩) c))
end
end HT
namespace L2
open PySem PySem.Spec PyProof.Rows
abbrev TO:=St->Hp->(218#0->Hp->Prop)->Prop
def PO(X:Cx)(e:Option Expr)(t:TO):Prop :=
 ∀pq s (σ:St) H Q,5#s->t σ H Q->
   wpAny 8#0 X.A (evalPart e X.env) (λu Z=>∃o Y,θ X pq σ Y Z/\IsPart u o/\Q o Y) X.xe s
def O6:TO:=λ_ H Q=>Q none H
def Va(t:TE):TO:=λU H Q=>t U H λx N=>∃i,x = .int i/\Q (some i) N
def intsAre_of{ns:List Int}:∀{g},υ (201#0) g->IntsAre g ns:=by
 induction ns with
 | nil=>intro g r;rw[adQ]at r;cases r;show .nil
 | cons n ns G =>
   intro g r;rw[l!]at r;cases r with
   | cons J a =>
     obtain⟨t,e⟩:=J;subst e;show .cons n t (G a)
section
variable    {lo hi:Option Expr}
def gv:PO X none O6:=by
 show 47;rw[evalPart_none];show Θ (aq none H I .none h)
def gw(h:PE X e C):PO X (some e) (Va C):=by
 intro S s U H Q I o;rw[evalPart_some];show c6 (h S s U H _ I o) λu j=>aD λx N A J n=>?_
 revert n;show af λi a q=>?_;subst a
 obtain⟨t,rfl⟩:=J;show aq (some i) N A (.int i t) q
def Uw(X:Cx)(r:V->218#0->80#(218#0)):Prop :=
 ∀pq s (σ:St) H x v vl vu lo hi sl Q,5#s->Δ x v->s.heap.IsSliceOf sl vl vu .none->IsPart vl lo->IsPart vu hi->r x lo hi H Q->
   ∃T id,typeLookup (.type T) "__getitem__"=pure (some (.builtin id))/\s.TypeIs v T/\98#(getItem v (.ref sl))
def tSl(r:V->218#0->80#(218#0))(C:TE)(d p:TO):TE:=λU H Q=>C U H λx N=>d U N λl G=>p U G λu a=>r x l u a Q
def fC(C:Uw X r)(m:PE X e B)(P:PO X lo d)(c:PO X hi p):PE X (.Subscript e (.Slice lo hi none g) E) (tSl r B d p):=by
 show 47;show Subscript_ (c6 27#m λv j=>aD λx N A J o=>?_)
 show wpAny_Slice (c6 (P S j U N _ A o) λY w=>aD λl G L k R=>?_)
 show c6 (c S w U G _ L R) λz O=>aD λu a F y t=>?_
 rw[evalPart_none];show Θ ?_;have f:θ X S U a { O with heap:=O.heap.push { cls:=.type "slice",data:=.fields #[Y,z,.none]}}:=F.kept λb D q=>c! _ q
 show aD (λT id i n M=>?_) (C S { O with heap:=O.heap.push { cls:=.type "slice",data:=.fields #[Y,z,.none]}} U a x v Y z l u O.heap.objs.size Q f J (Heap.IsSliceOf.new ..) k y t)
 show tail_any n i M 100#0
def jt(xs:List V)(lo hi:218#0):List V:=(xs.drop (HT.fX xs.length 0 lo)).take (HT.fX xs.length xs.length hi-HT.fX xs.length 0 lo)
def mz(xs:List V)(lo hi:218#0):29#(jt xs lo hi)<=xs.length:=by
 unfold jt;rw[I!,_R]
 lia
def Vb(K:cu):V->218#0->80#(218#0):=λx lo hi H Q=>∃a f,x = .ref a/\aZ K H a f/\
 ¬(HT.fX f.length 0 lo=0/\HT.fX f.length f.length hi=f.length)/\∀p,H p=none->Q (.ref p) (η H p (.tup (jt f lo hi)))
def Se:Uw X (Vb X.K):=by
 intro S s U H x v Y z lo hi i Q I rx W k y h
 revert h;show aY λa f c B o q=>?_;subst c
 cases rx;show aA (λC r n m=>?_) (I.tuple B)
 have E:C.toArray.size=f.length:=by rw[B!];show r.length.symm
 show aq "tuple" _ q_.lookup n.typeIs ?_;show HT.jy n W k y (by rw[E];show o) ?_ (by rw[E];show m)
 rw[E];show aq (23#.ref) _ (I.laid (λb T q=>c! _ q) (Ξ _) ?_) rl (q _ (138#(Ξ _)))
 show bR (b! (mz f lo hi) m) _ ((r.drop (HT.fX f.length 0 lo)).take (HT.fX f.length f.length hi-HT.fX f.length 0 lo)) (IsTup.new _ _)
end
def Lp(n:Nat)(i:Int):Option Nat:=if 0<=i then(if i<n then some i.toNat else none) else if -(n:Int)<=i then some (i+n).toNat else none
def sC{m:Type}(xs:List m)(i:Int):Option m:=(Lp xs.length i).bind λj=>xs[j]?
def HG(h:Lp n i=some j):seqIndex? i n=some j/\j<n/\-(n:Int)<=i/\i<n:=by
 unfold Lp at h
 by_cases o:0<=i
 .rw[ο o]at h
  by_cases Z:i<n
  .rw[ο Z]at h;have e:=20#h;show e7 (by rw[seqIndex_of o Z,e]) (by lia) (by lia) Z
  .rw[ξ Z]at h;cases h
 .rw[ξ o]at h
  by_cases Z : -(n:Int)<=i
  .rw[ο Z]at h;have e:=20#h;show e7 (by rw[seqIndex_neg (by lia) Z,e]) (by lia) Z (by lia)
  .rw[ξ Z]at h;cases h
def An(h:sC xs i=some v):∃j,seqIndex? i xs.length=some j/\xs[j]?=some v/\j<xs.length/\-(xs.length:Int)<=i/\i<xs.length:=by
 unfold sC at h;cases e:Lp xs.length i with
 | none=>rw[e]at h;cases h
 | some j =>
   rw[e]at h;show jM (λZ R l A=>?_) (HG e)
   show⟨j,(dD Z h R l A)⟩
def aH{xs:List m}{j:Nat}{v}(h:xs[j]?=some v):sC xs (j:Int)=some v:=by
 have D:=(iJ.mp h).1;have e:Lp xs.length j=some j:=by
  unfold Lp;rw[ο (by lia),ο (by lia)];simp
 unfold sC;rw[e];show h
def LQ(xs:List m)(v):sC (xs++[v]) (-1)=some v:=by
 have P:29#(xs++[v])=xs.length+1:=by simp
 have e:Lp 29#(xs++[v]) (-1)=some xs.length:=by
  unfold Lp;rw[P,ξ 7#0,ο (by lia)]
  congr 1
  lia
 unfold sC;rw[e];simp
def HH(b:Expr):Prop:=∀o i,subscripted b false o i=operate [o,i] (getItem o i)
def HJ(X:Cx)(r:R2):Prop :=
 ∀value slice pq s (σ:St) H x y v u Q,5#s->Δ x v->Δ y u->r x y H Q->
   subscripted slice false v u=operate [v,u] (getItem v u)->98#(subscriptTail value slice v u)
def Vc(X:Cx)(id:String)(r:V->80#(List V)):Prop :=
 ∀pq s (σ:St) H x xs v us Q,5#s->Δ x v->υ xs us->r x xs H Q->
   98#(call (.builtin id) (v::us))
section
variable {X:Cx}{a b:Expr}
def HJ.or(h:HJ X r)(h' : HJ X G):HJ X (λx y H Q=>r x y H Q\/G x y H Q):=by
 intro d a S s U H x y v u Q I rx B q W;rcases q with q|q
 .show h d a S s U H x y v u Q I rx B q W
 .show h' d a S s U H x y v u Q I rx B q W
def Vd(C:HJ X r)(E:PE X a z)(O:PE X b tb)(W:HH b):PE X (.Subscript a b l) (R4 r z tb):=by
 show 47;show Subscript_ (R5 E O I h λv u w x y G L rx B q=>C a b S w U G x y v u Q L rx B q (W _ _))
def O7(K:cu):R2:=λx y H Q=>∃p f i v,x = .ref p/\y = .int i/\aI K H p f/\sC f i=some v/\Q v H
def O8(K:cu):R2:=λx y H Q=>∃p f i v,x = .ref p/\y = .int i/\aZ K H p f/\sC f i=some v/\Q v H
def Sf:R2:=λx y H Q=>∃z i c,x = .str z/\y = .int i/\36#z.length/\sC z.cps.toList i=some c/\Q (.str ⟨#[c]⟩) H
def HK:HJ X (O7 X.K):=by
 intro d a S s U H x y v u Q I rx B h W
 revert h;show eg λp=>bO λf i z c e D T q=>?_;subst c e
 cases rx;obtain⟨t,rfl⟩:=B;show 130#(λC r k m=>?_)
 show eg (λj=>iI λZ R l A M=>?_) (An T)
 show af (λw b E=>?_) (r.get R)
 have P:=r.length;have g:=my;have F:EP X S U Q w s:=aq z H I E q
 by_cases o:0<=i
 .have n:i.toNat=j:=by
   rw[seqIndex_of o M]at Z;show 20#Z
  show item_listR k.isList o (by lia) (by rw[n];simpa using b) F W
 .have n:(i+C.toArray.size).toNat=j:=by
   rw[seqIndex_neg (by lia) A]at Z
   rw[B!,<-P];show 20#Z
  show subscriptTail_builtinR k.isList.typeIs slot_list_getitem.lookup
   (wpAny_getItem_list_neg k.isList (by lia) (by rw[B!]<;>lia) (by lia) (by rw[n];simpa using b) ⟨rfl,F⟩) W
def LR:HJ X (O8 X.K):=by
 intro d a S s U H x y v u Q I rx B h W
 revert h;show eg λp=>bO λf i z e c D T q=>?_;subst e c
 cases rx;obtain⟨t,rfl⟩:=B;show aA (λC r k m=>?_) (I.tuple D)
 show eg (λj=>iI λZ R l A M=>?_) (An T)
 show af (λw b n=>?_) (r.get R)
 have P:=r.length;have g:=my;have F:EP X S U Q w s:=aq z H I n q;show subscriptTail_builtinR k.typeIs slot_tuple_getitem.lookup
  (getItem_tuple k (by lia) (by lia) (by rw[B!,<-P];show Z) (by simpa using b) ⟨rfl,F⟩) W
def LS:HJ X Sf:=by
 intro d a S s U H x y v u Q I rx B h W
 revert h;show bO λz i c e b m T q=>?_;subst e b
 show 59;obtain⟨n,rfl⟩:=B;show eg (λj=>iI λZ R l A M=>?_) (An T)
 have P:z.cps.toList.length=z.length:=200#0
 rw[P]at Z A M;have g:=my;show tail_any (typeIs_str s z t) slot_str_getitem.lookup (getItem_str (by
  have f:13#(i < -(2^63:Int))=false:=gm (by lia)
  have k:13#(i ≥ 2^63)=false:=gm (by lia)
  rw[f,k,Bool.or_false]) (by rw[Z];simpa using R) (92#(.str ⟨#[c]⟩))) W
def XC(K:cu):R2:=λx y H Q=>O7 K x y H Q\/O8 K x y H Q\/Sf x y H Q
def Sg:HJ X (XC X.K):=HK.or (LR.or LS)
def E5(C:70#0)(n j)(u):Obj.mapSeq (·.setIfInBounds j u) { cls:=.type "list",data:=.seq C.toArray n}={ cls:=.type "list",data:=.seq (C.set j u).toArray n}:=by
 simp[Obj.mapSeq]
def θ.lst{S:cF}{U:St}(I:θ X S U H s)(h:H p=4#xs):
 ∃C n,υ xs C/\s.heap.get? p=some { cls:=.type "list",data:=.seq C.toArray n}/\36#xs.length:=by
 show Ah (λz=>bh λC n r e=>?_) (I.hok p _ h)
 show aq C n r e z
def θ.Sh{S:cF}{U:St}{C g:70#0}(I:θ X S U H s)(h:H p=4#xs)
 (Y:s.heap.get? p=some { cls:=.type "list",data:=.seq C.toArray n}) (F:f { cls:=.type "list",data:=.seq C.toArray n}={ cls:=.type "list",data:=.seq g.toArray j}) (r:υ v g) (hz:36#v.length) (t) :
 θ X S U (η H p (.lst v)) { s with heap:=s.heap.update p f,toks:=t}:=by
 have e:(s.heap.update p f).get? p=some { cls:=.type "list",data:=.seq g.toArray j}:=by
  rw[Q? f Y (by rw[F]<;>rfl),F]
 show I.write (by rw[h];trivial) (.inl rl) (λb u O q=>(I? _ _ (e! O)).trans q) ⟨_,e⟩ ?_
 show aS hz g j r e
def Ve:V->V->V->Hp->(Hp->Prop)->Prop:=λo i v H Q=>∃p f k j,o = .ref p/\i = .int k/\H p=some (.lst f)/\Lp f.length k=some j/\Q (η H p 69#(f.set j v))
def set_list:R0 X Ve:=by
 intro S s U H o i v b z u Q I a w G h
 revert h;show eg λp=>bO λf k j e d M D q=>?_;subst e d
 cases a;obtain⟨t,rfl⟩:=w;show aD (λC n r x m=>?_) (I.lst M)
 show jM (λZ R l A=>?_) (HG D)
 have P:=r.length;have g:=my;have c:θ X S U (η H p 69#(f.set j v)) { s with heap:=s.heap.update p (Obj.mapSeq (·.setIfInBounds j u))} :=
  I.Sh M x (E5 C n j u) (r.set G j) (by rw[H_];show m) s.toks
 by_cases y:0<=k
 .have Y:k.toNat=j:=by
   rw[seqIndex_of y A]at Z;show 20#Z
  show PySem.W.ki_setAt x y (by lia) (by rw[B!,<-P];show A) (by rw[Y];show ae _ c q)
 .have Y:(k+C.toArray.size).toNat=j:=by
   rw[seqIndex_neg (by lia) l]at Z
   rw[B!,<-P];show 20#Z
  show PySem.W.ki_setBack x (by lia) (by rw[B!,<-P];show l) (by lia) (by rw[Y];show ae _ c q)
def Ao(lo hi)(n):(sliceBounds lo hi none n).1=18#(HT.fX n 0 lo)/\(sliceBounds lo hi none n).2.1=18#(HT.fX n n hi)/\(sliceBounds lo hi none n).2.2=1:=by
 show bF ?_ ?_ rfl
 .cases lo with
  | none=>simp[sliceBounds,HT.fX]
  | some i =>
    simp only[sliceBounds,HT.fX,Option.getD_none,show 1 > 0 by decide,if_true]
    by_cases h:i<0
    .simp only[h,if_true]<;>lia
    .simp only[h,if_false]<;>lia
 .cases hi with
  | none=>simp[sliceBounds,HT.fX]
  | some i =>
    simp only[sliceBounds,HT.fX,Option.getD_none,show 1 > 0 by decide,if_true]
    by_cases h:i<0
    .simp only[h,if_true]<;>lia
    .simp only[h,if_false]<;>lia
def xE(C:70#0)(lo hi):slicePick C.toArray lo hi none=((C.drop (HT.fX C.length 0 lo)).take (HT.fX C.length C.length hi-HT.fX C.length 0 lo)).toArray:=by
 show cW (λZ R l=>?_) (Ao lo hi C.toArray.size)
 unfold slicePick;rw[Z,R,l];simp only[sliceRange_one,pick_run,B!]<;>rfl
def Vf(K:cu):V->218#0->80#(218#0):=λx lo I H Q=>∃a f,x = .ref a/\aI K H a f/\∀p,H p=none->Q (.ref p) (η H p 69#(jt f lo I))
def O9:Uw X (Vf X.K):=by
 intro S s U H x v Y z lo d i Q I rx W k y h
 revert h;show aD λa f c B q=>?_;subst c
 cases rx;show aA (λC r n m=>?_) (I.list B)
 have E:=r.length;show aq "list" _ slot_list_getitem.lookup n.isList.typeIs ?_;show wpAny_getItem_list_slice n.isList W k y .none 22#0 ?_ (by rw[B!]<;>lia)
 rw[xE,<-E];show aq (23#.ref) _ (I.laid (λb T q=>c! _ q) (Ξ _) ?_) rl (q _ (138#(Ξ _)))
 show aS (b! (mz f lo d) m) _ 0 ((r.drop (HT.fX f.length 0 lo)).take (HT.fX f.length f.length d-HT.fX f.length 0 lo)) (v! _ rl)
def jz:V->Bool
 | .eM=>true
 | .bl _=>true
 | .int _=>true
 | .str _=>true
 | _=>false
def HM:V->V->Bool
 | .eM,.eM=>true
 | .bl a,.bl b=>a==b
 | .bl a,.int b=>(if a then 1 else 0)==b
 | .int a,.bl b=>a==(if b then 1 else 0)
 | .int a,.int b=>a==b
 | .str a,.str b=>a==b
 | _,_=>false
def Si(B:Δ y u)(rx:Δ x v)(k:jz y=true)(i:jz x=true):SeqAt.EqAt A s u v (HM y x):=by
 cases y with
 | eM =>
   cases B;cases x with
   | eM=>cases rx;show SeqAt.EqAt.same _
   | bl b=>cases rx;show SeqAt.EqAt.none_bool b
   | int b=>show 59;show SeqAt.EqAt.none_int b t
   | str b=>show 59;show SeqAt.EqAt.none_str b t
   | _=>show absurd (i) w!
 | bl a =>
   cases B;cases x with
   | eM=>cases rx;show SeqAt.EqAt.bool_none a
   | bl b=>cases rx;show SeqAt.EqAt.bool_bool a b
   | int b=>show 59;show SeqAt.EqAt.bool_int a b t
   | str b=>show 59;show SeqAt.EqAt.bool_str a b t
   | _=>show absurd (i) w!
 | int a =>
   show 76;cases x with
   | eM=>cases rx;show SeqAt.EqAt.int_none a T
   | bl b=>cases rx;show SeqAt.EqAt.int_bool a T b
   | int b=>show 59;show SeqAt.EqAt.int_int a T b t
   | str b=>show 59;show SeqAt.EqAt.int_str a T b t
   | _=>show absurd (i) w!
 | str a =>
   show 76;cases x with
   | eM=>cases rx;show SeqAt.EqAt.str_none a T
   | bl b=>cases rx;show SeqAt.EqAt.str_bool a T b
   | int b=>show 59;show SeqAt.EqAt.str_int a T b t
   | str b=>show 59;show SeqAt.EqAt.str_str a T b t
   | _=>show absurd (i) w!
 | _=>show absurd (k) w!
def Aq(x:V)(u:Value):Bool:=match u with
 | .none=>HM .eM x
 | .bool b=>HM (.bl b) x
 | .int i _=>HM (.int i) x
 | .str z _=>HM (.str z) x
 | _=>false
def Ar(r:Δ y u)(f:jz y=true):Aq x u=HM y x:=by
 cases y with
 | eM=>cases r;rfl
 | bl b=>cases r;rfl
 | int i=>show 223;rfl
 | str z=>show 223;rfl
 | _=>show absurd (f) w!
theorem qb:∀{xs} {us},υ xs us->xs.all jz=true->us.any (Aq x)=xs.any λy=>HM y x
 | _,_,.nil,_=>rfl
 | y::xs,u::us,.cons r t,f=>by
   rw[List.all_cons,N!]at f;rw[_d,_d,Ar r f.1,qb t f.2]
theorem jf(rx:Δ x v)(i:jz x=true):∀{xs} {us},υ xs us->xs.all jz=true->∀u∈us,SeqAt.EqAt A s u v (Aq x u)
 | _,_,.nil,_=>λu c=>by cases c
 | y::xs,u::us,.cons r t,f=>λw c=>by
   rw[List.all_cons,N!]at f;rcases Z'.mp c with rfl|c
   .rw[Ar r f.1];show Si r rx f.1 i
   .show jf rx i t f.2 w c
def Sj(x:V)(xs:List V):Bool:=xs.any λy=>HM y x
def WO(K:cu)(c:Bool):R2:=λx y H Q=>∃p f,y = .ref p/\(aI K H p f\/aZ K H p f)/\jz x=true/\f.all jz=true/\Q (.bl (if c then ! Sj x f else Sj x f)) H
def Jo:jQ X 137#.In (WO X.K false):=by
 show 58
 revert h;show gF λp f=>iI λa D i W q=>?_;subst a
 cases B;rcases D with D|D
 .show 130#(λC r k m=>?_)
  show SeqAt.in_listAt (Aq x) k.isList (λw o=>jf rx i r W w (by simpa using o)) (aq (.bl _) H I rl ?_)
  rwa [show C.toArray.any (Aq x)=C.any (Aq x) by simp,qb r W]
 .show aA (λC r k m=>?_) (I.tuple D)
  show SeqAt.in_tupleAt (Aq x) k (λw o=>jf rx i r W w (by simpa using o)) (aq (.bl _) H I rl ?_)
  rwa [show C.toArray.any (Aq x)=C.any (Aq x) by simp,qb r W]
def As:jQ X 137#.NotIn (WO X.K true):=by
 show 58
 revert h;show gF λp f=>iI λa D i W q=>?_;subst a
 cases B;rcases D with D|D
 .show 130#(λC r k m=>?_)
  show SeqAt.notIn_listAt (Aq x) k.isList (λw o=>jf rx i r W w (by simpa using o)) (aq (.bl _) H I rl ?_)
  rwa [show C.toArray.any (Aq x)=C.any (Aq x) by simp,qb r W]
 .show aA (λC r k m=>?_) (I.tuple D)
  show SeqAt.notIn_tupleAt (Aq x) k (λw o=>jf rx i r W w (by simpa using o)) (aq (.bl _) H I rl ?_)
  rwa [show C.toArray.any (Aq x)=C.any (Aq x) by simp,qb r W]
def Au:fB X (.builtin "len") (λxs H Q=>∃p v,xs=[.ref p]/\(aI X.K H p v\/aZ X.K H p v)/\Q (.int v.length) H):=by
 intro S s U H xs c Q I r h
 revert h;show aD λp v a D q=>?_;subst a
 show 164#(λu b rx=>?_);subst b
 cases rx;have g:=my;rcases D with D|D
 .show 130#(λC G k m=>?_)
  have E:=G.length;show Calls.call_len_list k.isList (by simp only[B!]<;>lia) (aq (.int v.length) H (I.tok _) ⟨s.toks+1,by rw[B!,E]⟩ q)
 .show aA (λC G k m=>?_) (I.tuple D)
  have E:=G.length;show len_tuple k (by simp only[B!]<;>lia) (aq (.int v.length) H (I.tok _) ⟨s.toks+1,by rw[B!,E]⟩ q)
def qc:fB X (.builtin "len") (λxs H Q=>∃z,xs=[.str z]/\36#z.length/\Q (.int z.length) H):=by
 intro S s U H xs d Q I r h
 revert h;show aA λz b m q=>?_;subst b
 show 164#(λu c=>eg λt a=>?_);subst c a
 have g:=my;show len_str (by lia) (92#(.int z.length))
def Av:fB X (.type "list") (λxs H Q=>∃p v,xs=[.ref p]/\(aI X.K H p v\/aZ X.K H p v)/\∀l,H l=none->Q (.ref l) (η H l (.lst v))):=by
 show 185
 revert h;show aD λp v c D q=>?_;subst c
 show 164#(λu a rx=>?_);subst a
 cases rx;have F:∀(C:70#0),υ v C->36#v.length->∀(N:Heap) (A:Nat),(∀b d,16#d->N.get? b=some d)->
  23#N.get?=some { cls:=.type "list",dict:=none,data:=.seq C.toArray A,slots:=#[]}->EP X S U Q (23#.ref) { s with heap:=N}:=λC G m N A B e =>
  (aq (23#.ref) _ (I.laid B (Ξ _) (show dm X.prog X.w _ N _ (.lst v) from(aS m C A G e))) rl (q _ (138#(Ξ _))))
 rcases D with D|D
 .show 130#(λC G k m=>?_)
  have E:=G.length;show cM (λo Y L n J=>?_) k.isList
  show call_list_seq p (.inl rl) Y L J (λN A B e=>F C G m N A B e) (by simp only[B!]<;>lia)
 .show aA (λC G k m=>?_) (I.tuple D)
  have E:=G.length
  revert k;show cM λo Y L n J=>?_
  show call_list_seq p (.inr rl) Y L J (λN A B e=>F C G m N A B e) (by simp only[B!]<;>lia)
def xF:fB X (.type "tuple") (λxs H Q=>∃p v,xs=[.ref p]/\((aI X.K H p v/\∀l,H l=none->Q (.ref l) (η H l (.tup v)))\/(aZ X.K H p v/\Q (.ref p) H))):=by
 show 185
 revert h;show bh λp v a h=>?_;subst a
 show 164#(λu c rx=>?_);subst c
 cases rx;rcases h with⟨D,q⟩|⟨D,q⟩
 .show 130#(λC G k m=>?_)
  have E:=G.length;show call_tuple_list k.isList (λN B=>?_) (by simp only[B!]<;>lia)
  have A:=I.kept (t':=s.toks) B;have L:θ X S U (η H N.objs.size (.tup v)) { s with heap:=N.push { cls:=.type "tuple",data:=.seq C.toArray}} :=
   A.laid (t':=s.toks) (λb o e=>c! _ e) (Ξ _) (show dm X.prog X.w _ _ _ (.tup v) from(bR m C G (IsTup.new _ _)))
  show aq (.ref N.objs.size) _ L rl (q _ (A.hok.fresh (Ξ _)))
 .show aA (λC G k m=>?_) (I.tuple D)
  show call_tuple_same k (aq (.ref p) H I rl q)
def XD(K:cu)(T:String)(x:V)(H:Hp):Prop:=match x with
 | .str _=>T="str"
 | .int _=>T="int"
 | .ref p=>(T="list"/\∃f,aI K H p f)\/(T="tuple"/\∃o,K.lookup p=some o/\o.cls = .type "tuple"/\o.dict=none)\/
  (T="dict"/\((∃L,H p=some (.dK L))\/∃L,H p=some (.dT L)))\/(T="set"/\∃S n,H p=some (.set S n))
 | _=>False
def LU{d:cF}{U:St}(I:θ X d U H s)(r:Δ x v)(l:XD X.K T x H):
 s.TypeIs v T/\∀a,v = .ref a->∃ob,s.heap.get? a=some ob/\ob.dict=none:=by
 cases x with
 | str z =>
   show 223;cases(l);show⟨typeIs_str s z t,λ_ e=>nomatch e⟩
 | int i =>
   show 223;cases(l);show⟨typeIs_int s i t,λ_ e=>nomatch e⟩
 | ref p =>
   cases r;rcases l with⟨rfl,f,D⟩|⟨rfl,o,Y,L,J⟩|⟨rfl,Y⟩|⟨rfl,S,n,Y⟩
   .show 130#(λC _ k _=>?_)
    show⟨k.isList.typeIs,λa e=>?_⟩
    cases e
    revert k;show aY λo n e c J _=>?_
    show ae o e J
   .show⟨ae o (I.pB p o Y) L,λa e=>?_⟩
    cases e;show ae o (I.pB _ o Y) J
   .have z:∃o,s.heap.get? p=some o/\o.ExactDict:=by
     rcases Y with⟨b,Y⟩|⟨b,Y⟩
     .show bG 6#(eu λo _ _ e P _=>?_) (I.hok p _ Y)
      show ae o e P
     .show bG 6#(eu λo _ _ e P _=>?_) (I.hok p _ Y)
      show ae o e P
    revert z;show af λo e P=>?_
    show⟨ae o e P.1,λa b=>?_⟩
    cases b;show ae o e P.2.1
   .show eY (λo _ _ _ e P _=>?_) (I.hok p _ Y)
    show⟨ae o e P.1,λa b=>?_⟩
    cases b;show ae o e P.2.1
 | _=>show 147#l
def Sk(K:cu)(T:String)(r:V->80#(List V))(g:TE):TE:=λU H Q=>g U H λx N=>XD K T x N/\r x [] N Q
def XE(K:cu)(T:String)(r:V->80#(List V))(g:TE)(t:TA):TE:=λU H Q=>g U H λx N=>XD K T x N/\t U N λf G=>r x f G Q
variable {o e:Expr}{es:List Expr}{to:TE}{t:TA}{name:Str}{apos cpos:Pos}{T id:String}{r:V->80#(List V)}
def E6(y:PlainAttrs T)(slot:Slot T name id)(i:typeOf (.builtin id)=pure (.type "method_descriptor"))(d:Vc X id r)(Y:PE X o to)
 (c:attributeBase o name X.env 123#o=eval o X.env:=by rfl) (f:(apos.endLine==cpos.line)=true:=by rfl):PE X (.Call (.Attribute o name apos) [] [] cpos) (Sk X.K T r to):=by
 show 47;show wpAny_Call_method0_late c f (c6 27#Y λv j=>aY λx N A J l n=>?_)
 obtain⟨Z,R⟩:=LU A J l;show bf T id y (dD slot i Z R (Calls.callWith_builtin rl (PySem.evalArgs_none (d S j U N x [] v [] Q A J .nil n))))
def eH(y:PlainAttrs T)(slot:Slot T name id)(i:typeOf (.builtin id)=pure (.type "method_descriptor"))(d:Vc X id r)(Y:PE X o to)(E:PA X (e::es) t)
 (c:attributeBase o name X.env 123#o=eval o X.env:=by rfl)
 (k:((backTo cpos (9#(e::es))).all (λx=>! x.1)&&(128#cpos).all (λx=>x.1.isSome)
  && 13#(29#(e::es)+([]:List Keyword).length+(if([]:List Keyword).isEmpty then 0 else 1)<30))=true:=by rfl)
 (f:(apos.endLine==cpos.line)=true:=by rfl) (W:9#(e::es)=25#e::9#es:=by rfl) (m:(backTo cpos (9#es)).any (·.1)=false:=by rfl) :
 PE X (.Call (.Attribute o name apos) (e::es) [] cpos) (XE X.K T r to t):=by
 show 47;show wpAny_Call_method_late c k f rl (c6 27#Y λv j=>aY λx N A J l n=>?_)
 obtain⟨Z,R⟩:=LU A J l;show bf T id y (dD slot i Z R ?_);have P:=E cpos S j U N _ A n;rw[W]at P ⊢;show Calls.callWith_builtin (by change(false || (backTo cpos (9#es)).any (·.1))=false;rw[m]<;>rfl) (Calls.evalArgs_plain ?_)
 show c6 P λg w=>aD λF G L a b=>?_
 show d S w U G x F v g Q L J a b
end
def WQ(X:Cx)(id:String)(r:V->80#(List V)):Prop :=
 ∀pq s (σ:St) H x xs v us Q,5#s->Δ x v->υ xs us->r x xs H Q->
   98#(call (.builtin id) (v::us))
def υ.one{x:V}{g:70#0}(h:υ [x] g):∃u,g=[u]/\Δ x u:=by
 obtain _|⟨r,_|_⟩:=h
 show ae _ rl r
def υ.zero:∀{us},υ [] us->us=[]
 | _,.nil=>rfl
def υ.dropLast(h:υ xs g):υ xs.dropLast g.dropLast:=by
 induction h with
 | nil=>show .nil
 | cons r t G =>
   cases t with
   | nil=>show .nil
   | cons q T=>show .cons r G
def υ.rep(h:υ xs g):∀k:Nat,υ (List.replicate k xs).flatten (List.replicate k g).flatten
 | 0=>.nil
 | k+1=>by
   rw[g_,g_,Z_,Z_];show υ.append h (υ.rep h k)
def E7{m:Type}(l:List m):l.eraseIdx (l.length-1)=l.dropLast:=by
 induction l with
 | nil=>rfl
 | cons a r G =>
   cases r with
   | nil=>rfl
   | cons b r =>
     have e:29#(a::b::r)-1=((b::r).length-1)+1:=by
      have Z:29#(a::b::r)=r.length+2:=rfl;have R:(b::r).length=r.length+1:=rfl
      lia
     rw[e,_n,G]
     all_goals rfl
theorem foldl_rep(C:70#0):∀k M,
 List.foldl (λN z=>N++z) M.toArray (List.replicate k C.toArray)=(M++(List.replicate k C).flatten).toArray
 | 0,M=>by simp
 | k+1,M=>by
   have e:M.toArray++C.toArray=(M++C).toArray:=by simp
   have U:(M++C)++(List.replicate k C).flatten=M++(List.replicate (k+1) C).flatten:=by
    rw[g_,Z_,adO]
   rw[<-U,<-foldl_rep C k (M++C),<-e,g_,k_]
section
variable  {pq:cF}{σ:St}
def θ.Vg{C g:70#0}(I:5#s)(A:H l=4#xs)
 (e:s.heap.get? l=some { cls:=.type "list",data:=.seq C.toArray n}) (F:f C.toArray=g.toArray) (a:υ v g) (hz:36#v.length) :
 θ X pq σ (η H l (.lst v)) { s with heap:=s.heap.update l (Obj.mapSeq f),toks:=t'}:=by
 have q:=PySem.IsL.update e f;rw[F]at q;show I.write (by rw[A];show trivial) (.inl rl) (λE u O c=>(I? s.heap (Obj.mapSeq f) (e! O)).trans c) ⟨_,q⟩ ?_
 show aS hz g _ a q
def θ.Vh(I:5#s)(a:υ v C)(hz:36#v.length):
 θ X pq σ (η H s.heap.objs.size (.lst v)) { s with heap:=110#{ cls:=.type "list",data:=.seq C.toArray},toks:=t'} :=
 I.laid (λ_ _ q=>c! _ q) (Ξ _) (aS hz C 0 a (v! _ rl))
def θ.fresh(I:5#s):23#H=none:=138#(Ξ _)
def θ.LV(I:5#s)(A:H l=4#xs):36#xs.length/\∃C n,υ xs C/\xs.length=C.length/\s.heap.get? l=some { cls:=.type "list",data:=.seq C.toArray n}:=by
 show Ah (λz=>bh λC n r e=>?_) (I.hok l _ A)
 show⟨z,(aq C n r r.length e)⟩
def LW(h:n<=sizeLine):Builtin.List.listTooLong n=false:=by
 show gm (by lia)
end
def Pa:V->80#(List V):=λx F H Q=>∃l f y,x = .ref l/\F=[y]/\H l=some (.lst f)/\f.length<sizeLine/\Q .eM (η H l 69#(f++[y]))
def cJ:WQ X "list.append" Pa:=by
 intro S s U H x d v g Q I rx G h
 revert h;show bO λl f y a c A m q=>?_;subst a c
 cases rx;show af (λu b Y=>?_) G.one;subst b
 show Ah (λz=>aD λC n r P e=>?_) (I.LV A)
 show call_meets F.slot_list_append (ae _ e rl) F.entry_list_append (F.args_list_append_2 _ _) (PySem.list_append l C.toArray n u (by rw[B!];lia)) ⟨e,?_⟩
 show aq .eM _ (I.Vg A e 22#0 (r.append 117#Y) ?_) rl q
 rw[i!,X!]
 lia
def XF:V->80#(List V):=λx F H Q=>∃l f y,x = .ref l/\F=[]/\H l=some (.lst f)/\f[f.length-1]?=some y/\Q y (η H l (.lst f.dropLast))
def Sl:WQ X "list.pop" XF:=by
 intro S s U H x j v g Q I rx G h
 revert h;show bO λl f y i a A W q=>?_;subst i a
 cases rx;have d:=G.zero;subst d;show Ah (λz=>aD λC n r P e=>?_) (I.LV A)
 show af (λu c Y=>?_) (r.get W)
 have b:C.toArray[C.toArray.size-1]?=some u:=by
  change C.toArray[C.length-1]?=some u
  rwa [<-_v,<-P]
 show call_meets F.slot_list_pop (ae _ e rl) F.entry_list_pop (F.args_list_pop_1 _) (MeetsSeq.list_pop_last l C.toArray n u b (by rw[B!];lia)) ⟨e,?_⟩
 show aq y _ (I.Vg A e ?_ r.dropLast ?_) Y q
 .rw[B!,List.eraseIdxIfInBounds_toArray,E7]
 .rw[List.length_dropLast]
  lia
def XG:R2:=λx y H Q=>∃l k f,x = .ref l/\y = .int k/\H l=some (.lst f)/\-(2^63)<=k/\k<2^63/\36#(f.length*k.toNat)/\
 ∀p,H p=none->Q (.ref p) (η H p (.lst (List.replicate k.toNat f).flatten))
def len_rep{m:Type}(xs:List m)(k):(List.replicate k xs).flatten.length=k*xs.length:=by
 induction k with
 | zero=>simp
 | succ k G=>rw[g_,Z_,i!,G,Nat.succ_mul,Nat.add_comm]
def LX:jQ X (binaryOp .Mult) XG:=by
 show 58
 revert h;show cQ λl k f g=>eV λd A Z R p q=>?_;subst g d
 cases rx;obtain⟨t,rfl⟩:=B;show Ah (λz=>aD λC n r P e=>?_) (I.LV A)
 have E:36#(C.toArray.size*k.toNat):=by rw[B!,<-P];show p
 have j : ¬ C.toArray.size*k.toNat > (2^63-1)/8:=by
  have:sizeLine<=(2^63-1)/8:=by decide
  lia
 have c : ¬(! Builtin.List.listFitsIndex k)=true:=by
  rw[fitsIndex_both Z R];show w!
 have i : ¬ Builtin.List.listTooLong (C.toArray.size*k.toNat)=true:=by
  rw[LW E];show w!
 have b:List.foldl (λN o=>N++o) #[] (List.replicate (if C.toArray.isEmpty=true then 0 else k.toNat) C.toArray)=(List.replicate k.toNat C).flatten.toArray:=by
  have w:∀m:Nat,List.foldl (λN o=>N++o) #[] (List.replicate m C.toArray)=(List.replicate m C).flatten.toArray:=λm=>by
   have:=foldl_rep C m [];rw[List.nil_append]at this;show this
  rw[w];cases C with
  | nil=>simp
  | cons a G=>rw[ξ 22#0]
 show wpAny_binaryOp_repeat_ref 7#0 (ae _ e rl) (λa=>typeIs_int a k t) noFill_list_mul F.fills_int_mul F.slot_int_rmul repeat_list F.slot_int_index.lookup
  (call_meets F.slot_int_rmul (typeIs_int s k t) F.entry_int_rmul (F.args_int_rmul_2 _ _) (int___rmul___int_list k t l C.toArray n)
   (e7 e rl (ae _ e rl) (call_meets F.slot_list_mul (ae _ e rl) F.entry_list_mul (F.args_list_mul_2 _ _) (AutoListH.list___mul___list_int_3 l C.toArray n k t c j i) ⟨e,?_⟩)))
 rw[b];show aq (.ref _) _ (I.Vh (r.rep k.toNat) (by rw[len_rep,Nat.mul_comm];show p)) rl (q _ I.fresh)
end L2
namespace Att
open PySem PySem.W PySem.Calls PyProof.Rows
def tF:∀ns vs,WellAll P h vs (ns.map WData.int)->IntsAre vs ns:=by
 intro ns
 induction ns with
 | nil =>
   intro vs w;rw[adQ]at w;cases w;show .nil
 | cons n ns G =>
   intro vs w;rw[l!]at w;cases w with
   | cons a b =>
     cases a;show .cons _ _ (G _ b)
def Jp{l:OpenLaw}(g:l.most=some n)
 (c:l.row.toRowW.claim.pre args=true) (e:WellAll P h v args) :
 ∃a vs ns,v=[Value.ref a]/\args=[WData.list (ns.map WData.int)]/\135#{ cls:=.type "list",data:=.seq vs.toArray}/\IntsAre vs ns/\ns.length<=n:=by
 have m:=(pre_splitW c).1;have L:=(pre_splitW c).2;show aD (λd r j Z R=>?_) (hasAllW_cons m);subst j
 obtain rfl:=hasAllW_nil R;show af (λf i o=>?_) (hasW_list Z);subst i
 obtain⟨ns,rfl⟩:=items_int o;have E:ns.length<=n:=by
  have A:(WTm.not (.lt (.lit (.int n)) (.len (.arg 0)))).holds [] { args:=[.list (ns.map .int)]}=true:=by
   have A:=(holds_andW L).1;rw[g]at A;show A
  have M:=condW_of A (w_not (w_lt w_lit (w_len_list (w_arg rl))));rw[χ]at M;show Nat.le_of_not_lt λq=>?_
  have C:n<((ns.length:Nat)):=by lia
  first
   | (rw[e8 C]at M;show absurd M 7#0)
   | (simp at M;lia)
 cases e with
 | cons u k =>
   cases k;cases u with
   | list Y b=>show cg _ _ ns rfl rfl Y (tF ns _ b) E
def Jq(l:OpenLaw)(args):l.row.toRowW.claim.post args (.bool true) args=true :=
 postW_of
  (show WShape.has [] (.bool true) .bool=true by first | rfl | decide | simp[WShape.has,WShape.arms,WShape.armsAll])
  (w_eq_bool (w_res rl) w_lit) rfl
def Ce{l:OpenLaw}{d:DefRec}
 (g:l.most=some n) (m:d.params.defaults=[])
 (call:∀w s₀ B mg b N o z cd X a vs ns,
  Ground q W [] t w s₀ mg b B.heap->I w B.heap->
  B.heap.get? N=some o->o.data = .func (docDef d.name d.params d.body d.scope z cd X)->B.heap.CodeRec cd d.name->mg d.name=some (.ref N)->
  B.heap.get? a=some { cls:=.type "list",data:=.seq vs.toArray}->IntsAre vs ns->ns.length<=n->B.gens = #[]->
  codeAny (model l.prog w) callerA (.call (.ref N) ⟨[.ref a],[]⟩) (λr Z=>r = 161#(.bool true)/\OldK B.heap Z.heap/\Z.os=B.os/\AllBare Z.gens) B) :
 WalkO q W t I l.row.toRowW d [] (λf vs=>PySem.call f vs):=by
 intro w s₀ B mg b G Y N o z cd X h kV Q J p S u M L v i c F H e j;obtain rfl:h = .none:=Dflts.none S m;obtain rfl:kV = .none:=Dflts.noKw S;show bO (λa vs ns x y s k E=>?_) (Jp g c e);subst x y
 show enter_call (codeAny_mono (call w s₀ B mg b N o z cd X a vs ns G Y Q (fd_plain J) p u s k E M) λr Z D=>?_)
 revert D;show jM λC R O A=>?_;subst C
 show e7 (.inl (cg (.bool true) (.bool true) [] rl (λ_=>rfl) (.bool true) (Jq l _) (λ_=>⟨List.Pairwise.nil,λ_ P=>(nomatch P)⟩))) R O A
end Att
namespace L2
open PySem PySem.Spec PyProof.Rows
theorem yG:∀{vs} {ns},IntsAre vs ns->υ (201#0) vs
 | _,_,.nil=>.nil
 | _,_,.cons n t h=>.cons ⟨t,rfl⟩ (yG h)
def inClass(s:Stmt)(j:Nat):Stmt:=match s with
 | .ClassDef _ _ _ a _ _ _ _ _ _ _=>a.getD j (.Pass ⟨0,0,0,0⟩)
 | _=>.Pass ⟨0,0,0,0⟩
def eW(s:Stmt):Arguments:=match s with
 | .FunctionDef _ a _ _ _ _ _ _ _ _=>a
 | _=>{ posonlyargs:=[],args:=[],vararg:=none,kwonlyargs:=[],kw_defaults:=[],kwarg:=none,defaults:=[]}
def cO(s:Stmt):List Stmt:=match s with
 | .FunctionDef _ _ b _ _ _ _ _ _ _=>b
 | _=>[]
def aQ(s:Stmt):Scope:=match s with
 | .FunctionDef _ _ _ _ _ _ f _ _ _=>f
 | _=>{ kind:=.function,names:=[],isGenerator:=false,isCoroutine:=false}
abbrev rA:Lo:=λ_ _ _ _ _ _=>False
abbrev E0:XK:=λ_ _ _=>False
def Cf:Passes rA X E0:=λ_ _ _ _ _ _ _ h=>h.elim
structure Cg(K:cu)(x qual:Str)(st:Stmt)(f:Addr)(fd:FuncData):Prop where
 ex:∃(oc:Value) (od:184#0) (kV doc pm:Value) (an:184#0) (cdv ct:Value) (osl:Array (Option Value)),
  fd=PySem.W.fnOf x qual (eW st) (cO st) (aQ st) .none kV doc pm an cdv ct/\K.lookup f=some ⟨oc,od,.func fd,osl⟩/\PySem.W.codeIn K cdv qual=true
 kp:68#K
section
variable   {K:cu}
def Cg.ok{st}(F:Cg K x B st f fd)(S:dH N i (aQ st))(len:61#i.length)
 (M:∀d A outer s H vs Q E,dF k (107#B)->sp vs H Q E->
  67#(pY (nZ rA P w K mg base N B (aQ st) f d A outer s H E).OL (cO st) t)):iM P w K mg base rA (k+1) f fd i sp:=by
 show gb (λl m kV X=>dO λz R d j n a c p=>?_) F.ex;subst a
 show LN c p S len λA outer s H vs Q E C y=>?_
 show af (λt h q=>?_) (M d A outer s H vs Q E C y)
 show ae t h.OL q
def Cg.binds{st:Stmt}{i:List Str}(F:Cg K x B st f fd)
 (h:∀kV X z R d ct g,g.length=i.length->bindArgs (PySem.W.fnOf x B (eW st) (cO st) (aQ st) .none kV X z R d ct) ⟨g,[]⟩=pure (i.zip g)):Binds K fd i []:=by
 show gb (λl m kV X=>dO λz R d ct n a c p=>?_) F.ex;subst a
 show .all (h kV X z R d ct)
def E8{st}{kV doc pm cdv ct}(l:K.lookup f=some ⟨oc,m,.func (PySem.W.fnOf x B (eW st) (cO st) (aQ st) .none kV doc pm R cdv ct),n⟩)
 (c:PySem.W.codeIn K cdv B=true) (k:68#K):Cg K x B st f (PySem.W.fnOf x B (eW st) (cO st) (aQ st) .none kV doc pm R cdv ct):=⟨pA oc m kV doc pm R cdv (aq ct n rl l c),k⟩
end
def qe(C:dF k A):A.units+1<cLine:=Y! (Nat.add_le_add_left (by decide:1<=64) _) C.units
def eA(h:n<=1000):n<sizeLine:=Y! h 7#0
section
variable {X:Cx}
def pv(i:Nat){x:Str}{l:Pos}(o:X.N[i]?=some x:=by rfl)(a:WM X.env.scope x:=by first | show Or.inl rfl | show Or.inr (Or.inl rfl) | show Or.inr (Or.inr rfl))(J:193#("__debug__":Str):=by decide)
 (p:193#("__classdict__":Str):=by decide):72#(j0 i):=RY o a J p
end
def cy{A B:Prop}(h:B):if false=true then A else B:=by
 rwa [ξ w!]
def eI{A B:Prop}(h:A):if true=true then A else B:=by
 rwa [ο rfl]
def pD{c A B:Prop}[Decidable c](Z:c->A)(R : ¬ c->B):if c then A else B:=by
 by_cases h:c
 .rw[ο h];show Z h
 .rw[ξ h];show R h
def om{c A B:Prop}[Decidable c](L:c)(h:B):if(! decide c)=true then A else B:=by
 rw[e8 L];show cy h
def ak(H Y:Hp):Prop:=∀b o,H b=some o->Y b=some o
def ak.refl(H):ak H H:=λ_ _ h=>h
def ak.trans(a:ak H N)(b:ak N G):ak H G:=λc o h=>b c o (a c o h)
def ak.free(e:ak H Y)(h:Y l=Option.none):H l=Option.none:=by
 cases q:H l with
 | none=>rfl
 | some o =>
   rw[e l o q]at h;cases h
def ak.seq{K}(e:ak H Y)(h:aI K H a xs):aI K Y a xs:=by
 rcases h with(h|⟨o,h⟩) | h
 .show .inl (.inl (e _ _ h))
 .show .inl (.inr ⟨o,e _ _ h⟩)
 .show .inr h
def ez(E:194#Addr):194#NameKind->194#Addr->194#Addr
 | [],g=>g
 | (n,k)::r,g=>ez E r (if(k==NameKind.free)=true then(n,(E.lookup n).getD 0)::g else g)
theorem uM{env:Env}
 (b:∀n k g c,(k==NameKind.free)=true->env.cells.lookup n=some c->f (n,k) g=pure (.yield ((n,c)::g)))
 (a:∀n k g,(k==NameKind.free)=false->f (n,k) g=pure (.yield g)) :
 ∀names g,(∀n k,(n,k)∈names->(k==NameKind.free)=true->∃c,env.cells.lookup n=some c)->
   forIn names g f=(pure (ez env.cells names g):Sem (194#Addr))
 | [],g,_=>by rw[List.forIn_nil];rfl
 | (n,k)::r,g,h=>by
   have G:=λg=>uM b a r g λm j d=>h m j (jx _ d)
   rw[List.forIn_cons];cases e:(k==NameKind.free) with
   | true =>
     obtain⟨c,L⟩:=h n k g! e;rw[b n k g c e L,pure_bind];change forIn r ((n,c)::g) f=_;rw[G]
     conv=>rhs;unfold ez
     rw[ο e,L];rfl
   | false =>
     rw[a n k g e,pure_bind];change forIn r g f=_;rw[G]
     conv=>rhs;unfold ez
     rw[ξ (by rw[e];show w!)]
def kW{scope:Scope}{env:Env}(h:∀n k,(n,k)∈scope.names->(k==NameKind.free)=true->∃c,env.cells.lookup n=some c):closureFor scope env=pure (ez env.cells scope.names []):=by
 simp only[closureFor];rw[uM ?_ ?_ scope.names [] h]
 .rfl
 .intro n k g c e L;rw[ο e];unfold cellOf;rw[L];rfl
 .intro n k g e;rw[ξ (by rw[e];show w!)]
theorem jA:∀{names} {g},(ez E names g).lookup x=some c->g.lookup x=some c\/((x,NameKind.free)∈names/\(E.lookup x).getD 0=c)
 | [],g,h=>.inl h
 | (n,k)::r,g,h=>by
   unfold ez at h;rcases jA h with q|⟨a,R⟩
   .by_cases e:(k==NameKind.free)=true
    .rw[ο e]at q
     by_cases B:x=n
     .subst B;rw[_y]at q;have Y:=eq_of_beq e;show .inr ⟨by rw[Y];show g!,20#q⟩
     .have O:=99#B;simp only[z?,O]at q;show .inl q
    .rw[ξ e]at q;show .inl q
   .show .inr ⟨jx _ a,R⟩
theorem jg:∀{names} {g},((x,NameKind.free)∈names\/∃c,g.lookup x=some c)->∃c,(ez E names g).lookup x=some c
 | [],g,h=>by
   rcases h with h|h
   .cases h
   .show h
 | (n,k)::r,g,h=>by
   unfold ez;apply jg;rcases h with h|⟨c,h⟩
   .rcases Z'.mp h with h|h
    .cases h
     right
     rw[ο (by rfl)]
     show⟨_,_y⟩
    .show .inl h
   .right
    by_cases e:(k==NameKind.free)=true
    .rw[ο e]
     by_cases B:x=n
     .subst B;show⟨_,_y⟩
     .have O:=99#B;show⟨c,by simp only[z?,O];show h⟩
    .rw[ξ e];show⟨c,h⟩
theorem kX{env:Env}{x:Str}{k:NameKind}:∀{names:194#NameKind},
 (names.map λ(n,k)=>if(26#k) then(n,NameKind.cell) else(n,k)).lookup x=some k->
  ∃v,names.lookup x=some v/\(k=v\/(v = .free/\k = .cell))
 | [],h=>by cases h
 | (n,j)::r,h=>by
   have G:=@kX env x k r
   replace h:List.lookup x ((if(26#j)=true then(n,NameKind.cell) else(n,j))::_)=some k:=h
   cases B:x==n with
   | true =>
     by_cases L:(26#j)=true
     .rw[ο L]at h;simp only[z?,B]at h ⊢;have D:j=NameKind.free:=by
       rw[N!,N!]at L;show eq_of_beq L.1.1
      show ae j rl (.inr ⟨D,(20#h).symm⟩)
     .rw[ξ L]at h;simp only[z?,B]at h ⊢;show ae j rl (.inl (20#h).symm)
   | false =>
     by_cases L:(26#j)=true
     .rw[ο L]at h;simp only[z?,B]at h ⊢;show G h
     .rw[ξ L]at h;simp only[z?,B]at h ⊢;show G h
theorem qf{env:Env}{x:Str}:∀{names:194#NameKind},names.lookup x=some .free->
 (names.map λ(n,k)=>if(26#k) then(n,NameKind.cell) else(n,k)).lookup x=some .cell\/
 (names.map λ(n,k)=>if(26#k) then(n,NameKind.cell) else(n,k)).lookup x=some .free
 | [],h=>by cases h
 | (n,j)::r,h=>by
   have G:=@qf env x r;change List.lookup x ((if(26#j)=true then(n,NameKind.cell) else(n,j))::_)=_\/
    List.lookup x ((if(26#j)=true then(n,NameKind.cell) else(n,j))::_)=_
   cases B:x==n with
   | true =>
     simp only[z?,B]at h;cases h
     by_cases L:(26#NameKind.free)=true
     .rw[ο L];simp only[z?,B];show .inl trivial
     .rw[ξ L];simp only[z?,B];show .inr trivial
   | false =>
     simp only[z?,B]at h
     by_cases L:(26#j)=true
     .rw[ο L];simp only[z?,B];show G h
     .rw[ξ L];simp only[z?,B];show G h
def dN(X:Cx)(N:List Str)(scope:Scope)(xe:xw)(C:Addr)(s:Shared)(H:Hp)(t:214#0):Cx where
 prog:=X.prog
 w:=X.w
 K:=X.K
 mg:=X.mg
 base:=X.base
 A:=X.A
 N:=N
 s₀:=s
 H₀:=H
 env:=compEnvC scope 64#0 C X.env
 outer:=X.stack
 stack:=X.stack
 ex:=t
 fn:=λ_=>false
 calm:=X.calm
 pn:=[]
 xe:=xe
def gi(U:St)(js:List Nat):St:=js.map λj=>(U[j]?).getD none
structure eJ(X:Cx)(scope:Scope)(own fq:List Str)(js:List Nat):Prop where
 kind:scope.kind = .function
 Aw:∀y∈scope.names,y.2≠.cell
 names:∀y∈scope.names,y.2 = .local->101#y.1
 free:∀y∈scope.names,y.2 = .free->X.env.scope.names.lookup y.1=some .cell\/X.env.scope.names.lookup y.1=some .free
 at_:js.map (λj=>X.N[j]?)=fq.map some
 fr:∀x∈fq,scope.names.lookup x=some .free
def uN{i:Nat}(h:(gi U js)[i]?=some (some v)):∃j,js[i]?=some j/\U[j]?=some (some v):=by
 unfold gi at h;rw[d!]at h;cases e:js[i]? with
 | none=>rw[e]at h;cases h
 | some j =>
   rw[e]at h;have N:(U[j]?).getD none=some v:=20#h;show ae j rl ?_;cases q:U[j]? with
   | none=>rw[q]at N;cases N
   | some o=>rw[q]at N;rw[show o=some v from N]
def gA{S:cF}{U:St}{own fq:List Str}(I:θ X S U H s)(T:154#own):
 ∀n k,(n,k)∈scope.names->(k==NameKind.free)=true->∃c,33#n:=λn k d e=>by
 have Y:=eq_of_beq e;show I.ok.has n (T.free (n,k) d Y)
def LY{S:cF}{U:St}{own fq:List Str}{D C:Addr}{Z:Heap}
 (I:θ X S U H s) (T:154#own) (F:∀b∈a,pC X S H b) (k:∀b∈a,∃o,16#o) (hD:180#D) (j:180#C) (W:D≠C)
 (N:∀b o,16#o->48#Z.get?) (P:Z.get? D=some { cls:=.type "list",data:=.seq ([]:70#0).toArray 0}) (g:Z.Ns C m) :
 θ (dN X (own++fq) scope xe C s H a) [] (73#own.length++gi U js) 97#H { s with heap:=Z,toks:=t1}:=by
 have E:∀x c,(64#0).lookup x=some c->33#x:=λx c h=>by
  rcases jA h with q|⟨n,R⟩
  .cases q
  .obtain⟨A,Q⟩:=gA I T x .free n rfl;rw[Q]at R;rw[Q];show k! some R
 have n:∀b o,16#o->b<s.heap.objs.size:=λb o e=>a! e
 have G:∀x c,33#x->c<s.heap.objs.size:=λx c e=>by
  obtain⟨v,q⟩:=I.cell x c e;show q.lt
 have a:∀b∈frs X.stack,b<s.heap.objs.size:=λb O=>by
  show bE (λ_ o Y _=>?_) (I.stack.mem O)
  show a! Y
 have d:=138#hD;have f:=I.hok.fresh j;show⟨⟨I.ok.mod,T.kind,I.ok.glob,I.ok.blt,j,λx y c a b=>I.ok.inj x y c (E x c a) (E y c b),λx B=>?_,λx c z _=>(nomatch z),I.ok.hd,I.ok.frames,.inl rfl,λb O=>⟨?_,λx c e z=>?_⟩,
  λb o e=>I.bs b o e,b! I.ok.Ll I.sz,λb o e O=>?_,λb O z=>?_,I.stack,I.tZ⟩,
  rfl,I.bare,Un.laid N hD d,ae m g λi x v t a R=>?_,λx c e=>?_,?_,λx c e=>?_,λp M=>absurd (show p∈([]) from M) 22#0,?_,?_⟩
 .
  have B:=B;have i:(x,NameKind.free)∈scope.names:=by
   rcases B with B|B
   .show af (λv q r=>?_) (kX B)
    have d:=L? q;rcases r with r|⟨r,_⟩
    .show absurd r.symm (T.Aw _ d)
    .rw[r]at d;show d
   .show af (λv q r=>?_) (kX B)
    have d:=L? q;rcases r with r|⟨_,r⟩
    .rw[<-r]at d;show d
    .cases r
  show jg (.inl i)
 .
  obtain⟨o,Y⟩:=k b O;show n! (t! (n b o Y) j)
 .show(F b O).2.2.2.2.1 x c (E x c e) z
 .
  show eV (λ_ _ _ l _ _=>?_) (F b O)
  rcases l with z|z
  .show I.ok.EO b o e z
  .show 204#(t! (a! (I.ok.bs b o e).1) z)
 .
  show jM (λ_ d Q _=>?_) (F b O)
  rcases Z'.mp (I.uD b z) with q|q
  .show d q
  .show Q q
 .
  by_cases M:i<own.length
  .rw[d? (by simpa using M),O_,ο M]at a
   cases a
  .rw[u? (by simpa using M),K?]at a
   replace t:(own++fq)[i]?=some x:=t
   rw[u? (by lia)]at t
   show af (λj b f=>?_) (uN a)
   have a:X.N[j]?=some x:=by
    have q:=k! (λl=>l[i-own.length]?) T.at_
    simp only[d!,b,t,l_]at q;show 20#q
   have J:=T.fr x (fP t);have d:=L? J;have Y:=T.free (x,.free) d rfl;show af (λg b p=>?_) I.loc
   show af (λu r l=>?_) (p j x v a f (by rcases Y with k | k;show .inr (.inl k);show .inr (.inr k)))
   show ae u r (.inr ⟨qf J,?_⟩);rcases l with⟨w,_⟩|⟨_,c,L,R⟩
   .have w:32#x:=w;rcases Y with k|k<;>(rw[w]at k;cases k)
   .obtain⟨A,Q⟩:=jg (.inl d);have q:=E x A Q;rw[L]at q;cases q;show ae c Q (R.keeps N)
 .
  obtain⟨v,q⟩:=I.cell x c (E x c e);show⟨v,q.keeps N⟩
 .
  change η H D (.lst []) C=none
  rwa [ao (e! W)]
 .have e:=E x c e;rw[ao (n! (t! (G x c e) hD))];show I.gG x c e
 .show I.hok.laid N hD (aS (r! _) [] 0 .nil P)
 .change _=29#(own++fq);have q:=k! List.length T.at_;rw[χ,χ]at q;rw[i!,i!,K?];unfold gi;rw[χ,q]
def jS{S:cF}{U k:St}{C:Addr}
 (I:θ X S U H s) (F:∀b∈t,pC X S H b) (a:180#C) (J:θ (dN X N scope xe C s H t) [] k Y Z) (r:Heap.SameBut C Z.heap h'):θ X S U Y { Z with heap:=h'}:=by
 have f:Y C=none:=J.free;show I.Lw (ch:=t) J.os ?_ ?_ J.bare (λb O=>?_)
 .have u:=J.base;have G:∀b o,16#o->b≠C:=λb o e=>n! (t! (a! e) a)
  show⟨λb o e n O B=>(r.2 b (G b o e)).trans (u.keep b o e n O B),λb o e n O B=>?_,u.free,λb o e B=>?_,u.tups,u.jN,u.l8⟩
  .obtain⟨i,q⟩:=u.slot b o e n O B;show⟨i,(r.2 b (G b o e)).trans q⟩
  .obtain⟨c,q⟩:=u.there b o e B;show⟨c,(r.2 b (G b o e)).trans q⟩
 .intro b T e;show(J.hok b T e).stay (λc n L q=>(r.2 c ?_).trans q) (λ_ q=>q) λ_ _ q=>q
  rintro rfl;rcases L with rfl|L
  .rw[f]at e;cases e
  .rw[f]at L;cases L
 .show eV (λ_ y _ l R c=>?_) (F b O)
  show e7 l y R c
section
variable {prog:Program}{w:World}{A:Around}{R:Result->Shared->Prop}{s:Shared}
abbrev HN(a:List Expr)(env:Env):Sem Bool:=forIn a true λc r=>if r=true then do let ok←isTrue c env (eval c env);pure (ForInStep.yield ok) else pure (ForInStep.yield r)
def Ax{o c iter:Expr}{a:List Expr}{scope:Scope}{l:Pos}{y M:Value}{env:Env}(I:Nat->Shared->Prop)
 (u:∀n s,I n s->wpAny 21#w A (pyNext y) (λr B=>match r with
  | none=>R (.ok .next) B
  | some v=>wpAny 21#w A (letOwnedTupleGo c y v) (λ_ s₀=>wpAny 21#w A (assign c env v) (λ_ q =>
   wpAny 21#w A (HN a env) (λj b =>
    if j=true then wpAny 21#w A (eval o env) (λx d =>
     wpAny 21#w A (call (.builtin "list.append") [M,x]) (λ_ i=>∃m,m<n/\I m i) (notedBy 21#w A env λe Z=>R (.error e) Z) d) (notedBy 21#w A env λe Z=>R (.error e) Z) b
    else ∃m,m<n/\I m b) (notedBy 21#w A env λe Z=>R (.error e) Z) q) (notedBy 21#w A env λe Z=>R (.error e) Z) s₀) (notedBy 21#w A env λe Z=>R (.error e) Z) B) (notedBy 21#w A env λe Z=>R (.error e) Z) s)
 (n:Nat) (h:I n s) :
 codeAny 21#w A (.compLoop (.ListComp o [⟨c,iter,a,0⟩] scope l) 0 y M env) R s:=by
 show codeAny_loop rl I (λn s T=>?_) n h
 show wpAny_noted ?_;rw[compTurn_list];show aU (wpAny_standAt (aU (p! (u n s T) (λr B g=>?_) λ_ _ N=>N)))
 cases r with
 | none=>show Θ g
 | some v =>
   show aU (p! g (λ_ s₀ t=>?_) λ_ _ N=>N)
   show aU (p! t (λ_ q f=>aU (p! f (λj b k=>?_) λ_ _ N=>N)) λ_ _ N=>N)
   cases j with
   | false=>show Θ ⟨rfl,k⟩
   | true =>
     show aU (aU (p! k (λx d z=>aU (p! z (λ_ i p=>Θ (Θ ⟨rfl,p⟩)) λ_ _ N=>N)) λ_ _ N=>N))
end
def Ux(X:Cx)(a:List Expr)(t:TT):Prop :=
 ∀pq s (σ:St) H Q,5#s->t σ H Q->wpAny 8#0 X.A (HN a X.env) (TP X pq σ Q) X.xe s
def Vi:TT:=λ_ H Q=>Q true H
def bz:Ux X [] Vi:=λ_ _ _ H _ I h=>wpAny_tests_nil (ae H I h)
def gx(h:PT X c t):Ux X [c] t:=λS s U H Q I q=>wpAny_tests_one (h S s U H Q I q)
def gn(J:It)(g:TG)(h:TT)(C:TE)(n:Nat)(k:St)(D:Addr)(Q:Hp->Prop)(a:Hp):Prop :=
 ∃W:Nat->81#(List V),(∃m,W 0 m [] a)/\∀i m M H,W i m M H->11#H/\
   ((J.stop i H/\Q H)\/(J.go i H/\M.length<sizeLine/\∃N:List V->Hp->Prop,(∀l Y,N l Y->∃B,B<m/\W (i+1) B l Y)/\
     ∀x Y,J.Ji i H x Y->g x (73#n++k) Y λt G=>t.drop n=k/\h t G λb u =>
     if b=true then C t u λv c=>11#c/\N (M++[v]) (η c D 69#(M++[v]))
     else N M u))
def LZ(d:TI)(g:TG)(h:TT)(C:TE)(n:Nat)(js:List Nat):TE:=λU H Q=>d U H λJ N=>∀D,N D=none->gn J g h C n (gi U js) D (λG=>Q (.ref D) G) 97#N
structure HP(A:Around)(cm:Bool)(P:Program)(w:World)(K:cu)(tg:Expr)(J:It)(fp:214#0)(it:Addr)(tn:Nat->Heap->Prop):Prop where
 mem:it∈fp
 obj:∀i h,tn i h->∀b∈fp,∃o,48#h.get?/\∀v,o.data≠.cell v
 keep:∀i h h',tn i h->(∀b∈fp,∀o,48#h.get?->48#h'.get?)->tn i h'
 item:∀(X:Cx),X.prog=P->X.w=w->X.K=K->X.A=A->X.calm=cm->∀(i:Nat) (pq:cF) (s:Shared) (σ:St) (H:Hp) (E:xw),5#s->(∀b∈fp,pC X pq H b)->tn i s.heap->J.go i H->
  wpAny (model P w) X.A (pyNext (.ref it)) (λr s1=>∃u,r=some u/\
   wpAny (model P w) X.A (letOwnedTupleGo tg (.ref it) u) (λ_ s2=>∃x H',θ X pq σ H' s2/\Δ x u/\J.Ji i H x H'/\tn (i+1) s2.heap/\∀b∈fp,H' b=none) E s1) E s
 done:∀(X:Cx),X.prog=P->X.w=w->X.K=K->X.A=A->X.calm=cm->∀(i:Nat) (pq:cF) (s:Shared) (σ:St) (H:Hp) (E:xw),5#s->(∀b∈fp,pC X pq H b)->tn i s.heap->J.stop i H->
  wpAny (model P w) X.A (pyNext (.ref it)) (λr s1=>r=none/\5#s1) E s
 self:∀(A:Around) (i:Nat) (s:Shared) (Q:xw) (E:xw),tn i s.heap->Q (.ref it) s->74#(pyIter (.ref it))
def Turn.x{K}(T:Turn P w K tg J t y E)(L:cm=true):HP A cm P w K tg J t y E :=
 ⟨T.mem,T.obj,T.keep,λX a b c _ d=>T.item X a b c (d.trans L),λX a b c _ d=>T.done X a b c (d.trans L),T.self⟩
section
variable {X:Cx}{elt iter tg:Expr}{ifs:List Expr}{scope:Scope}{pos:Pos}{own fq:List Str}{js:List Nat}{wi:TI}{g:TG}{tt:TT}{te:TE}
def L0{S:cF}{U:St}(I:θ (dN X N scope xe C s H t) S U a f):θ (dN X N scope Pb C s H t) S U a f :=
 ⟨⟨I.ok.mod,I.ok.kind,I.ok.glob,I.ok.blt,I.ok.above,I.ok.inj,I.ok.has,I.ok.RX,I.ok.hd,I.ok.frames,I.ok.Lu,I.ok.WN,I.ok.bs,I.ok.Ll,I.ok.EO,I.ok.Jg,I.ok.funs,I.ok.Lv⟩,I.os,I.bare,I.base,I.loc,I.cell,I.free,I.gG,I.pin,I.hok,I.len⟩
def mC{S:cF}{U:St}{u:Value->Env->Result->Shared->Prop}{a:Addr->Hp->Prop}
 {f:Addr->Shared->Hp->214#0->Value->Shared->Prop} (T:154#own)
 (hg:∀C s H t,PG 94#51#0 tg g)
 (ht:∀C s H t,Ux 94#51#0 ifs tt)
 (he:∀C s H t,PE 94#(f C s H t) elt te)
 (L:θ X S U G w) (Rb:HP X.A X.calm X.prog X.w X.K tg J t it tn) (d:tn 0 w.heap) (Q:∀b∈t,pC X S G b)
 (P:∀D,G D=none->gn J g tt te own.length (gi U js) D (a D) 97#G)
 (hRR:∀D C k Y Z,w.heap.objs.size<=C->θ (dN X (own++fq) scope (51#0) C w G t) [] k Y Z->a D Y->u (.ref D) (newEnv scope C X.env.globals 64#0 X.env.qual none .none (some X.env) builtinsNs) (.ok .next) Z)
 (hER:∀D C e s8,w.heap.objs.size<=C->f C w G t e s8->notedBy 8#0 X.A (compEnvC scope 64#0 C X.env) (λe Z=>u D (newEnv scope C X.env.globals 64#0 X.env.qual none .none (some X.env) builtinsNs) (.error e) Z) e s8) :
 wpAny 8#0 X.A (newList []) (λM r=>wpAny 8#0 X.A (newFunctionEnv scope X.env.globals 64#0 [] X.env.qual none .none (some X.env)) (λc h =>
  codeAny 8#0 X.A (.compStart (163#0) 0 (.ref it) M { c with scope:=relabel scope X.env}) (u M c) h) E r) E w:=by
 show wpAny_newObj_type (wpAny_newFunctionEnv T.Aw (by intro y a;simp at a) (λS H c=>?_) T.kind)
 generalize h:w.heap.push { cls:=.type "list",dict:=none,data:=.seq ([]).toArray}=k at H c ⊢;have a:k.objs.size=w.heap.objs.size+1:=by rw[<-h,Z?]
 have F:w.heap.objs.size≠k.objs.size:=by rw[a];show n! (X? _)
 have C:w.heap.objs.size<=k.objs.size:=by rw[a];show Q! _
 have i:∀b,b<w.heap.objs.size->b≠k.objs.size:=λb O=>by rw[a];show n! (T? O)
 have N:∀b o,48#w.heap.get?->48#S.get?:=λb o e=>c.extBut b o (i b (a! e)) (c! _ (h▸c! _ e))
 have hacc:=c.extBut _ _ F (c! _ (h▸v! _ rl));have s:∀b∈t,∃o,48#w.heap.get?:=λb O=>let⟨o,e,_⟩:=Rb.obj _ _ d b O;⟨o,e⟩
 have st1:=Rb.keep _ _ _ d λb _ o e=>N b o e
 show af (λW a turn=>?_) (P w.heap.objs.size (L.hok.fresh (Ξ _)));obtain⟨m0,w0⟩:=a
 have B:∀{Y:Hp},(∀b∈t,Y b=none)->∀b∈t,pC (115#t) [] Y b:=λ{Y} a b O=>by
  show eV (λ_ l d _ m _=>?_) (Q b O)
  obtain⟨o,f⟩:=s b O;show⟨a b O,(dD (i b (a! f)) (λz=>?_) (.inl O) (λx c e=>?_) λp j=>absurd (show p∈([]) from j) 22#0)⟩
  .rcases Z'.mp (L.uD b z) with q|q
   .show l q
   .show d q
  .rcases jA (e) with q|⟨n,R⟩
   .cases q
   .obtain⟨A,i⟩:=gA L T x .free n rfl;rw[i]at R;have R:=R;rw[<-R];show m x A i
 have m:∀b∈t,η G w.heap.objs.size (.lst []) b=none:=λb O=>by
  obtain⟨o,f⟩:=s b O;rw[ao (n! (a! f))];show(Q b O).1
 have D:∀{a:St} {c:cF} {R:Hp} {l:Shared},θ (115#t) c a R l->a.drop own.length=gi U js->
  θ (115#t) [] (73#own.length++gi U js) R l:=λ{a c R l} h f=>by
  have c:a.length=29#(own++fq):=h.len;have d:=h.gT (Ut:=[]) λp j=>absurd j 22#0
  show d.weak ?_ λi v e=>?_
  .have q:=k! List.length f;rw[_R]at q;rw[i!]at c;rw[i!,K?]
   lia
  .by_cases I:i<own.length
   .rw[d? (by simpa using I),O_,ο I]at e
    cases e
   .rw[u? (by simpa using I),K?,<-f,List.getElem?_drop]at e
    rw[95#(own.length+(i-own.length)=i)]at e
    show e
 have P:∀r:Shared,r={ w with heap:=S,toks:=w.toks+([]:194#Value).length}->
  codeAny 8#0 X.A (.compLoop (163#0) 0 (.ref it) (.ref w.heap.objs.size) (compEnvC scope 64#0 k.objs.size X.env))
   (u (.ref w.heap.objs.size) (newEnv scope k.objs.size X.env.globals 64#0 X.env.qual none .none (some X.env) builtinsNs)) r:=by
  rintro r rfl;show Ax (λn Z=>∃i M Y,θ (115#t) [] (73#own.length++gi U js) Y Z/\tn i Z.heap/\(∀b∈t,Y b=none)/\W i n M Y) ?_ m0
   (aV 0 [] (η G w.heap.objs.size (.lst [])) (LY L T Q s (Ξ _) C F N hacc H) st1 m w0)
  intro n p;show eg λi=>aY λM c F H j q=>?_
  obtain⟨f,d⟩:=turn i n M c q;rcases d with⟨A,u⟩|⟨q,m,f,s,step⟩
  .show p! (Rb.done (115#t) rl rl rl rl rl i [] p _ c (51#0) F (B j) H A) (λr n ⟨d,f⟩=>?_) λ_ _ z=>z.elim
   subst d;show hRR _ _ _ c n C f u
  .show p! (Rb.item (115#t) rl rl rl rl rl i [] p _ c (51#0) F (B j) H q) (λr n=>af λu d A=>?_) λ_ _ z=>z.elim
   subst d;show p! A (λ_ d=>gF λx I=>iI λc p q n j=>?_) λ_ _ z=>z.elim
   have f:=c.pinned (B j) (Rb.obj _ _ n);show p! (hg _ _ _ _ _ d _ I x u _ f p (step x I q)) (λ_ l=>aD λa R h r A=>?_) λ_ _ z=>z.elim
   show p! (ht _ _ _ _ _ l a R _ h A) (λj c=>af λq p u=>?_) λ_ _ z=>z.elim
   have again:∀{f:Hp} {s8:Shared},θ (115#t) ([]++uH t d.heap) a f s8->tn (i+1) s8.heap/\∀b∈t,f b=none:=λ{f s8} h=>by
    show⟨Rb.keep _ _ _ n λb O o e=>(h.pin (b,o) (jd _ (jd _ (kT O e)))).1,λb O=>?_⟩
    show af (λo e d=>?_) (Rb.obj _ _ n b O)
    show(h.pin (b,o) (jd _ (jd _ (kT O e)))).2.1
   cases j with
   | false =>
     rw[ξ w!];show af (λB d j=>?_) (s _ _ u)
     obtain⟨b,v⟩:=again p;show ae B d (aV (i+1) M q (D p r) b v j)
   | true =>
     rw[ο rfl];show p! (he _ _ _ _ _ c a q _ (L0 p) u) (λn s8=>aY λv f h l j b=>?_) λe s8 z=>hER _ _ e s8 C z
     replace h:=L0 (Pb:=51#0) h
     show af (λB d e=>?_) (s _ _ b)
     show p! (cJ (X:=115#t) _ s8 a f (.ref w.heap.objs.size) [v] (.ref w.heap.objs.size) [n] (λy b=>y = .eM/\b=η f w.heap.objs.size 69#(M++[v])) h rl 117#l (bZ _ M v rl (dD rl j m rl rl)))
      (λ_ f=>aY λy b a _ _ c=>?_) λ_ _ z=>z.elim
     subst c;obtain⟨c,b⟩:=again a;show ae B d (aV (i+1) (M++[v]) _ (D a r) c b e)
 show codeAny_compStart_list (P _ rl) (Rb.self _ 0 _ _ _ st1 (P _ rl))
def bI(T:154#own)(L:X.calm=true)(o:PI X tg iter wi)
 (M:∀C s H t,PG 94#51#0 tg g)
 (n:∀C s H t,Ux 94#51#0 ifs tt)
 (l:∀C s H t,PE 94#51#0 elt te)
 (W:∀x,foldedSetIterable iter X.env x=pure x:=by intro _;rfl) :
 PE X (163#0) (LZ wi g tt te own.length js):=by
 show 47;rw[eval_ListComp];show wpAny_comprehension_free rl W (kW (gA I T)) T.kind T.names ?_;show p! 27#o (λv j Z=>p! Z (λf w R=>?_) λ_ _ z=>z) λ_ _ z=>z
 revert R;show dO λy t E J G e b=>jM λA c i P=>?_
 subst e;show mC T M n l b (A.x L) c i P (λD C k Y u a d q=>?_) λ_ _ _ _ _ z=>z.elim
 show af (λm p _=>?_) d.loc
 show ae m p λN r=>aq (.ref D) Y (jS b i a d r) rl q
def Zt(X:Cx)(tg iter:Expr)(wi:TI):Prop:=∀pq s (σ:St) H R,5#s->wi σ H R->
 wpAny 8#0 X.A 123#iter (λv j=>wpAny 8#0 X.A (pyIter v) (λf w=>∃y t E J Y,f = .ref y/\θ X pq σ Y w/\HP X.A X.calm X.prog X.w X.K tg J t y E/\E 0 w.heap/\(∀b∈t,pC X pq Y b)/\R J Y) X.xe j) X.xe s
def L1(T:154#own)(l:Zt X tg iter wi)
 (M:∀C s H t,PG 94#51#0 tg g)
 (n:∀C s H t,Ux 94#51#0 ifs tt)
 (i:∀C s H t,PE 94#51#0 elt te)
 (W:∀x,foldedSetIterable iter X.env x=pure x:=by intro _;rfl) :
 PE X (163#0) (LZ wi g tt te own.length js):=by
 show 47;rw[eval_ListComp];show wpAny_comprehension_free rl W (kW (gA I T)) T.kind T.names ?_;show p! 27#l (λv j Z=>p! Z (λf w R=>?_) λ_ _ z=>z) λ_ _ z=>z
 revert R;show dO λy t E J G e L=>jM λA c b P=>?_
 subst e;show mC T M n i L A c b P (λD C k Y p a d q=>?_) λ_ _ _ _ _ z=>z.elim
 show af (λm o _=>?_) d.loc
 show ae m o λN r=>aq (.ref D) Y (jS L b a d r) rl q
def L3(i:Nat)(wi:TI)(g:TG)(tt:TT)(te:TE)(n:Nat)(js:List Nat):TS:=λD U H=>LZ wi g tt te n js U H λv N=>D.nx (U.set i (some v)) N
def fL{i:Nat}{x:Str}{a b:Pos}(u:X.N.Nodup)(N:X.N[i]?=some x)(B:32#x)(T:154#own)(L:X.calm=true)(f:PI X tg iter wi)
 (d:∀C s H t,PG 94#51#0 tg g)
 (n:∀C s H t,Ux 94#51#0 ifs tt)
 (c:∀C s H t,PE 94#51#0 elt te)
 (e:swapsWith (163#0) (some (.Name x a)) b.line X.env=pure true:=by rfl)
 (W:∀x,foldedSetIterable iter X.env x=pure x:=by intro _;rfl) :
 PS X (.Assign [.Name x a] (163#0) b) (L3 i wi g tt te own.length js):=by
 show 140;rw[exec_Assign_Name_used _ _ _ _ e];show aU (wpAny_standAt (aU ?_));show aU (p! (wpAny_comprehension_free rl W (kW (gA I T)) T.kind T.names ?_) (λ_ i a=>Θ (Θ a)) λ_ _ e=>e)
 show p! 27#f (λv j Z=>p! Z (λa w R=>?_) λ_ _ z=>z) λ_ _ z=>z
 revert R;show dO λa t f J G e h=>jM λA b Q P=>?_
 subst e;show mC T d n c h (A.x L) b Q P (λr C k Y i a j q=>?_) λ_ _ _ _ _ z=>z.elim
 have F:θ X S U Y i:=by
  obtain⟨l,c,f,d,b⟩:=i;show jS h Q a j (Heap.SameBut.refl ..)
 show af (λm b _=>?_) j.loc
 show eu (λc s E l n t=>?_) (id b)
 have k:=j.free;have j:=j? (t! h.lt a);have d:C∉X.fs:=λz=>by
  show bE (λ_ o b _=>?_) (h.funs.mem z)
  show 204#(t! (a! b) a)
 have f:θ X (S++[(C,c)]) U Y i:=F.gT λp M=>(D!.mp M).elim (λz=>F.pin p (jd _ z)) λz=>by
  have e:p=(C,c):=by simpa using z
  subst e;show dD l k j d λv z=>by have y:=z;rw[n]at y;cases y
 show wpAny_assign_Name (l9 (v:=.ref r) f u N (.inl B) rl (λd l=>?_) (.inr B))
 have b:=(l.pin (C,c) (jd _ (jd _ 22#0))).1
 show ae m ⟨c,(aq s E b n t)⟩ λN r=>bf _ Y ?_ q
 have d:=l.qa;show d.turned (λb o O e=>(r.2 b O).trans e) k j (.inr (b! h.sz a)) (λy c e=>?_) (λp M z=>?_)
 .obtain⟨v,u⟩:=h.cell y c e;show n! (t! u.lt a)
 .have u:=(h.pin p M).1;show 204#(t! (a! u) (by rw[z];show a))
end
section
variable {K:cu}  {xs:List V}     {fr:St}
def bA(d:81#(List V))(o:d 0 [] N)(P:∀i M H,i<=xs.length->d i M H->aI K H a xs/\118#H)(hz:36#xs.length)
 (W:∀i x M H,xs[i]?=some x->d i M H->g x (73#n++fr) H λt G=>t.drop n=fr/\h t G λb u =>
  152#t)
 (J:∀M H,d xs.length M H->Q H):gn (Lm K a) g h C n fr D Q N:=by
 show 106#(λi m M H=>112#M)
 intro i m M H;show cW λR I p=>?_;subst R
 show cW (λq S E=>?_) (P i M H I p)
 show⟨S,?_⟩
 by_cases w:i<xs.length
 .show .inr (aX (bf xs (xs[i]) q (by simp[w])) (by lia) (d (i+1)) (λl Y F=>113#F) (λx Y y=>?_))
  obtain⟨e,y⟩:=y;subst e;show W i x M _ (y xs q) p
 .show 206
  subst e;show .inl ⟨ae xs q (Ξ _),J M H p⟩
def iC(d:81#(List V))(o:d 0 [] N)(P:∀i M H,i<=xs.length->d i M H->aZ K H a xs/\118#H)(hz:36#xs.length)
 (W:∀i x M H,xs[i]?=some x->d i M H->g x (73#n++fr) H λt G=>t.drop n=fr/\h t G λb u =>
  152#t)
 (J:∀M H,d xs.length M H->Q H):gn (Uv K a) g h C n fr D Q N:=by
 show 106#(λi m M H=>112#M)
 intro i m M H;show cW λO I p=>?_;subst O
 show cW (λq S E=>?_) (P i M H I p)
 show⟨S,?_⟩
 by_cases w:i<xs.length
 .show .inr (aX (bf xs (xs[i]) q (by simp[w])) (by lia) (d (i+1)) (λl Y F=>113#F) (λx Y y=>?_))
  obtain⟨e,y⟩:=y;subst e;show W i x M _ (y xs q) p
 .show 206
  subst e;show .inl ⟨ae xs q (Ξ _),J M H p⟩
def eN{lo}(d:81#(List V))(o:d 0 [] N)(P:∀i M H,i<=m->d i M H->118#H)(hz:m<=sizeLine)
 (W:∀i M H,i<m->d i M H->g (.int (lo+i)) (73#n++fr) H λt G=>t.drop n=fr/\h t G λb u =>
  152#t)
 (J:∀M H,d m M H->Q H):gn (Lz lo m) g h C n fr D Q N:=by
 show ae (λi k M H=>k=m-i/\i<=m/\d i M H) (au m 22#0 (r! _) o) ?_
 intro i k M H;show cW λa I p=>?_;subst a
 obtain⟨S,E⟩:=P i M H I p;show⟨S,?_⟩
 by_cases w:i<m
 .show .inr (aX w (by lia) (d (i+1)) (λl Y F=>cP (m-(i+1)) (by lia) rl w F) (λx Y y=>?_))
  obtain⟨e,y⟩:=y;subst e y;show W i M _ w p
 .have e:i=m:=by lia
  subst e;show .inl ⟨Ξ _,J M H p⟩
end
def uO(scope g:Scope)(N fq:List Str)(js:List Nat):Bool :=
 13#(scope.kind = .function)&&scope.names.all (λy=>13#(y.2≠.cell))&&scope.names.all (λy=>13#(y.2 = .local->101#y.1)) &&
 scope.names.all (λy=>13#(y.2 = .free->g.names.lookup y.1=some .cell\/g.names.lookup y.1=some .free))&&13#(js.map (λj=>N[j]?)=fq.map some)&&fq.all (λx=>13#(scope.names.lookup x=some .free))
def Ci{X:Cx}{scope:Scope}{own fq:List Str}{js:List Nat}(g:Scope)(N:List Str)(Z:X.env.scope=g:=by rfl)(R:X.N=N:=by rfl)(h:uO scope g N fq js=true:=by decide +kernel):154#own:=by
 unfold uO at h;simp only[N!,decide_eq_true_eq,h_]at h;obtain⟨⟨⟨⟨⟨a,b⟩,c⟩,d⟩,e⟩,f⟩:=h;show⟨a,b,c,by rw[Z];show d,by rw[R];show e,f⟩
mutual
inductive j6(K:cu)(H:Hp):V->PyData->Prop
 | eM:j6 K H .eM .none
 | bl (b:Bool):j6 K H (.bl b) (.bool b)
 | int (i:Int):j6 K H (.int i) (.int i)
 | str (x:Str):j6 K H (.str x) (.str x)
 | lst {a:Addr} {xs:List V} {ds:List PyData} (h:aI K H a xs) (r:DatVs K H xs ds):j6 K H (.ref a) (.list ds)
 | tup {a:Addr} {xs:List V} {ds:List PyData} (h:aZ K H a xs) (r:DatVs K H xs ds):j6 K H (.ref a) (.tuple ds)
inductive DatVs(K:cu)(H:Hp):List V->List PyData->Prop
 | nil:DatVs K H [] []
 | cons {x:V} {d:PyData} {xs:List V} {ds:List PyData} (h:j6 K H x d) (r:DatVs K H xs ds):DatVs K H (x::xs) (d::ds)
end
section
variable {X:Cx}{pq:cF}{σ:St}{H:Hp}{s:Shared}
mutual
def j6.reads(I:5#s):∀{v} {d} {u},j6 X.K H v d->Δ v u->∃as,Reads s.heap u d as
 | _,_,u,.eM,r=>by cases(r);show⟨_,.none⟩
 | _,_,u,.bl b,r=>by cases(r);show⟨_,.bool b⟩
 | _,_,u,.int i,r=>by obtain⟨t,rfl⟩:=(r);show⟨_,.int i t⟩
 | _,_,u,.str x,r=>by obtain⟨t,rfl⟩:=(r);show⟨_,.str x t⟩
 | _,_,u,.lst h y,r=>by
   cases(r);show aA (λC G P _=>?_) (I.list h);obtain⟨o,n,e,c,_,d⟩:=P
   obtain⟨as,q⟩:=DatVs.reads I y G;show⟨_,.list e c d (by simpa using q)⟩
 | _,_,u,.tup h y,r=>by
   cases(r);show aA (λC G t _=>?_) (I.tuple h);obtain⟨o,e,c,n,d⟩:=t
   obtain⟨as,q⟩:=DatVs.reads I y G;show⟨_,.tuple e c d (by simpa using q)⟩
def DatVs.reads(I:5#s):∀{vs} {ds} {us},DatVs X.K H vs ds->υ vs us->∃as,ReadsAll s.heap us ds as
 | _,_,_,.nil,.nil=>⟨_,.nil⟩
 | _,_,_,.cons h r,.cons G y=>by
   obtain⟨as,q⟩:=j6.reads I h G;obtain⟨W,R⟩:=DatVs.reads I r y;show⟨_,.cons q R⟩
end
end
section
variable {X:Cx}
def Vj(K:cu):R2:=λx y H Q=>∃d e,j6 K H x d/\j6 K H y e/\141#d/\141#e/\Q (.bl (PyData.eqv d e)) H
def Vk(K:cu):R2:=λx y H Q=>∃d e,j6 K H x d/\j6 K H y e/\141#d/\141#e/\Q (.bl (! PyData.eqv d e)) H
def Sm(c:X.A.units+64<cLine):jQ X 137#.Eq (Vj X.K):=by
 show 58
 revert h;show gF λd e=>iI λZ R j w q=>?_
 obtain⟨i,b⟩:=Z.reads I rx;obtain⟨W,a⟩:=R.reads I B;show eq_dataH b a j w c (aq (.bl _) H I rl q)
def Sn(c:X.A.units+64<cLine):jQ X 137#.NotEq (Vk X.K):=by
 show 58
 revert h;show gF λd e=>iI λZ R j w q=>?_
 obtain⟨i,b⟩:=Z.reads I rx;obtain⟨W,a⟩:=R.reads I B;show ne_dataH b a j w c (aq (.bl _) H I rl q)
def HQ:Vc X "int.bit_length" (λx xs H Q=>∃i,x = .int i/\xs=[]/\Q (.int (63#i)) H):=by
 intro S s U H x xs v g Q I rx y h
 revert h;show aA λi c e q=>?_;subst c e
 show 59;cases y;show call_int_bit_length (92#(.int _))
def t9{x:Str}{v:Int}{l:Pos}(M:Gl X x)(h:∃t,X.mg x=some (.int v t))(J:193#("__debug__":Str):=by decide):72#(tC (.int v)):=by
 obtain⟨t,e⟩:=h;show Ai M e ⟨t,rfl⟩ J
def PI.or(h:PI X tg l d)(h' : PI X tg l a):PI X tg l (λU H R=>d U H R\/a U H R):=by
 intro S s U H R I q;rcases q with q|q
 .show h S s U H R I q
 .show h' S s U H R I q
def So(P:PE X l d):PI X tg l (λU H R=>Ht X.K d U H R\/OZ X.K d U H R):=(Hu P).or (LA P)
def rB{K}(h:aI K H p xs\/aZ K H p xs)(e:sC xs i=some v)(q:Q v H):XC K (.ref p) (.int i) H Q:=by
 rcases h with h|h
 .show .inl (bu p xs i v rl rl h e q)
 .show .inr (.inl (bu p xs i v rl rl h e q))
end
def dl{n:Nat}(h:Nat.ble n 1000=true):n<=sizeLine:=U! (eA (Nat.le_of_ble_eq_true h))
def rC{j:Int}(h:decide (0<j)=true):0<j:=nB h
def gO{c A B:Prop}[Decidable c](h : ¬ c)(O:B):if decide c=true then A else B:=by
 rw[gm h];show cy O
def uP{c A B:Prop}[Decidable c](h:c)(E:A):if decide c=true then A else B:=by
 rw[e8 h];show eI E
def ak.new(h:H p=none):ak H (η H p o):=λb u e=>by
 rwa [ao (bj e h)]
def ak.put(s:ak H G)(h:H D=none):ak H (η G D o):=λb u e=>by
 rw[ao (bj e h)];show s b u e
def ak.Zu{K}(e:ak H Y)(h:aZ K H a xs):aZ K Y a xs:=by
 rcases h with(h|⟨o,h⟩) | h
 .show .inl (.inl (e _ _ h))
 .show .inl (.inr ⟨o,e _ _ h⟩)
 .show .inr h
def cK(H Y:Hp):Prop:=∀b f,H b=some (.tup f)->Y b=some (.tup f)
def ak.tups(s:ak H Y):cK H Y:=λb f e=>s b _ e
def cK.trans(a:cK H N)(b:cK N G):cK H G:=λc f e=>b c f (a c f e)
def cK.put(h:H D=some (.lst v)):cK H (η H D o):=λb f e=>by
 rwa [ao (bL e h 12#0)]
def Paired.ia:∀{l} {r:List c} {i:Nat} {x},Paired F l r->l[i]?=some x->∃y,r[i]?=some y/\F x y
 | _,_,_,_,.nil,e=>by simp at e
 | _,_,0,_,.cons h _,e=>by
   simp at e;subst e;show ae _ rl h
 | _,_,i+1,x,.cons _ t,e=>by
   show af (λy Z R=>?_) (Paired.ia t (by simpa using e))
   show ae y (by simpa using Z) R
section
variable  {pq:cF}{σ:St}
def θ.swap(I:5#s)(e:H a=some r)(nt:∀xs,HO.tup xs≠r)(Z:∀i,HO.gQ i≠r)(j:∀y,HO.own y≠r)(f:∀b o u,X.H₀ b=some (.p7 o u)->b≠a)
 (J:∀{H'},(∀b,H b=some (.own a)->H' b=some (.own a))->(∀b xs,H b=15#xs->H' b=15#xs)->dm X.prog X.w H' s.heap a F):θ X pq σ (η H a F) s:=by
 have G:∀b,H b=none->b≠a:=λb h z=>by rw[z,e]at h;cases h
 have Y:∀y b,H b=some (.own y)->η H a F b=some (.own y):=λy b q=>150#(bL q e (j y))
 have g:∀b xs,H b=15#xs->η H a F b=15#xs:=λb xs q=>150#(bL q e (nt xs))
 show⟨I.ok,I.os,I.bare,⟨I.base.keep,I.base.slot,λb o q n B=>?_,I.base.there,λb xs q=>g b xs (I.base.tups b xs q),λb o u q=>?_,λb i q=>?_⟩,I.loc,I.cell,?_,λx c q=>?_,λp M=>?_,λb u q=>?_,I.len⟩
 .have z:=I.base.free b o q n B
  rwa [ao (G b z)]
 .rw[ao (f b o u q)];show I.base.jN b o u q
 .obtain⟨w,z⟩:=I.base.l8 b i q;show⟨w,by rw[ao (bL z e (Z _))];show z⟩
 .rw[ao (G _ I.free)];show I.free
 .rw[ao (G _ (I.gG x c q))];show I.gG x c q
 .show cW (λS d D=>?_) (I.pin p M)
  show bF S (by rw[ao (G _ d)];show d) D
 .by_cases O:b=a
  .subst O;rw[aa]at q;cases q;show J (Y _) g
  .rw[ao O]at q;show(I.hok b u q).stay (λ_ _ _ q=>q) (Y b) g
end
section
variable {X:Cx}{l:Expr}{tl:TE}{tg a b o e:Expr}  {es:List Expr}
def rD(K:cu)(c:X.A.units+64<cLine)(h:X.K=K:=by rfl):jQ X 137#.Eq (Vj K):=by subst h;show Sm c
def pF(K:cu)(c:X.A.units+64<cLine)(h:X.K=K:=by rfl):jQ X 137#.NotEq (Vk K):=by subst h;show Sn c
def Vl(K:cu):80#(List V):=λf H Q=>∃p v,f=[.ref p]/\(aI K H p v\/aZ K H p v)/\Q (.int v.length) H
def XH(K:cu)(h:X.K=K:=by rfl):fB X (.builtin "len") (Vl K):=by subst h;show Au
def Vm(K:cu):80#(List V):=λf H Q=>∃p v,f=[.ref p]/\(aI K H p v\/aZ K H p v)/\∀l,H l=none->Q (.ref l) (η H l (.lst v))
def Rc(K:cu)(h:X.K=K:=by rfl):fB X (.type "list") (Vm K):=by subst h;show Av
def Vn(K:cu):80#(List V):=λf H Q=>∃p v,f=[.ref p]/\((aI K H p v/\∀l,H l=none->Q (.ref l) (η H l (.tup v)))\/(aZ K H p v/\Q (.ref p) H))
def uQ(K:cu)(h:X.K=K:=by rfl):fB X (.type "tuple") (Vn K):=by subst h;show xF
def iP(K:cu)(h:X.K=K:=by rfl):HJ X (O7 K):=by subst h;show HK
def B0(K:cu)(h:X.K=K:=by rfl):HJ X (O8 K):=by subst h;show LR
def Uy(K:cu)(h:X.K=K:=by rfl):HJ X (XC K):=by subst h;show Sg
def Pc(K:cu)(h:X.K=K:=by rfl):Uw X (Vf K):=by subst h;show O9
def slT(K:cu)(h:X.K=K:=by rfl):Uw X (Vb K):=by subst h;show Se
def Vo(K:cu)(h:X.K=K:=by rfl):jQ X 137#.In (WO K false):=by subst h;show Jo
def L4(K:cu)(h:X.K=K:=by rfl):jQ X 137#.NotIn (WO K true):=by subst h;show As
def lY(K:cu)(P:PE X l tl)(h:X.K=K:=by rfl):PI X tg l (Ht K tl):=by subst h;show Hu P
def Sq(K:cu)(P:PE X l tl)(h:X.K=K:=by rfl):PI X tg l (OZ K tl):=by subst h;show LA P
def XI(K:cu)(P:PE X l tl)(h:X.K=K:=by rfl):PI X tg l (λU H R=>Ht K tl U H R\/OZ K tl U H R):=by subst h;show So P
def xx(K:cu){k:Nat}{t:OM}{n:Nat}{c:Pos}(L:X.calm=true)(M:Uu X es t)(g:29#(188#es)=n:=by rfl)(Y:(188#es).findIdx? (·.1)=none:=by rfl)(h:X.K=K:=by rfl):
 PG X (.Tuple es k c) (UZ K n t):=by subst h;show R1 L M g Y
end
def XJ(e:Addr)(h:Heap):Prop:=∃a F,h.get? e=some a/\178#F/\F[2]?=some .none
def uR(m:184#0)(c:Value)(e:Addr)(h:Heap):Prop:=∃a F,h.get? e=some a/\178#F/\F[2]?=some c/\a.dict=m
def L5(o:Obj)(f):(o.mapFields f).dict=o.dict:=by
 obtain⟨c,d,g,i⟩:=o;cases g<;>rfl
section
variable  {A:Around}  {s:Shared}{B:Heap}
def Ay{h:Heap}(f)(j:h.get? T=some I)(a:I.data = .fields J):h.UpToSlots (h.update T f):=λb o O g=>by
 have G:T≠b:=λz=>by
  rw[<-z,j]at O;cases O;show g J a
 show⟨o.slots,(I? h f G).trans O⟩
def rE(f)(k:B.StaysIn h)(n:B.get? T=none):B.StaysIn (h.update T f):=λb o O=>by
 have G:T≠b:=λz=>by
  rw[<-z,n]at O;cases O
 show(I? h f G).trans (k b o O)
def kY{h h' : Heap}(x:h.FunFrames B l)(u:h.UpToSlots h'):h'.FunFrames B l:=x.of_keeps λb o O g =>
 let⟨_,q⟩:=u b o O g
 (ae _ q rl)
def Cj(Y:B.StaysIn s.heap)(g:B.get? e=none)(P:s.heap.FunFrames B l)(n:s.heap.TracedAtW B e cls D w)(R:uR m c e s.heap)
 (q:∀h',Heap.FlyingW B l e cls D h'->uR m c e h'->s.heap.UpToSlots h'->153#()):186#(setFlight (.ref e) none):=by
 revert n;show fy λa F T=>aY λI J U L h=>eV λy x C G k i=>?_
 have t:=(N_.mp i).1;rw[setFlight];show aU (wpAny_field U h y ?_);rw[ο 22#0]
 show wpAny_setField G k t ?_;have d:=Ay (Obj.mapFields (·.setIfInBounds 3 (none.elim Value.none λf=>rawInt f))) G k
 have H:=(I? s.heap (Obj.mapFields (·.setIfInBounds 3 (none.elim Value.none λf=>rawInt f))) C).trans U
 have b:=B_ k (·.setIfInBounds 3 (none.elim Value.none λf=>rawInt f))
 show q _ (e7 (rE _ Y x) g (kY P d) (b9 a F T _ _ H L h y x (e7 C (Q? _ G (U_ b)) b (by simp[t])))) ?_ d
 revert R;show aY λv u r j p X=>?_
 rw[U]at r;cases r;show bC a u H j p X
def L6(i:A.frames=some (env::outer))(P:s.heap.FunFrames B (env::outer))(F:env.frame=some L)(U:s.heap.get? e=some N)(Y:B.StaysIn s.heap)(g:B.get? e=none)
 (h:N.data = .fields vs) (hz:1<vs.size) (T:vs[0]?=some D) (R:vs[2]?=some c) (l:N.dict=m)
 (q:∀h',Heap.HeldW B (env::outer) e N.cls D L h'->uR m c e h'->s.heap.UpToSlots h'->153#()) :
 186#(do let a←frameOf env;let k←entryPlaceOf L J;let b←EntryCells.newEntry u a .none (rawInt L) .none k;setField (.ref e) 1 b):=by
 have H:e∉(env::outer).filterMap (·.frame):=λz=>by
  show bE (λ_ o d f=>?_) (P.mem z)
  rw[U]at d;cases d;show f vs h
 show aU (wpAny_frameOf_fun i P F λZ r=>aU (wpAny_entryPlaceOf λk y=>?_))
 rw[EntryCells.newEntry,newFields];show aU (wpAny_newObj_type ?_ (y.sizeOk5 _ _ _ _ _));generalize v:({ cls:=.type "traceback",dict:=none,data:=.fields ([u,.ref L,.none,rawInt L,.none]++(if k.isEmpty then List.replicate 6 Value.none else k)).toArray}:Obj)=t
 have j:t.data = .fields ([u,.ref L,.none,rawInt L,.none]++(if k.isEmpty then List.replicate 6 Value.none else k)).toArray:=by rw[<-v]
 have G:=(r.2.1 e H).trans U;have n:=c! t G;have C:=j? (a! G);show wpAny_setField n h hz ?_;have f:=B_ h (·.setIfInBounds 1 (Value.ref Z.objs.size));have w:=Q? (Obj.mapFields (·.setIfInBounds 1 (Value.ref Z.objs.size))) n (U_ f);have I:=(I? (Z.push t) (Obj.mapFields (·.setIfInBounds 1 (Value.ref Z.objs.size))) (e! C)).trans (v! Z (by rw[<-v];rfl))
 have d:s.heap.UpToSlots ((Z.push t).update e (Obj.mapFields (·.setIfInBounds 1 (Value.ref Z.objs.size)))):=by
  have p:s.heap.UpToSlots Z:=λb o O _=>r.2.2 b o O
  show(p.trans (.of_keeps λb o O=>c! t O)).trans (Ay _ n h)
 have x:B.StaysIn Z:=λb o O=>(r.2.1 b λz=>by rw[(P.mem z).1]at O;cases O).trans (Y b o O)
 have p:B.StaysIn (Z.push t):=λb o O=>c! t (x b o O)
 show q _ (e7 (rE _ p g) g (kY P d) (b9 _ _ Z.objs.size t _ w ⟨_L _ _,by rw[ady 7#0];show T⟩ f (by simp[hz]) x.fresh (e7 C I j ?_))) ?_ d
 .first | (simp;done) | (rcases y with rfl | ⟨_,_,_,_,_,_,_,rfl⟩<;>simp)
 .show bC _ _ w f (by rw[ady 7#0];show R) ((L5 _ _).trans l)
def Rf(i:A.frames=some (env::outer))(n:env.frame=some L)(w:Heap.FlyingW B (env::outer) e cls D s.heap)(R:uR m c e s.heap)
 (q:∀h',Heap.HeldW B (env::outer) e cls D L h'->uR m c e h'->s.heap.UpToSlots h'->153#()):186#(noteFrame (.ref e) env):=by
 revert w;show jM λY g P=>fy λa F T=>aY λI J U f h=>eV λy x C G k l=>?_;obtain⟨t,o⟩:=f
 revert R;show aY λv u r j p X=>?_
 rw[U]at r;cases r;rw[h]at j;cases j;cases t;rw[noteFrame];simp only[n];show aU (wpAny_field U h y ?_);rw[ο 22#0]
 show aU (wpAny_field G k l ?_);rw[ξ (by simp[rawInt])]
 show aU (wpAny_setField G k (N_.mp l).1 ?_);have d:=Ay (Obj.mapFields (·.setIfInBounds 3 Value.none)) G k;have H:=(I? s.heap (Obj.mapFields (·.setIfInBounds 3 Value.none)) C).trans U;show L6 i (kY P d) n H (rE _ Y x) g h (N_.mp y).1 o p X λh' N z b=>q h' N z (d.trans b)
def Vp(x:Heap.FlyingW B (env::outer) e cls D s.heap):Heap.FlyingW B outer e cls D s.heap :=
 let⟨k1,k2,⟨_,_,k3⟩,k4⟩:=x
 (e7 k1 k2 k3 k4)
def leave_on2(i:A.frames=some (env::outer))(F:env.frame=some L)(w:Heap.FlyingW B (env::outer) e cls D s.heap)(R:uR m c e s.heap)
 (q:∀h',Heap.FlyingW B outer e cls D h'->uR m c e h'->s.heap.UpToSlots h'->153#()):186#(leaving env (.ref e)):=by
 rw[leaving];show aU (Rf i F w R λh' N z b=>?_)
 revert N;show jM λG v d j=>?_
 show Cj G v d j z λf u X t=>q f (Vp (s:={ s with heap:=f}) u) X (b.trans t)
def leave_new(i:A.frames=some (env::outer))(F:env.frame=some L)(Y:B.StaysIn s.heap)(g:B.get? e=none)(P:s.heap.FunFrames B (env::outer))(U:s.heap.get? e=some a)(h:178#vs)
 (o:vs[0]?=some D) (Z:vs[1]?=some .none) (R:vs[2]?=some c) (l:a.dict=m)
 (q:∀h',Heap.FlyingW B outer e a.cls D h'->uR m c e h'->s.heap.UpToSlots h'->153#()):186#(leaving env (.ref e)):=by
 rw[leaving,noteFrame];simp only[F];show aU (aU (wpAny_field U h Z ?_));rw[ξ 7#0]
 show L6 i P F U Y g h (N_.mp Z).1 o R l λh' N z b=>?_
 revert N;show jM λG v d j=>?_
 show Cj G v d j z λf u X t=>q f (Vp (s:={ s with heap:=f}) u) X (b.trans t)
end
section
variable      {o:HO}
def dm.thing(x:dm P w H h a o):∃ob,135#ob:=by
 cases o with
 | lst f=>revert x;show Ah λ_=>bh λ_ _ _ e=>?_;show⟨_,e⟩
 | tup f=>revert x;show bE λ_ _ _=>af λob e _=>?_;show⟨ob,e⟩
 | dK L=>revert x;show bG λ_ _ _ _=>cQ λob _ _ e _=>?_;show⟨ob,e⟩
 | dT L=>revert x;show bG λ_ _ _ _=>cQ λob _ _ e _=>?_;show⟨ob,e⟩
 | set S n=>revert x;show eg λob=>cQ λ_ _ _ e _=>?_;show⟨ob,e⟩
 | ins C i W=>revert x;show iI λ_ _ _ e _=>?_;show⟨_,e⟩
 | own y=>show x
 | xd W=>revert x;show af λ_ r _=>?_;obtain⟨ob,_,_,e,_⟩:=r;show⟨ob,e⟩
 | Lk lo I=>revert x;show fy λ_ _ _ e=>?_;show⟨_,e⟩
 | p7 ob u=>obtain⟨e,_⟩:=x;show⟨_,e⟩
 | gQ i=>revert x;show af λ_ e _=>?_;show⟨_,e⟩
 | met f y=>show⟨_,(x)⟩
 | ext g=>revert x;show cW λ_ e _=>?_;show e
def Pd(B:Heap)(W:214#0)(a:Heap)(H:Hp)(h:Heap):Prop:=∀b o,48#h.get?->(H b≠none\/∃S,a.get? b=some S)->b∉W->48#B.get?
def Ck(l:Un W [] Q N p Z)(D:lX P w N Z)(h:∀b∈W,N b=none)(k:∀b∈W,∀ob,Z.get? b=some ob->∀vs,ob.data≠.fields vs)(a:Pd B W p N Z)
 (t:B.StaysIn R) (d:Z.UpToSlots R):Un W [] Q N p R/\lX P w N R/\Pd B W p N R:=by
 have g:∀b ob,Z.get? b=some ob->(N b≠none\/∃S,p.get? b=some S)->b∉W->R.get? b=some ob:=λb ob e c n=>t b ob (a b ob e c n)
 have Us:∀b u,N b=some u->b∉W:=λb u e z=>by
  rw[h b z]at e;cases e
 show bF ⟨λb ob e n O j=>g b ob (l.keep b ob e n O j) (.inr ⟨ob,e⟩) O,λb ob e n O j=>?_,l.free,λb ob e j=>?_,l.tups,l.jN,l.l8⟩ (λb u e=>?_) λb ob e c n=>?_
 .obtain⟨i,q⟩:=l.slot b ob e n O j;obtain⟨f,C⟩:=d b _ q (k b O _ q);show⟨f,C⟩
 .obtain⟨S,q⟩:=l.there b ob e j
  by_cases O:b∈W
  .obtain⟨f,C⟩:=d b _ q (k b O _ q);show⟨_,C⟩
  .show⟨S,g b S q (.inr ⟨ob,e⟩) O⟩
 .show(D b u e).stay (λc v L q=>?_) (λ_ q=>q) λ_ _ q=>q
  have f:∃z,N c=some z:=by
   rcases L with L|L
   .rw[L];show⟨u,e⟩
   .show⟨_,L⟩
  obtain⟨z,m⟩:=f;show g c v q (.inl (by rw[m];simp)) (Us c z m)
 .have f:∃r,Z.get? b=some r:=by
   rcases c with c|⟨S,c⟩
   .cases m:N b with
    | none=>show absurd m c
    | some z=>show(D b z m).thing
   .show l.there b S c 22#0
  obtain⟨r,q⟩:=f;have i:=a b r q c n;have C:=t b r i;rw[e]at C
  rwa [20#C]
end
def XM(L:Addr)(cls:Value):HO:=.ext λh=>∃a F,h.get? L=some a/\a.cls=cls/\178#F/\F[2]?=some .none
def Ss(E:XK)(cls:Value)(m:184#0)(c:Value)(H:Hp):Prop:=(c = .none/\(∃b:Addr,cls = .ref b)/\E cls m H)\/∃C D a,cls = .ref C/\m=none/\c = .ref D/\H D=some (XM D a)/\E (.int C D) none H
def EN(P:Program)(w:World):Lo:=λb H s E e Z=>∃L S D m c Y B,e = .ref L/\Z.os=s.os/\AllBare Z.gens/\Un (frs b) [] H Y s.heap Z.heap/\lX P w Y Z.heap/\Y L=none/\
 Pd B (frs b) s.heap Y Z.heap/\Heap.FlyingW B b L S D Z.heap/\uR m c L Z.heap/\Ss E S m c Y
structure Out(X:Cx)(E:XK):Prop where
 Lu:X.stack=X.env::X.outer
 fr:X.env.frame=some X.env.locals
 ex:X.ex=[]
 xe:∀e s',wpAny 8#0 X.A (leaving X.env e) (λ_ s''=>EN X.prog X.w X.outer X.H₀ X.s₀ E e s'') (λe' s''=>EN X.prog X.w X.outer X.H₀ X.s₀ E e' s'') s'->X.xe e s'
section
variable   {pq:cF}{σ:St}
def θ.Su(I:5#s):∀b∈X.fs,∀ob,16#ob->∀vs,ob.data≠.fields vs:=λb O ob e=>by
 show bE (λ_ o Y d=>?_) (I.funs.mem O)
 rw[e]at Y;cases Y;show d
def θ.Sv(I:5#s)(B:X.ex=[]):∀b∈X.fs,H b=none:=λb O=>by
 show bE (λ_ o Y _=>?_) (I.ok.funs.mem O)
 show I.base.free b o Y (I.ok.Lv b O) (by rw[B];simp)
def Pd.outer(I:5#s)(a:Pd B (frs X.stack) d H h)(k:∀b o,48#X.s₀.heap.get?->∃S,d.get? b=some S):Pd B X.fs X.s₀.heap H h:=λb o e c n=>by
 show a b o e (c.imp id λ⟨S,q⟩=>k b S q) λz=>?_
 rcases Z'.mp (I.uD b z) with q|q
 .subst q;rcases c with c|⟨S,c⟩
  .show c I.free
  .show 204#(t! (a! c) I.ok.above)
 .show n q
def HR(O:Out X E)(I:5#s)(a:Pd B X.fs X.s₀.heap H s.heap)(w:Heap.FlyingW B X.outer L cls D R)(f:uR m c L R)(d:s.heap.UpToSlots R)(g:H L=none)(q:Ss E cls m c H):
 EN X.prog X.w X.outer X.H₀ X.s₀ E (.ref L) { s with heap:=R}:=by
 have l:Un X.fs [] X.H₀ H X.s₀.heap s.heap:=by
  have u:=I.base;rw[O.ex]at u;show u
 show cW (λU j p=>?_) (Ck l I.hok (I.Sv O.ex) I.Su a w.1 d)
 show gR L cls (b9 D m c H B rl I.os I.bare U j (dD g p w f q))
def Out.XN(O:Out X E)(I:5#s)(U:s.heap.get? L=some a)(h:178#vs)(j:vs[0]?=some D)(Z:vs[1]?=some .none)(R:vs[2]?=some c)
 (g:H L=none) (Q:199#L=none) (q:Ss E a.cls a.dict c H):X.xe (.ref L) s:=by
 show O.xe _ _ ?_;have i:X.A.frames=some (X.env::X.outer):=by rw[I.ok.frames,O.Lu]
 have P:s.heap.FunFrames (PySem.W.hideAll s.heap (L::frs X.stack)) (X.env::X.outer):=by
  have z:=PySem.W.funFrames_hide (as:=L::frs X.stack) I.stack λd T b e=>jx _ (Y_.mpr (ae d T e))
  rw[O.Lu]at z ⊢;show z
 show leave_new i O.fr (λb o e=>PySem.W.of_hideAll _ e) (PySem.W.hideAll_none _ (g! ..)) P U h j Z R rl λl w f d=>?_
 show HR O I (Pd.outer I (λb o e c n=>?_) λb o e=>⟨o,e⟩) w f d g q
 show PySem.W.hideAll_get _ e λz=>?_
 rcases Z'.mp z with z|z
 .subst z;rcases c with c|⟨S,c⟩
  .show c g
  .rw[Q]at c;cases c
 .show n z
def Out.XO(O:Out X E)(I:5#s)(U:s.heap.get? L=some a)(h:178#vs)(o:vs[0]?=some D)(Z:vs[1]?=some .none)(R:vs[2]?=some .none)
 (g:H L=none) (Q:199#L=none) (G:∃b:Addr,a.cls = .ref b) (q:E a.cls a.dict H):X.xe (.ref L) s:=O.XN I U h o Z R g Q (.inl (bF rl G q))
def θ.L7{Z:Shared}(I:5#s)(os:Z.os=s.os)(j:AllBare Z.gens)(l:Un (frs X.stack) [] H Y s.heap Z.heap)(D:lX X.prog X.w Y Z.heap):θ X pq σ Y Z :=
 I.Lw os l D j λb z=>absurd z 22#0
def Out.passes(O:Out X E):Passes (EN X.prog X.w) X E:=by
 intro pq σ H s e Z I q
 revert q;show gb λL S r m=>bO λc Y B n os j l=>eV λD g a w f p=>?_;subst n
 have A:=I.L7 os j l D;show O.xe _ _ ?_;have i:X.A.frames=some (X.env::X.outer):=by rw[I.ok.frames,O.Lu]
 rw[O.Lu]at w;show leave_on2 i O.fr w f λR h k d=>?_
 show HR O A (Pd.outer A a λb o e=>I.base.there b o e (by rw[O.ex];simp)) h k d g p
end
def L8{K}:
 Out (nZ (EN P w) P w K mg base N B scope f cd A outer s H E) E:=⟨rfl,rfl,rfl,λ_ _ h=>h⟩
def Cg.WR{K}{st}(F:Cg K x B st f fd)(S:dH N i (aQ st))
 (len:61#i.length)
 (M:∀d A outer s H vs Q E,dF k (107#B)->sp vs H Q E->
  67#(pY (nZ (EN P w) P w K mg base N B (aQ st) f d A outer s H E) (cO st) t)):iM P w K mg base (EN P w) (k+1) f fd i sp:=by
 show gb (λl m kV X=>dO λz R d j n e c p=>?_) F.ex;subst e
 show LN c p S len λA outer s H vs Q E C y=>M d A outer s H vs Q E C y
def Sw(K)(i)(n:Nat)(v):PySem.W.exmOne K (.int i n) v≠some true:=by
 unfold PySem.W.exmOne
 split
 .unfold PySem.W.kitCls
  split
  .split<;>simp[PySem.W.subIn]
  .split<;>simp[PySem.W.subIn]
  .simp
 .simp
def E9(L:Addr)(cls:Value)(m:184#0):HO:=.ext λh=>∃a F,h.get? L=some a/\a.cls=cls/\178#F/\F[2]?=some .none/\a.dict=m
def Pe{h:Heap}(q:∃a vs,h.get? L=some a/\a.cls=cls/\178#vs/\vs[2]?=some .none/\a.dict=m):dm P w H h L (E9 L cls m) :=
 (bF q (let⟨a,_,e,_⟩:=q;⟨a,e⟩) (λZ R=>gF λa vs=>iI λe c d z y k=>cI a vs (k a e) c d z y))
section
variable  {pq:cF}{σ:St}
def θ.Ma(I:5#s)(g:H L=none)(k:199#L=none)(U:114#L)(a:∀x c,33#x->c≠L)(M:∀p∈X.pn++pq,p.1≠L)
 (j:dm X.prog X.w (η H L o) s.heap L o):θ X pq σ (η H L o) s:=by
 have G:∀b u,H b=some u->b≠L:=λb u e z=>by rw[z,g]at e;cases e
 show⟨I.ok,I.os,I.bare,⟨I.base.keep,I.base.slot,λb T e n B=>?_,I.base.there,λb f e=>?_,λb T u e=>?_,λb i e=>?_⟩,I.loc,I.cell,?_,λx c e=>?_,λp h=>?_,λb u e=>?_,I.len⟩
 .rw[ao (λz=>by rw[z,k]at e;cases e)]
  show I.base.free b T e n B
 .have q:=I.base.tups b f e
  rwa [ao (G b _ q)]
 .have q:=I.base.jN b T u e
  rwa [ao (G b _ q)]
 .obtain⟨w,q⟩:=I.base.l8 b i e;show⟨w,150#(G b _ q)⟩
 .rw[ao (e! U)];show I.free
 .rw[ao (a x c e)];show I.gG x c e
 .show cW (λS d D=>?_) (I.pin p h)
  show bF S (by rw[ao (M p h)];show d) D
 .by_cases O:b=L
  .subst O;rw[aa]at e;cases e;show j
  .rw[ao O]at e;show(I.hok b u e).stay (λ_ _ _ q=>q) (λc q=>150#(G c _ q)) λc f q=>150#(G c _ q)
def θ.xG{A' : Around}{a Ut:cF}(I:5#s)(P:A'.frames=X.A.frames)(b:cm=true->A'.handled=none)(M:∀p∈a++Ut,p∈X.pn++pq):
 θ { X with A:=A',calm:=cm,pn:=a,xe:=Pb} Ut σ H s :=
 ⟨⟨I.ok.mod,I.ok.kind,I.ok.glob,I.ok.blt,I.ok.above,I.ok.inj,I.ok.has,I.ok.RX,b,P.trans I.ok.frames,I.ok.Lu,I.ok.WN,I.ok.bs,I.ok.Ll,I.ok.EO,I.ok.Jg,I.ok.funs,I.ok.Lv⟩,
   I.os,I.bare,I.base,I.loc,I.cell,I.free,I.gG,λp z=>I.pin p (M p z),I.hok,I.len⟩
def yH(I:5#s)(o:X.N.Nodup)(f:X.N[i]?=some x)(B:32#x)
 (h:∀Z,θ X pq (σ.set i none) H Z->Q () Z):186#(do bindName X.env x .none;unbindBehindTheSuite X.env x l):=by
 show af (λm g P=>?_) (id I.loc)
 have a:(X.env.scope.kind == .class || (X.env.scope.kind == .module&&X.env.locals != X.env.globals))=false:=by rw[I.ok.kind];rfl
 show wpAny_nameGoes_keeps B g a λN v u W=>?_
 have r:∀b T,199#b=some T->114#b:=λb T e=>n! (t! (a! e) I.ok.above)
 show h _ ⟨I.ok,I.os,I.bare,⟨λb T e n O B=>(W.2 b (r b T e)).trans (I.base.keep b T e n O B),λb T e n O B=>?_,I.base.free,λb T e B=>?_,I.base.tups,I.base.jN,I.base.l8⟩,
  (ae _ u (λj y C t U R=>?_)),λy c e=>?_,I.free,I.gG,λp q=>?_,λb T e=>?_,by rw[H_];show I.len⟩
 .obtain⟨c,t⟩:=I.base.slot b T e n O B;show⟨c,(W.2 b (r b T e)).trans t⟩
 .obtain⟨S,t⟩:=I.base.there b T e B;show⟨S,(W.2 b (r b T e)).trans t⟩
 .by_cases D:j=i
  .subst D;have w:j<σ.length:=by rw[I.len];show(iJ.mp f).1
   rw[Q_ w]at U;cases U
  .rw[V_ (e! D)]at U;show af (λw G q=>?_) (P j y C t U R)
   show ae w G ?_;rcases q with⟨k,e⟩|⟨k,c,e,z⟩
   .have S:y≠x:=λd=>D (uE o t (d▸f))
    show .inl ⟨k,by simp[S,e]⟩
   .show .inr (bR k c e (z.sameBut W (I.UT y c e)))
 .obtain⟨d,z⟩:=I.cell y c e;show⟨d,z.sameBut W (I.UT y c e)⟩
 .show iI (λe n G k d=>?_) (I.pin p q)
  show dD ((W.2 p.1 G).trans e) n G k d
 .show(I.hok b T e).stay (λc v L q=>(W.2 c ?_).trans q) (λ_ q=>q) λ_ _ q=>q
  intro z;subst z;have F:=I.free;rcases L with L|L
  .rw[<-L,F]at e;cases e
  .rw[F]at L;cases L
end
def Rg(o:Addr->Value->184#0->HO)(K:cu)(C i k:Nat)(tb:XK->TS)(p:Addr->TS):TS:=λD U H=>∃E:XK,tb E D U H/\∀S m Y,E S m Y->PySem.W.exmOne K S (.ref C)=some true/\
 ∀L,Y L=none->p L { nx:=λt G=>D.nx (t.set i none) G,rt:=D.rt} ((73#k).set i (some (.ref L))) (η Y L (o L S m))
abbrev Vq:=Rg E9
section
variable {X:Cx}
def Pf(o:Addr->Value->184#0->HO)(K:cu)(C k:Nat)(tb:XK->TS)(d:Addr->TS):TS:=λD U H=>∃E:XK,tb E D U H/\∀S m Y,E S m Y->PySem.W.exmOne K S (.ref C)=some true/\
 ∀L,Y L=none->d L D (73#k) (η Y L (o L S m))
def Jr(oo:Addr->Value->184#0->HO)(hoo:∀{H:Hp} {h:Heap} {L:Addr} {cls:Value} {od:184#0},(∃a vs,h.get? L=some a/\a.cls=cls/\178#vs/\vs[2]?=some .none/\a.dict=od)->dm X.prog X.w H h L (oo L cls od))
 {x:Str} {nm:Option Str} {C:Addr} {d e:List Stmt} {P:Stmt} {j g l:Pos} {tb:XK->TS} {c b:Addr->TS} (K:cu) (hst:X.stack=X.env::X.outer) (F:X.env.frame=some X.env.locals) (XQ:X.ex=[])
 (hg:Gl X x) (hm:X.mg x=some (.ref C))
 (O:∀E pn xe,Passes (EN X.prog X.w) { X with pn:=pn,xe:=xe} E->pY { X with pn:=pn,xe:=xe} d (tb E))
 (W:∀n,nm=some n->∃i,X.N.Nodup/\X.N[i]?=some n/\32#n/\∀L D U H,c L D U H->b L { nx:=λt G=>D.nx (t.set i none) G,rt:=D.rt} (U.set i (some (.ref L))) H)
 (hs0:nm=none->∀L D U H,c L D U H->b L { nx:=D.nx,rt:=D.rt} U H)
 (hh:∀L pn,pY { X with A:=X.A.mark (some (.ref L)),calm:=false,pn:=pn,xe:=51#0} (P::e) (b L)) (f:X.K=K:=by rfl) (hdb:193#("__debug__":Str):=by decide) :
 PS X (.Try d [.ExceptHandler (some (.Name x j)) nm (P::e) g] [] [] l) (Pf oo K C X.N.length tb c):=by
 subst f;show 140
 revert h;show af λE l j=>?_
 show wpAny_Try_except ?_;have hfr:X.A.frames=some (X.env::X.outer):=by rw[I.ok.frames,hst]
 have d:θ { X with pn:=X.pn++S,xe:=λe h=>∃b k Q R,θ { X with pn:=X.pn++S} b k Q R/\EN X.prog X.w X.stack Q R E e h} [] U H s :=
  I.xG rl I.ok.hd λp M=>by simpa using M
 have g:Passes (EN X.prog X.w) { X with pn:=X.pn++S,xe:=λe h=>∃b k Q R,θ { X with pn:=X.pn++S} b k Q R/\EN X.prog X.w X.stack Q R E e h} E:=by
  intro b k Q R e h J q;show⟨b,(bZ k Q R (J.xG rl J.ok.hd λp M=>M) q)⟩
 have toX:∀{b k Y Z},θ { X with pn:=X.pn++S} b k Y Z->θ X S k Y Z:=λ{b k Y Z} J=>by
  have z:=J.xG (Pb:=X.xe) rl J.ok.hd λp M=>Ur _ M
  show z
 have c:∀{b k Y Z} {Pb:xw},θ { X with pn:=X.pn++S,xe:=Pb} b k Y Z->θ X S k Y Z:=λ{b k Y Z Pb} J=>by
  have z:=J.xG (Pb:=X.xe) rl J.ok.hd λp M=>Ur _ M
  show z
 show p! (O E _ _ g [] s U H D d l) (λf h q=>?_) λe h q=>?_
 .cases f with
  | next =>
    revert q;show bh λk Y J q=>?_
    show wpAny_execs_nil (bf k Y (c J) q)
  | brk =>
    revert q;show bh λk Y J q=>?_
    show bf k Y (c J) q
  | cont =>
    revert q;show bh λk Y J q=>?_
    show bf k Y (c J) q
  | ret u =>
    revert q;show eu λv k Y J r q=>?_
    show⟨v,(aq k Y (c J) r q)⟩
 .revert q;show eg λb=>cQ λk Q R C=>gb λL cls y od=>bO λc N B l os x U=>eV λJ g D w Y d=>?_;subst l
  rcases d with⟨rfl,_,d⟩|⟨l,m,b,rfl,rfl,rfl,_,d⟩
  case inr=>show absurd (j _ _ _ d).1 (Sw _ _ _ _)
  obtain⟨hex,P⟩:=j cls od N d;have m:=C.L7 os x U J;have Q:=m.tZ;have E:∀{l:Heap},h.heap.UpToSlots l->∀b∈frs X.stack,∀T,l.get? b=some T->∀vs,T.data≠.fields vs:=λ{l} s b O T e vs z=>by
   show bE (λ_ o j d=>?_) (m.stack.mem O)
   obtain⟨m,q⟩:=s b o j d;rw[e]at q;cases q;show d vs z
  have H:∀{l:Heap},B.StaysIn l->h.heap.UpToSlots l->θ X S k N { h with heap:=l}:=λ{l} b s=>by
   show cW (λd j _=>?_) (Ck U J Q (E (Heap.UpToSlots.refl _)) D b s)
   show toX (C.L7 os x d j)
  have b:L∉frs X.stack:=λz=>by
   show aY (λa vs e _ d _=>?_) w.first
   show E (Heap.UpToSlots.refl _) L z a e vs d
  have O:R.heap.get? L=none:=by
   cases m:R.heap.get? L with
   | none=>rfl
   | some o =>
     show bh (λa vs e _=>?_) w.first
     have q:=D L a e (.inr ⟨o,m⟩) b;rw[w.2.1]at q;cases q
  have b:Heap.FlyingW B (X.env::X.outer) L cls y h.heap:=by
   rw[hst]at w;show w
  show Rf hfr F b Y λl d x J=>?_
  revert d;show jM λb s l w=>?_
  show Cj b s l w x λd E Q F=>?_
  have D:=J.trans F;have b:=H E.1 D;have F:(X.A.mark (some (.ref L))).frames=X.A.frames:=rfl;have l:θ { X with A:=X.A.mark (some (.ref L)),calm:=false,pn:=X.pn,xe:=51#0} S k N { h with heap:=d}:=b.xG F 121#0 λp M=>M
  show wpAny_handleBy_cons (codeAny_handlers_test (kQ l hg hm ?_ hdb)) (by intro q;cases q)
  show af (λT l w=>?_) E.there
  have LT:PySem.W.Looks 8#0 d (typeOf (.ref L)) cls:=w▸(PySem.W.Looks.ld l).andThen .now;show PySem.W.Looks.here (PySem.W.exm_one b.pB LT hex) ?_;have J:∀b,Heap.FlyingW B (X.env::X.outer) L cls y b->uR od .none L b->d.UpToSlots b->θ { X with A:=X.A.mark (some (.ref L)),calm:=false,pn:=X.pn,xe:=51#0} S (73#X.N.length) (η N L (oo L cls od)) { h with heap:=b}:=λb l w x=>by
   have d:=D.trans x;have D:=H l.1 d;show aY (λa vs d R B _=>?_) l.first
   have H:vs[2]?=some .none/\a.dict=od:=by
    revert w;show aY λo u s j m v=>?_
    rw[d]at s;cases s;rw[B]at j;cases j;show⟨m,v⟩
   have u:114#L:=λz=>by
    show af (λm r _=>?_) D.loc;obtain⟨o,_,_,j,s,_⟩:=r
    rw[<-z]at j;rw[d]at j;cases j;rw[B]at s;cases s
   have r:θ X S k (η N L (oo L cls od)) { h with heap:=b}:=by
    show D.Ma g ?_ u (λy c e z=>?_) (λp M z=>?_) (hoo (cI a vs d R B H.1 H.2))
    .cases m:199#L with
     | none=>rfl
     | some o =>
       obtain⟨j,q⟩:=C.base.there L o m (show L∉X.ex by rw[XQ];simp)
       rw[O]at q;cases q
    .show bh (λv o j s=>?_) (D.cell y c e)
     rw[z,d]at j;cases j;rw[B]at s;cases s
    .have q:=(C.pin p (Ur _ M)).1;rw[z,O]at q;cases q
   have z:θ X S (73#X.N.length) (η N L (oo L cls od)) { h with heap:=b}:=r.weak (by rw[K?,r.len]) λj v e=>by
    rw[O_]at e
    split at e<;>cases e
   show z.xG F 121#0 λp M=>M
  have y:∀{t G d},θ { X with A:=X.A.mark (some (.ref L)),calm:=false,pn:=X.pn,xe:=51#0} S t G d->θ X S t G d:=λ{t G d} j=>by
   have z:=j.xG (Pb:=X.xe) F.symm I.ok.hd λp M=>M
   show z
  revert E;show jM λe h k p=>?_
  cases nm with
  | some n =>
    show gE (λi o c a m=>?_) (W n rl)
    show codeAny_handlers_suite_as (Cj e h k p.at Q λb l w x=>?_)
    show l9 (X:={ X with A:=X.A.mark (some (.ref L)),calm:=false,pn:=X.pn,xe:=51#0}) (v:=.ref L) (J b l w x) o c (.inl a) rl (λn i=>?_) (.inr a)
    show p! (hh _ _ S n _ _ _ i (m _ _ _ _ (P L g))) (λf d q=>?_) λ_ _ z=>z.elim
    cases f with
    | next =>
      revert q;show bh λt G j q=>?_
      show yH (y j) o c a λi m=>bf _ G m q
    | brk=>revert q;show bh λ_ _ _ q=>?_;show q.elim
    | cont=>revert q;show bh λ_ _ _ q=>?_;show q.elim
    | ret u =>
      revert q;show eu λv t G j r q=>?_
      show yH (y j) o c a λi m=>⟨v,(aq _ G m r q)⟩
  | none =>
    show codeAny_handlers_suite (Cj e h k p.at Q λb l w x=>?_)
    show p! (hh L _ S _ _ _ _ (J b l w x) (hs0 rl _ _ _ _ (P L g))) (λf d q=>?_) λ_ _ z=>z.elim
    cases f with
    | next =>
      revert q;show bh λt G j q=>?_
      show bf t G (y j) q
    | brk=>revert q;show bh λ_ _ _ q=>?_;show q.elim
    | cont=>revert q;show bh λ_ _ _ q=>?_;show q.elim
    | ret u =>
      revert q;show eu λv t G j r q=>?_
      show⟨v,(aq t G (y j) r q)⟩
def Pg(b:Addr->Value->184#0->HO)(g:∀{H:Hp} {h:Heap} {L:Addr} {cls:Value} {m:184#0},(∃a vs,h.get? L=some a/\a.cls=cls/\178#vs/\vs[2]?=some .none/\a.dict=m)->dm X.prog X.w H h L (b L cls m))
 {x n:Str} {i:Nat} {C:Addr} {j q:List Stmt} {P:Stmt} {c z l:Pos} {tb:XK->TS} {p:Addr->TS} (K:cu) (Y:X.stack=X.env::X.outer) (F:X.env.frame=some X.env.locals) (f:X.ex=[]) (o:X.N.Nodup) (I:X.N[i]?=some n)
 (B:32#n) (M:Gl X x) (d:X.mg x=some (.ref C))
 (O:∀E pn xe,Passes (EN X.prog X.w) { X with pn:=pn,xe:=xe} E->pY { X with pn:=pn,xe:=xe} j (tb E))
 (k:∀L pn,pY { X with A:=X.A.mark (some (.ref L)),calm:=false,pn:=pn,xe:=51#0} (P::q) (p L)) (J:X.K=K:=by rfl) (v:193#("__debug__":Str):=by decide) :
 PS X (.Try j [.ExceptHandler (some (.Name x c)) (some n) (P::q) z] [] [] l) (Rg b K C i X.N.length tb p) :=
 Jr b g K Y F f M d O (λ_ e=>cP i o (by cases e;show I) (by cases e;show B) λ_ _ _ _ h=>h) (λe=>nomatch e) k J v
def Ph{x n:Str}{i:Nat}{C:Addr}{a H:List Stmt}{P:Stmt}{c z l:Pos}{tb:XK->TS}{p:Addr->TS}(K:cu)(Y:X.stack=X.env::X.outer)(F:X.env.frame=some X.env.locals)(f:X.ex=[])(o:X.N.Nodup)(I:X.N[i]?=some n)
 (B:32#n) (M:Gl X x) (d:X.mg x=some (.ref C))
 (O:∀E pn xe,Passes (EN X.prog X.w) { X with pn:=pn,xe:=xe} E->pY { X with pn:=pn,xe:=xe} a (tb E))
 (k:∀L pn,pY { X with A:=X.A.mark (some (.ref L)),calm:=false,pn:=pn,xe:=51#0} (P::H) (p L)) (J:X.K=K:=by rfl) (v:193#("__debug__":Str):=by decide) :
 PS X (.Try a [.ExceptHandler (some (.Name x c)) (some n) (P::H) z] [] [] l) (Vq K C i X.N.length tb p):=Pg E9 (λq=>Pe q) K Y F f o I B M d O k J v
end
open PySem PySem.Spec PySem.Calls PyProof.Rows PySem.W PySem.Builtin PySem.Builtin.ObjectAttr PySem.Builtin.Getset_descriptor
structure Fb(K:Frag)(D:Addr):Prop where
 ga:findIn K (.ref D) "__getattribute__"=41#(.builtin "BaseException.__getattribute__")
 gh:findIn K (.ref D) "__getattr__"=some none
 cl:findIn K (.ref D) "__class__"=41#(.builtin "object.__class__")
 gt:specialIn K (.builtin "object.__class__") "__get__"=41#(.builtin "getset_descriptor.__get__")
 tk:takesIn K (.builtin "object.__class__")=some true
 mr:mroIn K D (.type "object")=some true
 mb:mroIn K D (.type "BaseException")=some true
 is_:(clsIn K D).isSome=true
def Fc(S:Looks M k (isInstance (.ref x) (.type "BaseException")) true)(D:Q () ⟨k,c,C,h,b⟩):
 wpAny M A (checkBuiltinCall "BaseException.__getattribute__" ⟨[.ref x,a],[]⟩) Q E ⟨k,c,C,h,b⟩:=by
 have Y:builtinKind "BaseException.__getattribute__"=some .slot:=2#0
 have d:splitId "BaseException.__getattribute__"=some ("BaseException","__getattribute__"):=2#0
 have e:=F.args_bexc_ga (.ref x) a;show aU (S.at ?_)
 repeat (first | wp_step)
 show D
section
variable {X:Cx}
def HS:jQ X (binaryOp .Mult) (rI IntMulOk 212#(i*j)):=Ra λ_ _ _ _ _ _ _ L q=>mul_int q L
def mulOk_of{i j:Int}(I:i.natAbs<2^1000)(D:j.natAbs<2^1000):IntMulOk i j:=by
 have a:∀k:Int,k.natAbs<2^1000->63#k<=2^20:=λk Y=>by
  unfold Builtin.Int.intBits
  by_cases o:k.natAbs=0
  .simp only[o]
   split<;>decide
  .have Z:=(p_ o).mpr Y
   split<;>lia
 show IntMulOk.of_bits (a i I) (a j D)
def Vr(K:cu):V->80#V:=λo i H Q=>∃p f j v,o = .ref p/\i = 129#(j:Nat)/\aI K H p f/\f[j]?=some v/\Q v H
def getL(K:cu)(J:X.K=K:=by rfl):U1 X (Vr K):=by
 subst J;intro S s U H o i b n Q I a w h
 revert h;show eg λp=>bO λf j v c d D e q=>?_;subst c d
 cases a;obtain⟨t,rfl⟩:=w;show 130#(λC r k m=>?_)
 show af (λu B Y=>?_) (r.get e)
 have l:=(iJ.mp e).1;have g:=my;show wpAny_getItem_list k.isList (by lia) (by lia) (by simpa using B) (aq v H I Y q)
def Rh(K:cu):R2:=λx y H Q=>∃l b f u,x = .ref l/\y = .ref b/\aI K H l f/\aI K H b u/\36#(f.length+u.length)/\∀p,H p=none->Q (.ref p) (η H p (.lst (f++u)))
def Cm(K:cu)(E:X.K=K:=by rfl):jQ X (binaryOp .Add) (Rh K):=by
 subst E;show 58
 revert h;show gb λl b f Z=>eV λD O A t m q=>?_;subst D O
 cases rx;cases B;show aA (λC r k _=>?_) (I.list A)
 show aA (λw a P _=>?_) (I.list t)
 revert k;show aY λF n e L _ J=>?_;obtain⟨Y,j,R,i⟩:=F
 revert P;show aY λG T c N _ o=>?_;obtain⟨W,d,data2,g⟩:=G
 subst L J N o;have p:=r.length;have M:=a.length;have z:C.toArray++w.toArray=(C++w).toArray:=by simp
 show concat_meets (ae _ e rl) (ae _ c rl) noFill_list_add seq_list_add PySem.F.slot_list_add PySem.F.entry_list_add (PySem.F.args_list_add_2 _ _)
  (list_addW l b C.toArray w.toArray n T j d i g (by rw[B!,B!];lia)) (bF e c ?_)
 rw[z];show aq (.ref _) _ (I.Vh (r.append a) (by rw[i!];lia)) rl (q _ I.fresh)
def Mb:WQ X "list.count" (λx vs H Q=>∃l xs y,x = .ref l/\vs=[y]/\H l=4#xs/\jz y=true/\xs.all jz=true/\Q (.int (xs.countP λz=>HM z y)) H):=by
 intro S s U H x vs v g Q I rx d h
 revert h;show fy λl xs y=>eV λa b A k i q=>?_;subst a b
 cases rx;show af (λu c Y=>?_) d.one;subst c
 show Ah (λz=>aD λC n r P e=>?_) (I.LV A)
 have cnt:∀{xs:List V} {g:70#0},υ xs g->xs.all jz=true->g.countP (Aq y)=xs.countP λz=>HM z y:=by
  intro xs g r
  induction r with
  | nil=>intro _;rfl
  | cons J _ G =>
    intro f;rw[List.all_cons,N!]at f;rw[_S,_S,G f.2,Ar J f.1]
 show call_meets PySem.F.slot_list_count (ae _ e rl) PySem.F.entry_list_count (PySem.F.args_list_count_2 _ _) (SeqAt.list_countAt l C.toArray n none #[] u (Aq y)) (bF e (λw o=>jf Y k r i w (by simpa using o)) ?_)
 show aq (.int _) H (I.tok _) ⟨s.toks,?_⟩ q;rw[show C.toArray.toList=C from rfl,cnt r i]
def Mc:WQ X "list.index" (λx vs H Q=>∃l xs y j,x = .ref l/\vs=[y]/\H l=4#xs/\jz y=true/\xs.all jz=true/\j<xs.length/\(∀m z,xs[m]?=some z->m<=j->HM z y=decide (m=j))/\Q (.int (j:Nat)) H):=by
 intro S s U H x vs v M Q I rx G h
 revert h;show eY λl xs y j p b=>eV λA k i D L q=>?_;subst p b
 cases rx;show af (λu t Y=>?_) G.one;subst t
 show Ah (λz=>aD λC n r P e=>?_) (I.LV A)
 have g:=my;have c:∀m (d:m<C.toArray.size),m<=j->Aq y C.toArray[m]=decide (m=j):=λm d E=>by
  have f:m<xs.length:=by rw[P];simpa using d
  have o:xs[m]?=some xs[m]:=by simp[f]
  show af (λw B F=>?_) (r.get o)
  have J:C.toArray[m]=w:=by
   have:=(iJ.mp B).2
   simpa using this
  have a:=h_.mp i _ (E_ f);rw[J,Ar F a];show L m _ o E
 have a:j<C.toArray.size:=by rw[B!];lia
 show call_meets PySem.F.slot_list_index (ae _ e rl) PySem.F.entry_list_index (PySem.F.args_list_index_2 _ _) (SeqAt.list_indexAt l C.toArray n none #[] u (Aq y) j a (by lia) ?_ ?_) (bF e (λw o=>jf Y k r i w (by simpa using o)) ?_)
 .rw[c j a (Ξ _)];simp
 .intro m d E;rw[c m d (by lia)]
  show gm (by lia)
 .show aq (.int _) H (I.tok _) ⟨s.toks,rfl⟩ q
end
def Fd{X:Cx}{x:Str}{C:Addr}{l:Pos}(M:Gl X x)(d:X.mg x=some (.ref C))(J:193#("__debug__":Str):=by decide):72#(tC (.ref C)):=Ai M d rfl J
def Sx{K:cu}(X:K.In h)(G:166#h.Ns)(e:136#x=41#(.ref C))(q:PySem.W.excIn K C s w=true):
 OwnCls x C s w mg h:=by
 show⟨PySem.W.mg_of X G e,?_⟩;unfold PySem.W.excIn at q
 split at q
 .rename_i m cd i look
  split at q
  .rename_i Cx g f k d c t j v a
   simp only[N!,P?,Bool.not_eq_true']at q;obtain⟨⟨⟨⟨⟨rfl,rfl⟩,o⟩,n⟩,D⟩,b⟩:=q;obtain⟨S,W,y,z,p,J,u,sub,H,F,del⟩:=cd
   (dsimp only at v o D b;subst v o)
   have r:i = #[f,k,d,c,some (.builtin t),j]:=by
    obtain⟨l⟩:=i;simp only at a;rw[a]
   subst r;show pA g z S p W J u (pA sub H F m f k d (aV c j _ (X _ _ look) (.of_isNs (PySem.W.isNs_of_in X D)) (PySem.W.nsMap_none_of_in X D b) (PySem.W.tail_of_in X n)))
  .cases q
 .cases q
def Sy{K}(h:PySem.W.hasDictIn K C=true):(PySem.W.clsIn K C).isSome=true:=by
 show af (λcd e _=>?_) (PySem.W.any_some h)
 rw[e];rfl
def Pj{m:Type}:∀g:List m,g.length=1->∃a,g=[a]
 | [_],_=>197#0
def Vs{m:Type}:∀g:List m,g.length=2->∃a b,g=[a,b]
 | [_,_],_=>gR _ _ rfl
def Vt{m:Type}:∀g:List m,g.length=3->∃a b c,g=[a,b,c]
 | [_,_,_],_=>eE _ _ _ rfl
def Vu{m:Type}:∀g:List m,g.length=4->∃a b c d,g=[a,b,c,d]
 | [_,_,_,_],_=>⟨_,(eE _ _ _ rfl)⟩
structure sD(ea:Addr)(k:Nat)(A:Around):Prop where
 hd:A.handled=30#ea
 dp:A.depth+3*k+5<recursionLimit
 un:A.units+16*k+200<cLine
def dF.mark(r:dF k A)(ea):sD ea k (A.mark (30#ea)):=⟨rfl,r.dp,r.un⟩
def sD.deeper(r:sD L (k+1) A)(env):sD L k (A.deeper env) :=
 ⟨r.hd,by have:=r.dp;change A.depth+1+3*k+5<_;lia,by have:=r.un;change A.units+3+16*k+200<_;lia⟩
structure WS(ea:Addr)(P:Program)(w:World)(K:cu)(mg:xA)(base:Heap)(k:Nat)(f:Addr)(fd:FuncData)(ps:List Str)(sp:Sp):Prop where
 len:61#ps.length
 run:∀(A:Around) (outer:List Env) (s:Shared) (H:Hp) (args:Args) (us:70#0) (vs:List V) (Q:VK) (E:XK),sD ea k A->Al P w K mg base A outer s H->BindsTo s fd args (ps.zip us)->υ vs us->sp vs H Q E->
  codeAny (model P w) A (.call (.ref f) args) (CR rA outer P w H s Q E) s
def WT(P:Program)(w:World)(K:cu)(mg:xA)(base:Heap)(N:List Str)(B:Str)(scope:Scope)(f:Addr)(cd:Value)(A:Around)(outer:List Env)(s:Shared)(H:Hp)(E:XK):Cx :=
 { nZ rA P w K mg base N B scope f cd { A with handled:=none} outer s H E with A:=A.deeper (65#cd),calm:=false,xe:=51#0}
def Sz{K:cu}{b kV X e d ct oc:Value}
 (c:K.lookup f=some ⟨oc,m,.func (PySem.W.fnOf name B l a scope b kV X e R d ct),g⟩) (j:PySem.W.codeIn K d B=true) (S:dH N i scope)
   (len:61#i.length)
   (p:∀A outer s H vs Q E,sD L k (A.deeper (65#d))->sp vs H Q E->
    67#(pY (WT P w K mg base N B scope f d A outer s H E) a t)) :
   WS L P w K mg base (k+1) f (PySem.W.fnOf name B l a scope b kV X e R d ct) i sp:=by
  show⟨len,λA outer s H a g vs Q E C U O r h=>?_⟩
  have l:=len _ _ _ _ h;have a:=U.mod.OY.keeps λb o e=>(U.bs b o e).1
  have u:=U.mod.nolimit.keeps λb o e=>(U.bs b o e).1
  have b:∀y∈i.zip g,101#y.1\/(scope.names.lookup y.1=some .cell/\((cellsFrom (40#0) scope.names []).lookup y.1).isSome=true):=λ⟨n,v⟩ m=>by
   rcases S.par n (_Y m).1 with q|q
   .show .inl q
   .show .inr ⟨q,adf _ _ _ (.inl q)⟩
  show codeAny_call_function (by have:=C.dp;lia) (a _ _ c) rl S.co S.gen rl (PySem.W.codeRec_of a j) (O _ _ _ _ ?_)
  show wpAny_newFunctionEnv_cells S.kind b λa T j x=>?_
  subst T;show⟨u.keeps x.toInCall.keep,codeAny_func ?_⟩;show af (λt b D=>?_) (p A outer s H vs Q E (C.deeper _) h)
  have a:Al P w K mg base { A with handled:=none} outer s H:=⟨U.frames,U.mod,U.bs,U.Ll,U.funs,U.Lv,U.hok,U.bare⟩
  have h:θ (nZ rA P w K mg base N B scope f d { A with handled:=none} outer s H E) [] (start N vs) H j:=yF S rl a l r x
  have I:θ (WT P w K mg base N B scope f d A outer s H E) [] (start N vs) H j:=by
   have z:=h.xG (A':=A.deeper (65#d)) (cm:=false) (Pb:=51#0) rl 121#0 λp M=>M
   show z
  show p! (b [] j (start N vs) H _ I D) (λz Z W=>?_) λe Z W=>W.elim
  have F:∀{p:St} {Y:Hp} {v:V} {u:Value},θ (WT P w K mg base N B scope f d A outer s H E) [] p Y Z->Δ v u->Q v Y->CE outer P w H s Q u Z :=
   λ{p Y v u} J G q=>bf v Y J.os (dD J.bare J.base J.hok G q)
  cases z with
  | ret u =>
    revert W;show eu λv p Y J G q=>?_
    show F J G q
  | next =>
    revert W;show bh λp Y J q=>?_
    show F (v:=V.eM) J rl q
  | brk =>
    revert W;show bh λ_ _ _ q=>?_
    show 147#q
  | cont =>
    revert W;show bh λ_ _ _ q=>?_
    show 147#q
def Cg.okH{K}{st}(F:Cg K x B st f fd)(S:dH N i (aQ st))
 (len:61#i.length)
 (M:∀d A outer s H vs Q E,sD L k (107#B)->sp vs H Q E->
  67#(pY (WT P w K mg base N B (aQ st) f d A outer s H E) (cO st) t)):WS L P w K mg base (k+1) f fd i sp:=by
 show gb (λl m kV X=>dO λz R d j n g c p=>?_) F.ex;subst g
 show Sz c p S len λA outer s H vs Q E C y=>M d A outer s H vs Q E C y
section
variable {X:Cx}{ea:Addr}{k:Nat}{f:Addr}{fd:FuncData}{ps:List Str}{sp:Sp}{BZ:List V}{ds:70#0}{x:Str}{p pos:Pos}{e:Expr}{es:List Expr}{t:TA}
def Me(F:WS ea X.prog X.w X.K X.mg X.base k f fd ps sp)(C:sD ea k X.A)(M:Gl X x)(d:X.mg x=some (.ref f))(Y:68#X.K)(O:Binds X.K fd ps ds)(J:υ BZ ds)
 (E:PA X (e::es) t) (v:193#("__debug__":Str):=by decide) (T:9#(e::es)=25#e::9#es:=by rfl) (b:(179#9#es).any (·.1)=false:=by rfl) :
 PE X (.Call (.Name x p) (e::es) [] pos) (Ca sp BZ (λ_ _ _=>False) t):=by
 show 47;show 174#(kQ I M d ?_ v);show A_ I.ok.mod.OY Y (c6 (E pos S s U H _ I h) λg j=>aD λc N A r q=>⟨A.pB,?_⟩) T b
 have a:=r.append J;have P:29#(g++ds)=ps.length:=by rw[<-a.length];show F.len _ _ _ _ q
 show wpAny_call (codeAny_mono (F.run X.A X.stack j N ⟨g,[]⟩ (g++ds) (c++BZ) Q _ C A.O2 (O j g A.pB P) a q) λr Z D=>?_)
 cases r with
 | error e=>show 147#D
 | ok w =>
   cases w with
   | ret u=>show A.after D
   | next=>show 147#D
   | brk=>show 147#D
   | cont=>show 147#D
end
section
variable   {A:Around}  {s:Shared}
def xH:entryFor table "proto.unchain"=some Builtin.«proto.unchain»:=entryFor_of_fast (by kernel_rfl)
def Fe(k:A.handled=some (.ref L))(ne:L≠e)(U:s.heap.get? e=some a)(h:178#vs)(hz:2<vs.size)(R:XJ L s.heap)
 (q:E (.ref e) { s with heap:=s.heap.update e (Obj.mapFields (·.setIfInBounds 2 (.ref L)))}):52#(raiseNew (.ref e):Sem m):=by
 revert R;show aD λu W f n r=>?_
 rw[raiseNew];show aU (wpAny_handled ?_);rw[k];dsimp only;rw[ο (by simp[ne])]
 show aU (F! (wpAny_runValue (158#xH)));show aU (wpAny_field f n r ?_);show aU (Θ ?_);show Θ ?_;show aU (wpAny_setField U h hz (wpAny_throw q))
end
section
variable  {pq:cF}{σ:St}   {h' : Heap}
def θ.yields{a:214#0}{T:Addr}(I:5#s)(k:∀b u,b∉a->16#u->126#u)(F:∀b∈a,pC X pq H b)(j:180#T)
 (Q:dm X.prog X.w (η H T o) h' T o):θ X pq σ (η H T o) 217#0:=by
 have g:=I.hok.fresh j;have x:∀b u,H b=some u->b≠T:=λb u e=>bj e g
 have t:∀b u,H b=some u->b∉a:=λb u e O=>by rw[(F b O).1]at e;cases e
 show I.step (λb O=>?_) (λb o _ _ L e _=>k b o L e) (λb o _ _ L e _=>⟨o.slots,k b o L e⟩) (λb u L e n=>?_)
  (λb o L e=>⟨o,k b o L e⟩) (λb f e=>?_) (λb c f e=>?_) (λb i e=>⟨#[],?_⟩) (λm d=>?_) (λb u e=>?_) I.bare
 .show eV (λ_ y _ l R Z=>?_) (F b O)
  show e7 l y R Z
 .rw[ao (n! (t! (a! e) j))];show n
 .rw[ao (x b _ e)];show e
 .rw[ao (x b _ e)];show e
 .rw[ao (x b _ e),e];simp
 .revert d;show cQ λo W E Y r=>?_
  show bZ o W E (k _ o (λO=>(F _ O).2.1 rl) Y) r
 .by_cases O:b=T
  .subst O;rw[aa]at e;cases e;show Q
  .rw[ao O]at e;show(I.hok b u e).stay (λc v L q=>k c v ?_ q) (λc q=>150#(x c _ q)) λc f q=>150#(x c _ q)
   rcases L with z|z
   .rw[z];show t b u e
   .show t c _ z
def θ.Pk{a:214#0}(I:5#s)(k:∀b u,b∉a->16#u->126#u)(F:∀b∈a,pC X pq H b):5#217#0:=by
 have t:∀b u,H b=some u->b∉a:=λb u e O=>by rw[(F b O).1]at e;cases e
 show I.step (λb O=>?_) (λb o _ _ L e _=>k b o L e) (λb o _ _ L e _=>⟨o.slots,k b o L e⟩) (λ_ _ _ _ n=>n)
  (λb o L e=>⟨o,k b o L e⟩) (λ_ _ e=>e) (λ_ _ _ e=>e) (λb i e=>⟨#[],by rw[e];simp⟩) (λm d=>?_) (λb u e=>?_) I.bare
 .show eV (λ_ y _ l R Z=>?_) (F b O)
  show e7 l y R Z
 .revert d;show cQ λo W E Y r=>?_
  show bZ o W E (k _ o (λO=>(F _ O).2.1 rl) Y) r
 .show(I.hok b u e).stay (λc v L q=>k c v ?_ q) (λ_ q=>q) λ_ _ q=>q
  rcases L with z|z
  .rw[z];show t b u e
  .show t c _ z
end
section
variable {prog:Program}{w:World}{A:Around}{E:xw}{s:Shared}
set_option maxHeartbeats 1000000 in
def Js{Q:xw}
 (f:IsEnum s.heap a e c I) (x:s.heap.IsListIter e p i) (U:s.heap.IsList p C) (H:C[i]?=some h) (apart:a≠e)
 (m:∀h',IsEnumOut h' a e (c+1) h s.heap.objs.size->h'.IsListIter e p (i+1)->23#h'.get?=some { cls:=.type "tuple",data:=.seq #[.int c s.toks,h]}->h'.objs.size=40#0->
  (∀b o,b≠a->b≠e->16#o->48#h'.get?)->Q (23#.ref) { s with heap:=h',toks:=s.toks+1}) :
 wpAny 21#w A (Builtin.«enumerate.__next__» ⟨[.ref a],[]⟩) (λF Z=>∃v,F = .done (.ret v)/\Q v Z) E s:=by
 obtain⟨z,g,d,j,os⟩:=s;have r:=a! f;have u:e<z.objs.size:=by revert x;show af λ_ q _=>?_;show a! q
 change wpAny _ _ (field (.ref a) 2 >>= _) _ _ _;show aU (wpAny_field f rl rl (aU (wpAny_nextOf_list_item x U H λl p L=>?_)))
 have X:=L.1;have B:=(L.2 a apart).trans f;show aU (wpAny_field B rl rl ?_);show aU (wpAny_field B rl rl ?_);show aU (wpAny_mkInt (aU (wpAny_setField_rec B 22#0 λP Y d=>aU (wpAny_setField_rec Y 22#0 λg W f=>aU (wpAny_newTuple ?_)))))
 have R:=Heap.SameBut.trans d f;have k:=R.1.trans X;have y:=c! ({ cls:=.type "tuple",data:=.seq #[.int c j,h]}) W;show aU (aU (wpAny_field y rfl rfl (Θ ?_)));show aU (wpAny_rule (aU (wpAny_field y rfl rfl (aU (wpAny_setField_rec y 22#0 λt d h=>aU (aU (wpAny_setField_rec d 22#0 λu f j=>wpAny_setField_rec f 22#0 λO g n=>aU (wpAny_letGo (Θ (ae _ rfl ?_))))))))))
 have G:=(Heap.SameBut.trans h j).trans n;have N:∀b o,b≠a->48#l.get?->48#O.get?:=λb o n q=>(G.2 b n).trans (c! _ ((R.2 b n).trans q))
 have S:=g;rw[k]at S;rw[k];show m O S ?_ ?_ ?_ λb o J T q=>N b o J ((L.2 b T).trans q)
 .show aA (λD m M t=>?_) (id p)
  show au D (N e D (e! apart) m) M t
 .show(G.2 _ (j? r)).trans ?_;rw[<-k];show v! _ rfl
 .rw[G.1];rw[Z?,k]
def Jt
 (f:IsEnum s.heap a e c I) (x:s.heap.IsListIter e p i) (U:s.heap.IsList p C) (H:C[i]?=some h) (apart:a≠e)
 (d:∀h',IsEnumOut h' a e (c+1) h s.heap.objs.size->h'.IsListIter e p (i+1)->23#h'.get?=some { cls:=.type "tuple",data:=.seq #[.int c s.toks,h]}->h'.objs.size=40#0->
  (∀b o,b≠a->b≠e->16#o->48#h'.get?)->Q (some (23#.ref)) { s with heap:=h',toks:=s.toks+1}):52#(pyNext (.ref a)):=by
 have l:s.TypeIs (.ref a) "enumerate":=ae _ f rfl;rw[pyNext];show aU (wpAny_attempt (wpAny_callSpecial?_slot l F.slot_enumerate_next (wpAny_call_entry F.slot_enumerate_next l F.entry_enumerate_next (Js f x U H apart λh' g u j q r=>Θ (d h' g u j q r)) (F.args_enumerate_next_1 _))))
def Mf(k:A.handled=none)(f:IsEnum s.heap a e c I)(x:s.heap.IsListIter e p i)(U:s.heap.IsList p C)(J:C[i]?=none)
 (d:∀h',Heap.ExtBut e s.heap h'->153#none):52#(pyNext (.ref a)):=by
 have l:s.TypeIs (.ref a) "enumerate":=ae _ f rfl;rw[pyNext];show aU (wpAny_attempt (wpAny_callSpecial?_slot l F.slot_enumerate_next (wpAny_call_entry F.slot_enumerate_next l F.entry_enumerate_next ?_ (F.args_enumerate_next_1 _))));change wpAny _ _ (field (.ref a) 2 >>= _) _ _ _;show aU (wpAny_field f rfl rfl (aU (wpAny_nextOf_list_end k x U J λh' P n R=>?_)))
 revert R;show af λo Y L=>?_
 show aU (wpAny_isInstance (ae o Y L) isSubtype_stop (Θ (d _ n)))
end
def Ju(K:cu)(z:Int)(a:Addr):It :=
 ⟨λi H=>∃f x,aI K H a f/\f[i]?=some x,λi H v Y=>∃T x,v = .ref T/\H T=none/\Y=η H T (.tup [.int ((i:Int)+z),x])/\∀f,aI K H a f->f[i]?=some x,λi H=>∃f,aI K H a f/\f.length<=i⟩
def uS{K}(z:Int)(a e it)(n:e≠it):
 Turn P w K (.Tuple b k l) (Ju K z a) [e,it] e (λi h=>(∃old,IsEnum h e it ((i:Int)+z) old)/\h.IsListIter it a i) where
 mem:=by simp
 obj:=λi h st b O=>by
  revert st;show Ah λf=>aA λo l c d=>?_;obtain⟨old,T⟩:=f
  have Q:b=e\/b=it:=108#0
  rcases Q with rfl|rfl
  .show ae _ T λv y=>by cases y
  .show ae o l λv y=>by rw[d]at y;cases y
 keep:=λi h N st k=>by
  obtain⟨⟨old,T⟩,d⟩:=st;show⟨⟨old,k e 22#0 _ T⟩,d.at λo x=>k it 22#0 o x⟩
 item:=by
  intro X g k J L i S s U H E I F st M;subst g k J
  revert M;show bh λf x D B=>?_
  show 130#(λC G p m=>?_)
  show af (λu c ru=>?_) (G.get B)
  obtain⟨⟨old,T⟩,d⟩:=st;show Jt T d p.isList (by simpa using c) n λZ l SA j q Y=>?_
  show ae _ rl (wpAny_letOwnedTupleGo_enum l λR A r=>?_)
  have c:=j? (a! T);have l:=(r.2 _ c).trans j;show cI (23#.ref) (η H s.heap.objs.size (.tup [.int (i+z),x])) (I.yields (λb o O q=>?_) F (Ξ _) ?_) rl (bC _ x rl I.fresh rl (λv W=>by rw[I.mh W D];show B)) ⟨⟨u,by rwa [95#(18#(i+1)+z=(i:Int)+z+1)]⟩,?_⟩ λb O=>?_
  .have t:b≠e:=λy=>O (by simp[y])
   have Q:b≠it:=λy=>O (by simp[y])
   show(r.2 b t).trans (Y b o t Q q)
  .show bR (dl rl) [.int ((i:Int)+z) s.toks,u] (.cons 197#0 117#ru) (ae _ l (cD rl _ rl))
  .show SA.at λo q=>(r.2 it (e! n)).trans q
  .rw[ao]
   .show(F b O).1
   .have Q:b=e\/b=it:=108#0
    rcases Q with rfl|rfl
    .show e! c
    .revert d;show af λo q _=>?_
     show n! (a! q)
 done:=by
  intro X g k J L i S s U H E I F st M;subst g k J
  revert M;show af λf D B=>?_
  show 130#(λC G p m=>?_)
  obtain⟨⟨old,T⟩,d⟩:=st;show eV (λt y Q c R Z=>?_) (F it 22#0)
  have j:=G.length;show Mf (I.ok.hd L) T d p.isList (by simp;lia) λN q=>34#(I.turned (λb o O e=>q b o O e) t y c R Z)
 self:=λ_ _ _ _ _ st h=>by
  obtain⟨⟨old,T⟩,_⟩:=st;show wpAny_pyIter_enum T h
abbrev Vv(K:cu)(a:Addr):It:=Ju K 0 a
def XR(K:cu)(a b:Addr):It :=
 ⟨λi H=>∃f c x y,aI K H a f/\aI K H b c/\f[i]?=some x/\c[i]?=some y,
  λi H v Y=>∃T x y,v = .ref T/\H T=none/\Y=η H T (.tup [x,y])/\(∀f,aI K H a f->f[i]?=some x)/\∀c,aI K H b c->c[i]?=some y,
  λi H=>∃f c,aI K H a f/\aI K H b c/\(f.length<=i\/c.length<=i)⟩
def Mg{K}(a b z TI TO i1 i2)(D:ZipApart z TI TO i1 i2 a b):
 Turn P w K (.Tuple elts k pos) (XR K a b) [z,TI,TO,i1,i2] z (λi h=>IsZip h z TI TO .none/\IsPair h TI (.ref i1) (.ref i2)/\(∃u v,IsPair h TO u v)/\h.IsListIter i1 a i/\h.IsListIter i2 b i) where
 mem:=by simp
 obj:=λi h st c L=>by
  revert st;show iI λm T r t=>aA λo2 ho2 _ d2=>?_;obtain⟨u,v,hO⟩:=r;obtain⟨o1,Uz,_,d1⟩:=t
  have Q:c=z\/c=TI\/c=TO\/c=i1\/c=i2:=by simpa using L
  rcases Q with rfl|rfl|rfl|rfl|rfl
  .show ae _ m 198#0
  .show ae _ T 198#0
  .show ae _ hO 198#0
  .show ae o1 Uz λv z=>by rw[d1]at z;cases z
  .show ae o2 ho2 λv z=>by rw[d2]at z;cases z
 keep:=λi h N st k=>by
  revert st;show iI λm T Vw Z R=>?_;obtain⟨u,v,hO⟩:=Vw
  show dD (k z 22#0 _ m) (k TI 22#0 _ T) (gR u v (k TO 22#0 _ hO)) (Z.at λo e=>k i1 22#0 o e) (R.at λo e=>k i2 22#0 o e)
 item:=by
  intro X g hw J L i S s U H E I F st M;subst g hw J
  revert M;show gF λf ys=>aY λx y hq hq2 B W=>?_
  show aA (λC G p hzl=>?_) (I.list hq)
  show aA (λits2 XS p2 XT=>?_) (I.list hq2)
  show af (λu hu ru=>?_) (G.get B)
  show af (λu2 hu2 ru2=>?_) (XS.get W)
  revert st;show iI λm T O Z R=>?_;obtain⟨v1,v2,hO⟩:=O
  show wpAny_pyNext_zip_item D m T hO Z R p.isList p2.isList (by simpa using hu) (by simpa using hu2) λl hz3 hO3 h13 h23 j hsz Y=>?_
  show ae _ rl (wpAny_letOwnedTupleGo_zip hz3 λA hz4 n=>?_)
  have d:∀{c o},s.heap.get? c=some o->s.heap.objs.size≠c:=λe=>j? (a! e)
  have hT4:=(n.2 _ (d m)).trans j;have kk:∀c o,c∉[z,TO,i1,i2]->s.heap.get? c=some o->A.get? c=some o:=λc o L q=>by
   have c1:c≠z:=λe=>L (by simp[e])
   show(n.2 c c1).trans (Y c o c1 (λe=>L (by simp[e])) (λe=>L (by simp[e])) (λe=>L (by simp[e])) q)
  have hsub:∀c∈[z,TO,i1,i2],c∈[z,TI,TO,i1,i2]:=λc L=>by
   have Q:c=z\/c=TO\/c=i1\/c=i2:=by simpa using L
   rcases Q with rfl|rfl|rfl|rfl<;>simp
  show cI (23#.ref) (η H s.heap.objs.size (.tup [x,y])) (I.yields kk (λc L=>F c (hsub c L)) (Ξ _) ?_) rl (cg _ x y rl I.fresh rl (λzs W=>by rw[I.mh W hq];show B) (λzs m=>by rw[I.mh m hq2];show W)) (dD hz4 ((n.2 _ D.TIz).trans (Y _ _ D.TIz D.TITO D.TIi1 D.TIi2 T)) (gR u u2 ((n.2 _ D.TOz).trans hO3)) ?_ ?_) λc L=>?_
  .show bR (dl rl) [u,u2] (.cons ru 117#ru2) (ae _ hT4 (cD rl _ rl))
  .show h13.at λo q=>(n.2 _ D.i1z).trans q
  .show h23.at λo q=>(n.2 _ D.i2z).trans q
  .rw[ao]
   .show(F c L).1
   .have Q:c=z\/c=TI\/c=TO\/c=i1\/c=i2:=by simpa using L
    rcases Q with rfl|rfl|rfl|rfl|rfl
    .show e! (d m)
    .show e! (d T)
    .show e! (d hO)
    .revert Z;show af λo q _=>?_
     show e! (d q)
    .revert R;show af λo q _=>?_
     show e! (d q)
 done:=by
  intro X g hw J L i S s U H E I F st M;subst g hw J
  revert M;show aD λf ys hq hq2 B=>?_
  show aA (λC G p hzl=>?_) (I.list hq)
  show aA (λits2 XS p2 XT=>?_) (I.list hq2)
  revert st;show iI λm T XU Z R=>?_;obtain⟨v1,v2,hO⟩:=XU
  have hl:=G.length;have hl2:=XS.length;have hsub:∀c∈[z,TO,i1,i2],c∈[z,TI,TO,i1,i2]:=λc L=>by
   have Q:c=z\/c=TO\/c=i1\/c=i2:=by simpa using L
   rcases Q with rfl|rfl|rfl|rfl<;>simp
  show wpAny_pyNext_zip_end (I.ok.hd L) D m T hO Z R p.isList p2.isList (B.imp (λq=>by simp;lia) λq=>by simp;lia) λN kk=>34#(I.Pk (λc o L q=>?_) λc L=>F c (hsub c L))
  show kk c o (λe=>L (by simp[e])) (λe=>L (by simp[e])) (λe=>L (by simp[e])) (λe=>L (by simp[e])) q
 self:=λ_ _ _ _ _ st h=>wpAny_pyIter_zip st.1 h
def Jv{n a b:Nat}(i:a<n)(e:b<n):ZipApart (n+4) (n+2) (n+3) n (n+1) a b:=by
 have k:∀{x y:Nat},x<y\/y<x->x≠y:=λh=>by lia
 constructor<;>show k (by lia)
section
variable {X:Cx}{elts:List Expr}{n:Nat}{tp:Pos}
def Vx(K:cu)(z:TA):TI:=λU H R=>z U H λF N=>∃a,F=[.ref a]/\(∃f,aI K N a f)/\R (Vv K a) N
def XW(K:cu)(z:TA):TI:=λU H R=>z U H λF N=>∃a b,F=[.ref a,.ref b]/\(∃f,aI K N a f)/\(∃v,aI K N b v)/\R (XR K a b) N
def ua(K:cu){a:Expr}{z:TA}{p l:Pos}(M:Gl X "enumerate")(d:X.mg "enumerate"=none)(E:PA X [a] z)(W:9#([a])=[25#a]:=by rfl)(i:X.K=K:=by rfl):
 PI X (.Tuple elts n tp) (.Call (.Name "enumerate" p) [a] [] l) (Vx K z):=by
 subst i;intro S s U H R I h;show Call_ (jO I M d boot_enumerate (s_ (c6 (E l S s U H _ I h) λg j=>aD λF N A J t=>?_) W rl))
 revert t;show aA λa e P q=>?_;obtain⟨f,D⟩:=P
 subst e;cases J with
 | cons r y =>
   cases y;cases r;show aA (λC G k m=>?_) (A.list D)
   show call_enumerate_list k.isList λu T o x Y=>?_
   have L:=A.kept (t':=j.toks) Y;show wpAny_pyIter_enum T (b9 _ [j.heap.objs.size+1,j.heap.objs.size] _ _ N rl L (uS 0 a _ _ (_a _)) ⟨⟨_,T⟩,o⟩ (λb O=>?_) q)
   have Q:b=j.heap.objs.size+1\/b=j.heap.objs.size:=108#0
   have c:j.heap.objs.size<=b:=by
    rcases Q with rfl|rfl
    .show Q! _
    .show Ξ _
   show A.xC c (A.hok.fresh c)
def Az(K:cu){a b:Expr}{z:TA}{p l:Pos}(M:Gl X "zip")(d:X.mg "zip"=none)(E:PA X [a,b] z)(W:9#([a,b])=[25#a,25#b]:=by rfl)(c:9#([b])=[25#b]:=by rfl)(e:X.K=K:=by rfl):
 PI X (.Tuple elts n tp) (.Call (.Name "zip" p) [a,b] [] l) (XW K z):=by
 subst e;intro S s U H R I h;show Call_ (jO I M d boot_zip (s_ (c6 (E l S s U H _ I h) λg j=>aD λF N A J i=>?_) (by rw[W,c]) (by rw[c];rfl)))
 revert i;show aY λa b e t c q=>?_;obtain⟨f,D⟩:=t;obtain⟨v,B⟩:=c
 subst e;cases J with
 | cons r y =>
   cases y with
   | cons c y =>
     cases y;cases r;cases c;show aA (λC G k m=>?_) (A.list D)
     show aA (λw O P c=>?_) (A.list B)
     show call_zip_2 k.isList P.isList λc d T o Z f x Y=>?_
     have e:=A.kept (t':=j.toks) Y;have i:a<j.heap.objs.size:=by show af (λ_ q _=>?_) k.isList;show a! q
     have g:b<j.heap.objs.size:=by show af (λ_ q _=>?_) P.isList;show a! q
     show wpAny_pyIter_zip d (b9 _ [j.heap.objs.size+4,j.heap.objs.size+2,j.heap.objs.size+3,j.heap.objs.size,j.heap.objs.size+1] _ _ N rl e (Mg a b _ _ _ _ _ (Jv i g)) (dD d T (gR _ _ o) Z f) (λc L=>?_) q)
     have Q:c=j.heap.objs.size+4\/c=j.heap.objs.size+2\/c=j.heap.objs.size+3\/c=j.heap.objs.size\/c=j.heap.objs.size+1:=by simpa using L
     have u:j.heap.objs.size<=c:=by
      rcases Q with rfl|rfl|rfl|rfl|rfl
      .show F_ _ _
      .show F_ _ _
      .show F_ _ _
      .show Ξ _
      .show F_ _ _
     show A.xC u (A.hok.fresh u)
end
section
variable {K:cu}  {xs ys:List V}{g:TG}{tt:TT}{te:TE}{n:Nat}{fr:St}{D:Addr}{Q:Hp->Prop}{H1:Hp}
def yI{z:Int}{tb:TS}{D:Ends}(d:81#St)(o:d 0 U H)(P:∀i U H,i<=xs.length->d i U H->aI K H a xs)
 (b:∀i x T U H,xs[i]?=some x->d i U H->H T=none->g (.ref T) U (η H T (.tup [.int ((i:Int)+z),x])) λt G=>tb { D with nx:=d (i+1),ct:=d (i+1),bk:=D.nx} t G) (J:∀U H,d xs.length U H->D.nx U H) :
 ∃W:Nat->81#St,(∃m,W 0 m U H)/\∀i m U H,W i m U H->
   ((Ju K z a).stop i H/\D.nx U H)\/((Ju K z a).go i H/\∃N:St->Hp->Prop,75#((Ju K z a).Ji i H x Y)):=by
 show 106#(λi m U H=>112#U)
 intro i m U H;show cW λc I p=>?_;subst c
 have q:=P i U H I p
 by_cases w:i<xs.length
 .show .inr (bR (bf xs (xs[i]) q (by simp[w])) (d (i+1)) (λk Y F=>113#F) (λv Y y=>?_))
  revert y;show aY λT x e j f y=>?_;subst e f
  show b i x T U _ (y xs q) p j
 .show 206
  subst e;show .inl ⟨ae xs q (Ξ _),J U H p⟩
def uT{tb:TS}{D:Ends}(d:81#St)(o:d 0 U H)(P:∀i U H,i<=xs.length->d i U H->aI K H a xs)
 (b:∀i x T U H,xs[i]?=some x->d i U H->H T=none->g (.ref T) U (η H T (.tup [.int i,x])) λt G=>tb { D with nx:=d (i+1),ct:=d (i+1),bk:=D.nx} t G) (J:∀U H,d xs.length U H->D.nx U H) :
 ∃W:Nat->81#St,(∃m,W 0 m U H)/\∀i m U H,W i m U H->
   ((Vv K a).stop i H/\D.nx U H)\/((Vv K a).go i H/\∃N:St->Hp->Prop,75#((Vv K a).Ji i H x Y)):=yI d o P b J
def qg(h:xs.length=ys.length)(d:81#(List V))(o:d 0 [] H1)(P:∀i M H,i<=xs.length->d i M H->aI K H a xs/\aI K H b ys/\118#H)(hz:36#xs.length)
 (W:∀i x y T M H,xs[i]?=some x->ys[i]?=some y->d i M H->H T=none->g (.ref T) (73#n++fr) (η H T (.tup [x,y])) λt G=>t.drop n=fr/\tt t G λb u =>
  if b=true then te t u λv c=>11#c/\d (i+1) (M++[v]) (η c D 69#(M++[v])) else d (i+1) M u)
 (J:∀M H,d xs.length M H->Q H):gn (XR K a b) g tt te n fr D Q H1:=by
 show 106#(λi m M H=>112#M)
 intro i m M H;show cW λr I p=>?_;subst r
 show jM (λq R S E=>?_) (P i M H I p)
 show⟨S,?_⟩
 by_cases w:i<xs.length
 .have f:i<ys.length:=by lia
  show .inr (aX ⟨xs,(aV ys (xs[i]) (ys[i]) q R (by simp[w]) (by simp[f]))⟩ (by lia) (d (i+1)) (λl Y F=>113#F) (λv Y y=>?_))
  revert y;show bO λT x z k j e s A=>?_;subst k e
  show W i x z T M _ (s xs q) (A ys R) p j
 .show 206
  subst e;show .inl ⟨aq xs ys q R (.inl (Ξ _)),J M H p⟩
end
section
variable {X:Cx}
def Cn:fB X (.type "range") (λxs H Q=>∃j:Int,xs=[.int j]/\∀p,H p=none->Q (.ref p) (η H p (.Lk 0 j))):=by
 show 185
 revert h;show af λj f q=>?_;subst f
 show 164#(λu a=>eg λt c=>?_);subst a c
 show call_range_1 (aq (23#.ref) _ (I.laid (λb o e=>c! _ e) (Ξ _) ?_) rl (q _ I.fresh))
 show eE _ _ _ (v! _ rl)
def xJ(n:Nat):List V:=(19#n).map λi=>V.int ((i:Nat):Int)
def Ri(L:X.calm=true):fB X (.type "list") (λxs H Q=>∃p,∃n:Nat,xs=[.ref p]/\H p=some (.Lk 0 (n:Int))/\n<=900/\∀l,H l=none->Q (.ref l) (η H l (.lst (xJ n)))):=by
 intro S s U H xs E Q I r h
 revert h;show aY λp n R w g q=>?_;subst R
 show 164#(λu O rx=>?_);subst O
 cases rx;show fy (λt u v e=>?_) (I.hok p _ w)
 have x:Builtin.Range.rangeSize 0 n 1=n:=by rw[rangeSize_one];split<;>lia
 show call_list_range (I.ok.hd L) e (small_one (by lia) (by lia) (by lia) (by lia)) x (b! g 7#0) λN C M c B D A=>?_
 show aq (23#.ref) _ (I.laid B (Ξ _) ?_) rl (q _ I.fresh);have P:M.toList.length=n:=by rw[f_];show A.1
 have m:36#(xJ n).length:=by
  unfold xJ;rw[χ,C!];show U! (eA (by lia))
 show aS m M.toList c ?_ (by simpa using D)
 have o:∀(d:70#0) (k:Nat),(∀j v,d[j]?=some v->∃t,v=Value.int (((k+j:Nat))) t)->υ ((List.range' k d.length).map λi=>V.int ((i:Nat))) d:=by
  intro d
  induction d with
  | nil=>intro k _;show .nil
  | cons y r G =>
    intro k W;obtain⟨t,f⟩:=W 0 y rfl;show .cons ⟨t,by simpa using f⟩ (G (k+1) λj v a=>?_)
    obtain⟨T,b⟩:=W (j+1) v (by simpa using a)
    show⟨T,by rw[b];congr 2;lia⟩
 have z:=o M.toList 0 λj v a=>by
  obtain⟨t,f⟩:=A.2 j v (by simpa using a)
  show⟨t,by rw[f];congr 1;lia⟩
 rw[P]at z;unfold xJ
 rwa [List.range_eq_range']
def sumK(K:cu)(L:X.calm=true)(d:X.K=K:=by rfl):fB X (.builtin "sum") (λxs H Q=>∃(p:Addr) (ns:List Int),xs=[.ref p]/\aI K H p (201#0)/\Q (.int ns.sum) H):=by
 subst d;show 185
 revert h;show aD λp ns c D q=>?_;subst c
 show 164#(λu f rx=>?_);subst f
 cases rx;show 130#(λC n k m=>?_)
 have e:∀{ns:List Int} {C:70#0},υ (201#0) C->∃xs:Array (Int×Tok),C.toArray=intItems xs/\xs.toList.map (·.1)=ns:=by
  intro ns
  induction ns with
  | nil=>intro C r;cases r;show ae (#[]) (by simp[intItems]) rfl
  | cons a l G =>
    intro C r;cases r with
    | cons J i =>
      obtain⟨t,rfl⟩:=J;show af (λxs Z R=>?_) (G i)
      show ae (#[(a,t)]++xs) ?_ (by simp[R])
      have b:=k! Array.toList Z;simp only[intItems,Array.toList_map,List.toList_toArray]at b;simp[intItems,b,Array.map_append]
 show af (λa t b=>?_) (e n)
 have P:=t▸k.isList;show sum_intListG (I.ok.hd L) P λN j T Y=>?_
 have R:preSum (numAt a) a.size=ns.sum:=by rw[preSum_eq,R_ 22#0,b]
 rw[R];show aq (.int ns.sum) H (I.kept Y) ⟨T,rfl⟩ q
end
def Co{g:70#0}{ns:List Int}(h:IntsAre g ns):υ (201#0) g:=by
 induction h with
 | nil=>show .nil
 | cons n t _ G=>show .cons ⟨t,rfl⟩ G
section
variable {X:Cx}
def sortedK(K:cu)(J:X.K=K:=by rfl):fB X (.builtin "sorted") (λxs H Q=>∃(p:Addr) (ns:List Int),xs=[.ref p]/\aI K H p (201#0)/\ns.length<64/\
 ∀(l:Addr) (N:List Int),H l=none->N.Perm ns->N.Pairwise (·<=·)->Q (.ref l) (η H l 69#(N.map V.int))):=by
 subst J;intro S s U H xs n Q I r h
 revert h;show aY λp ns f D g q=>?_;subst f
 show 164#(λu j rx=>?_);subst j
 cases rx;show 130#(λC G k m=>?_)
 have P:=G.length;rw[χ]at P;show PyProof.Rows.sorted_ints k.isList (intsAre_of G) (by lia) λa N b d c=>?_
 obtain⟨e,T⟩:=sortedAll_at s.heap C a;have i:=138#(Q! _);show aq (.ref (40#0)) _ (I.laid (λ_ _=>sortedAll_old) (Q! _) ?_) rl (q _ N i d c)
 show aS ?_ a.toList e (Co b) ?_
 .rw[χ,d.length_eq];show U! (eA (by lia))
 .have:a.toList.toArray=a:=by simp
  rwa [this]
end
end L2
namespace HT
open PySem PyProof.Rows
section
variable     {s:Shared}
def n5{lo hi}(n:IsTup s.heap t p)(W:s.heap.IsSliceOf i Y z .none)(k:IsPart Y lo)(y:IsPart z hi)
 (o:fX p.size 0 lo=0/\fX p.size p.size hi=p.size) (h:Q (.ref t) s):52#(getItem (.ref t) (.ref i)):=by
 show aA (λos a u b=>?_) (id W)
 have d:s.TypeIs (.ref i) "slice":=ae os a u;unfold getItem
 try with_reducible show F! ?_
 first | show 157#(Θ ?_) | skip
 show 157#(wpAny_sequenceKey n.typeIs 7#0 ?_)
 show wpAny_bind (wpAny_callSpecial?_slot n.typeIs q_
  (wpAny_call_entry q_ n.typeIs entry_tuple_getitem ?_ (args_tuple_getitem _ _)))
 show 172#(Builtin.Tuple.tupleItemsOf (.ref t) >>= _);show 157#(tupleItemsOf_ n ?_);show 157#(wpAny_typeOf d ?_);rw[ο 7#0]
 show 157#(j5 W k y ?_);have c:(18#(fX p.size 0 lo)==0&&(1:Int)==1&&(160#0)==p.size)=true:=by
  rw[o.1,o.2];simp
 show 172#(if(18#(fX p.size 0 lo)==0&&1==1&&(160#0)==p.size)=true then _ else _)
 rw[ο c];show wpAny_bind ?_;show 157#(wpAny_typeOf n.typeIs (Θ ?_));rw[ο 7#0]
 show 157#(wpAny_rule (Θ (ae _ rl (Θ h))))
end
end HT
namespace L2
open PySem PySem.Spec PyProof.Rows
def Vy:V->218#0->80#(218#0):=λx lo I H Q=>∃a f,x = .ref a/\215#(.tup f)/\∀p Y,ak H Y->Y p=15#(jt f lo I)->Q (.ref p) Y
def Vz:Uw X Vy:=by
 intro S s U H x v Y z lo d i Q I rx W k y h
 revert h;show aD λa f c B q=>?_;subst c
 cases rx;show aA (λC r n m=>?_) (I.tuple (aZ.of B))
 have E:C.toArray.size=f.length:=by rw[B!];show r.length.symm
 show aq "tuple" _ q_.lookup n.typeIs ?_
 by_cases o:HT.fX f.length 0 lo=0/\HT.fX f.length f.length d=f.length
 .show HT.n5 n W k y (by rw[E];show o) (aq (.ref a) H I rl (q a H (ak.refl _) ?_))
  unfold jt
  rwa [o.1,o.2,List.drop_zero,Nat.sub_zero,o!]
 .show HT.jy n W k y (by rw[E];show o) ?_ (by rw[E];show m)
  rw[E];show aq (23#.ref) _ (I.laid (λb T q=>c! _ q) (Ξ _) ?_) rl (q _ _ (ak.new (138#(Ξ _))) aa)
  show bR (b! (mz f lo d) m) _ ((r.drop (HT.fX f.length 0 lo)).take (HT.fX f.length f.length d-HT.fX f.length 0 lo)) (IsTup.new _ _)
end L2
namespace Ring
open PySem
abbrev fN:=Int×Int×Int
def bit(S:Int)(k:Nat):Bool:=13#(S/2^k%2=1)
def aW(S:Int):List Nat:=(19#(63#S)).filter (bit S)
def bump(e:List Int)(i:Int):List Int:=e.set i.toNat (e.getD i.toNat 0+1)
def step(J:List fN)(e:List Int)(k:Nat):List Int:=match J[k]? with
 | some t=>bump (bump e t.1) t.2.1
 | none=>e
def jT(p:Nat)(J:List fN)(S:Int):List Int:=(aW S).foldl (step J) (List.replicate p 0)
def mD(p:Nat)(J:List fN)(S:Int):List Nat:=(19#p).filter λi=>13#((jT p J S).getD i 0%2=1)
def ON(J:List fN)(k i:Nat):Int:=match J[k]? with
 | some t=>(if t.1=(i:Int) then 1 else 0)+(if t.2.1=(i:Int) then 1 else 0)
 | none=>0
def j7(e:List Int)(i:Int):29#(bump e i)=e.length:=by unfold bump;rw[H_]
def Mh(J:List fN)(e:List Int)(k:Nat):29#(step J e k)=e.length:=by
 unfold step
 split
 .rw[j7,j7]
 .rfl
def Cp(e:List Int)(j:Int)(i:Nat)(o:0<=j)(Z:j<e.length):(bump e j).getD i 0=e.getD i 0+if j=(i:Int) then 1 else 0:=by
 unfold bump;rw[u!,u!,u!]
 by_cases h:j=i
 .have I:j.toNat=i:=by lia
  rw[ο h,I,Q_ (by lia)]
  rfl
 .have I:j.toNat≠i:=by lia
  rw[ξ h,V_ I]
  lia
structure HU(p:Nat)(ts:List fN):Prop where
 ends:∀t∈ts,0<=t.1/\t.1<(p:Int)/\0<=t.2.1/\t.2.1<(p:Int)
def step_get(W:HU p J)(e:List Int)(k i:Nat)(T:e.length=p):(step J e k).getD i 0=e.getD i 0+ON J k i:=by
 unfold step ON;cases h:J[k]? with
 | none=>simp
 | some t =>
   show jM (λD S P o=>?_) (W.ends t (fP h))
   dsimp only;rw[Cp _ _ _ P (by rw[j7,T];show o),Cp _ _ _ D (by rw[T];show S)]
   lia
def rF(J:List fN)(M:List Nat)(i:Nat):Int:=(M.map λk=>ON J k i).sum
theorem Cq(W:HU p J)(i):∀M e,e.length=p->(M.foldl (step J) e).getD i 0=e.getD i 0+rF J M i
 | [],e,_=>by simp[rF]
 | k::r,e,he=>by
   rw[k_,Cq W i r _ (by rw[Mh,he]),step_get W e k i he]
   unfold rF;rw[l!,n_]
   lia
def Mi(W:HU p J)(S)(i):(jT p J S).getD i 0=rF J (aW S) i:=by
 unfold jT;rw[Cq W i _ _ 22#0]
 have e:(List.replicate p (0:Int)).getD i 0=0:=by
  rw[u!,O_]
  split<;>rfl
 rw[e]
 lia
def iz(m k:Nat):bit (m:Int) k=10#0:=by
 unfold bit;rw[Nat.testBit_eq_decide_div_mod_eq];have e:((m:Int)/2^k%2=1)↔(m/2^k%2=1):=by
  have R:(2^k)=18#(2^k):=by simp
  rw[R,<-Int.natCast_ediv]
  lia
 simp only[e]
def uU(m:Nat):63#(m:Int)=if m=0 then 0 else m.log2+1:=by
 unfold Builtin.Int.intBits
 by_cases h:m=0
 .simp[h]
 .simp[h]
def bits_le{m n:Nat}(h:m<2^n):63#(m:Int)<=n:=by
 rw[uU]
 split
 .show r! _
 .rename_i o
  show(p_ o).mpr h
def Cr{m k:Nat}(h:63#(m:Int)<=k):bit (m:Int) k=false:=by
 rw[iz];rw[uU]at h
 by_cases o:m=0
 .simp[o]
 .rw[ξ o]at h;show D? (t! Nat.lt_log2_self (R? 7#0 h))
theorem qh(f)(a):∀d,(∀k,a<=k->f k=false)->(19#(a+d)).filter f=(19#a).filter f
 | 0,_=>rfl
 | d+1,h=>by
   rw[<-Nat.add_assoc,B?,w?,qh f a d h];have e:[a+d].filter f=[]:=by rw[G!,ξ (by rw[h _ (by lia)];simp)];rfl
   rw[e,A?]
def eK{m n:Nat}(h:m<2^n):aW (m:Int)=(19#n).filter λk=>10#0:=by
 have O:=bits_le h;obtain⟨d,J⟩:=ac7 O;have e:=funext λk=>(iz m k).symm
 rw[e]
 conv=>rhs;rw[J]
 show(qh _ _ d λk Y=>Cr Y).symm
def gy{m n:Nat}(h:m<2^n)(Y:k∈aW (m:Int)):k<n:=by
 rw[eK h]at Y;show E!.mp (K!.mp Y).1
theorem sum_filter(ts)(i)(f):∀M:List Nat,rF ts (M.filter f) i=(M.map λk=>if f k=true then ON ts k i else 0).sum
 | []=>rfl
 | k::r=>by
   have G:=sum_filter ts i f r;rw[l!,n_,<-G];cases h:f k with
   | true =>
     rw[G!,ο h];unfold rF;rw[l!,n_];simp
   | false =>
     rw[G!,ξ (by rw[h];simp)]
     simp
def Mj(q:x/2+2*(y/2)=a/2+b/2)(h:x%2+2*(y%2)=a%2+b%2):x+2*y=a+b:=by lia
def mod_one(c:u=0\/u=1)(a:v=0\/v=1):(u^^^v)+2*(u&&&v)=u+v:=by
 rcases c with rfl|rfl<;>rcases a with rfl|rfl<;>rfl
def Pn:∀a b:Nat,(a^^^b)+2*(a&&&b)=a+b:=by
 intro a
 induction a using Nat.strongRecOn with
 | ind a G =>
   intro b
   by_cases h:a=0
   .subst h;simp
   .have q:=G (a/2) (by lia) (b/2)
    rw[<-Nat.xor_div_two,<-Nat.and_div_two]at q;show Mj q ?_;have t:(a^^^b)%2=a%2^^^b%2:=Nat.xor_mod_two_pow (n:=1);have U:(a&&&b)%2=a%2&&&b%2:=Nat.and_mod_two_pow (n:=1);rw[t,U];show mod_one (_j a) (_j b)
def xor_int(a b:Nat):Builtin.bitXor (a:Int) (b:Int)=18#(a^^^b):=by
 have h:a+b-2*((a&&&b:Nat))=18#(a^^^b):=by
  have q:=Pn a b
  lia
 have e:=PyProof.Rows.bitXor_and (a:Int) (b:Int);rw[e,adg (by lia) (by lia)]
 simpa using h
open PySem L2
def jU(t:fN):List V:=[.int t.1,.int t.2.1,.int t.2.2]
def TupAt(H:Hp)(x:V)(t:fN):Prop:=∃b,x = .ref b/\H b=15#(jU t)
structure bB(H:Hp)(w:Addr)(p:Nat)(ts:List fN):Prop where
 ex:∃b xs,H w=15#([.int (p:Int),.ref b])/\H b=15#xs/\Paired (TupAt H) xs ts
structure Ml(p:Nat)(ts:List fN):Prop where
 XX:HU p ts
 len:ts.length<=24
 XY:p<=10
def TupAt.tups(s:cK H Y)(h:TupAt H x t):TupAt Y x t:=by
 revert h;show af λb e h=>?_
 show ae b e (s _ _ h)
def bB.tups(s:cK H Y)(h:79#0):bB Y w p J:=by
 show aD (λb f Z R l=>?_) h.ex
 show⟨b,f,s _ _ Z,s _ _ R,Paired.imp' 77#s l⟩
def bB.same(s:ak H Y)(h:79#0):bB Y w p J:=h.tups s.tups
def aE(l:List Nat):List V:=l.map λk=>V.int ((k:Nat):Int)
def cH(l)(k):aE (l++[k])=aE l++[.int k]:=by unfold aE;rw[j!];rfl
def az(l:List Nat):(aE l).length=l.length:=by unfold aE;rw[χ]
def ck{i:Nat}(h:(aE l)[i]?=some x):∃k,l[i]?=some k/\x = .int k:=by
 unfold aE at h;rw[d!]at h;show af (λk e q=>?_) (nC.mp h)
 show ae k e q.symm
def dI(f)(i):(19#(i+1)).filter f=(19#i).filter f++(if f i=true then[i] else[]):=by
 rw[B?,w?]
 congr 1
 cases h:f i with
 | true=>rw[G!,ο h,ο rfl];rfl
 | false=>rw[G!,ξ (by rw[h];simp),ξ 22#0];rfl
def mE(f:Nat->Bool)(H:Hp)(D:Addr)(i:Nat)(M:List V)(G:Hp):Prop:=ak H G/\11#G/\M=aE ((19#i).filter f)
def mE.start(S:H D=none):mE f H D 0 [] 97#H:=bF (ak.new S) aa rfl
def mE.len(p:mE f H D i M G):118#G:=by
 show⟨p.2.1,?_⟩;rw[p.2.2,az];show b! (M! _ _) (by rw[C!];show Ξ _)
def mE.yes(p:mE f H D i M G)(S:H D=none)(s:ak G u)(F:f i=true):11#u/\mE f H D (i+1) (M++[.int i]) (η u D 69#(M++[.int i])):=by
 show e7 (s _ _ p.2.1) ((p.1.trans s).put S) aa ?_;rw[dI,ο F,cH,<-p.2.2]
def mE.no(p:mE f H D i M G)(s:ak G u)(F:f i=false):mE f H D (i+1) M u:=by
 show bF (p.1.trans s) (s _ _ p.2.1) ?_;rw[dI,ξ (by rw[F];simp),A?]
 show p.2.2
def dJ(J:List fN)(k:Nat):fN:=J.getD k (0,0,0)
def stepT(e:List Int)(t:fN):List Int:=bump (bump e t.1) t.2.1
theorem yJ{J:List fN}:∀(M:List Nat) e,(∀k∈M,k<J.length)->(M.map (dJ J)).foldl stepT e=M.foldl (step J) e
 | [],_,_=>rfl
 | k::r,e,h=>by
   rw[l!,k_,k_,yJ r _ λj D=>h j (jx _ D)]
   have Y:=h k g!;have t:J[k]?=some (dJ J k):=by
    unfold dJ;rw[u!];simp[Y]
   have U:step J e k=stepT e (dJ J k):=by
    unfold step stepT;rw[t]
   rw[U]
def yK{J:List fN}{m:Nat}(h:m<53#0):jT p J (m:Int)=((aW (m:Int)).map (dJ J)).foldl stepT (List.replicate p 0):=by
 unfold jT;rw[yJ _ _ λk Y=>gy h Y]
def Jw(e:List Int)(t:fN):29#(stepT e t)=e.length:=by unfold stepT;rw[j7,j7]
theorem rG:∀(l:List fN) e,29#(l.foldl stepT e)=e.length
 | [],_=>rfl
 | t::r,e=>by rw[k_,rG r,Jw]
def dh(l:List Int):List V:=l.map V.int
def ic{l:List Int}(h:i<l.length):(dh l)[i]?=54#(l.getD i 0):=by
 unfold dh;rw[d!,u!];simp[h]
def uV(l:List Int)(i:Nat):(dh l).set i (.int (l.getD i 0+1))=dh (bump l (i:Int)):=by
 unfold dh bump;rw[x!,List.map_set]
def Mm(p):(List.replicate p [V.int 0]).flatten=dh (List.replicate p 0):=by
 induction p with
 | zero=>rfl
 | succ p G=>rw[g_,Z_,G,g_];rfl
def nF(h:j<n):Lp n (j:Int)=some j:=by
 unfold Lp;rw[ο (by lia),ο (by lia),x!]
def pG(k:Nat):PyData:=.int k
theorem gp{K}:∀l:List Nat,DatVs K H (aE l) (l.map pG)
 | []=>.nil
 | _::r=>.cons (.int _) (gp r)
theorem Cs:∀l:List Nat,PyData.canLayAll0 (l.map pG)=true
 | []=>rfl
 | _::r=>by
   have G:=Cs r;simp only[l!,PyData.canLayAll0,G,J_];rfl
theorem yL:∀l:List Nat,PyData.depthAll (l.map pG)=0
 | []=>rfl
 | _::r=>by
   have G:=yL r;change max (PyData.depth (PyData.int _)) (PyData.depthAll (r.map _))=0;rw[G];rfl
def eL(l:List Nat):141#(.list (l.map pG)):=by
 unfold SeqAt.shaped;have e:(PyData.list (l.map pG)).canLay0=PyData.canLayAll0 (l.map pG):=by simp[PyData.canLay0]
 rw[e,Cs,V?];show e8 ?_;have U:PyData.depth (PyData.list (l.map pG))=PyData.depthAll (l.map pG)+1:=by simp[PyData.depth]
 rw[U,yL]
 decide
def HV(l:List Nat):PyData.eqv (.list (l.map pG)) (.list [])=decide (l=[]):=by
 cases l with
 | nil=>rfl
 | cons a r=>rfl
def SD(S)(k):13#(V.int (Builtin.bitAnd (S/2^k) 1)=V.int 1)=bit S k:=by
 unfold bit;rw[PyProof.Rows.bitAnd_m1];rw[R!];simp
def Po(x):13#(V.int x=V.int 1)=decide (x=1):=by
 rw[R!];simp
structure iW(p:Int)(t:fN):Prop where
 a0:0<=t.1
 a1:t.1<p
 b0:0<=t.2.1
 b1:t.2.1<p
 ne:t.1≠t.2.1
 l0:1<=t.2.2
 l1:t.2.2<=1000000000000000000000000000000
structure aC(p:Nat)(ts:List fN):Prop where
 p1:1<=p
 p2:p<=10
 len:ts.length<=24
 ie:∀t∈ts,iW (p:Int) t
def aC.pZ(g:aC p J):Ml p J:=⟨⟨λt n=>let z:=g.ie t n;(e7 z.a0 z.a1 z.b0 z.b1)⟩,g.len,g.p2⟩
def Mn{p o r:Int}(h:0<=o)(Z:o<p)(k:0<=r)(J:r<p-1):0<=(o+1+r)%p/\(o+1+r)%p<p/\o≠(o+1+r)%p:=by
 have M:0<p:=by lia
 show bF (Int.emod_nonneg _ (by lia)) (Int.emod_lt_of_pos _ M) ?_
 by_cases w:o+1+r<p
 .rw[Int.emod_eq_of_lt (by lia) w]
  lia
 .have e:(o+1+r)%p=o+1+r-p:=by
   rw[<-Int.sub_emod_right,Int.emod_eq_of_lt (by lia) (by lia)]
  rw[e]
  lia
def bN(h:n<=24):n<=sizeLine:=U! (eA (by lia))
def jh(h:n<=900):n<sizeLine:=eA (by lia)
def HW{ns:List Int}(h:k<ns.length):(201#0)[k]?=54#(ns.getD k 0):=by
 rw[d!,u!];simp[h]
def jB(x m:Int)(h:0<m):0<=x%m/\x%m<m:=⟨Int.emod_nonneg _ (by lia),Int.emod_lt_of_pos _ h⟩
end Ring
namespace RM
def cX(f:Nat->Bool):Nat->Bool
 | 0=>false
 | n+1=>cX f n^^f n
theorem cT:∀{n},(∀k,k<n->f k=g k)->cX f n=cX g n
 | 0,_=>rfl
 | n+1,h=>by
   unfold cX;rw[cT 159#h,h n (by lia)]
theorem ji(f g):∀n,cX (λk=>f k^^g k) n=(cX f n^^cX g n)
 | 0=>rfl
 | n+1=>by
   unfold cX;rw[ji f g n];cases cX f n<;>cases cX g n<;>cases f n<;>cases g n<;>rfl
theorem pH:∀n,cX (λ_=>false) n=false
 | 0=>rfl
 | n+1=>by unfold cX;rw[pH n];rfl
theorem qi(c)(f):∀n,cX (λk=>c&&f k) n=(c&&cX f n)
 | 0=>by cases c<;>rfl
 | n+1=>by
   unfold cX;rw[qi c f n];cases c<;>simp
theorem yM(f:Nat->Nat->Bool)(n):∀m,cX (λx=>cX (λk=>f x k) n) m=cX (λk=>cX (λx=>f x k) m) n
 | 0=>by
   change false=_;rw[<-pH n];rfl
 | m+1=>by
   change(cX (λx=>cX (λk=>f x k) n) m^^cX (λk=>f m k) n)=_
   rw[yM f n m,<-ji];rfl
def ig(h:∀k,k<n->f k=false):cX f n=false:=by
 rw[cT h,pH]
theorem qj:∀{n},a<n->(∀k,k<n->k≠a->f k=false)->cX f n=f a
 | 0,h,_=>absurd h (E? _)
 | n+1,h,z=>by
   unfold cX
   by_cases e:a=n
   .subst e;rw[ig λk Y=>z k (by lia) (by lia)]
    simp
   .rw[qj (by lia) λk Y g=>z k (by lia) g,z n (by lia) (λq=>e q.symm)]
    simp
def jj(C:Nat->Bool)(h:a<m):cX (λx=>C x&&decide (a=x)) m=C a:=by
 rw[qj h λk _ Y=>by simp[e! Y]]
 simp
structure Net where
 p:Nat
 n:Nat
 a:Nat->Nat
 b:Nat->Nat
 al:∀k,k<n->a k<p
 bl:∀k,k<n->b k<p
 ne:∀k,k<n->a k≠b k
variable (N:Net)
def Net.inc(k x:Nat):Bool:=13#(N.a k=x)^^13#(N.b k=x)
def Net.bd(m x:Nat):Bool:=cX (λk=>10#0&&N.inc k x) N.n
def Net.eR(m:Nat):Prop:=∀x,x<N.p->N.bd m x=false
variable {N}
def gX(m q x):N.bd (m^^^q) x=(N.bd m x^^N.bd q x):=by
 unfold Net.bd;rw[<-ji];show cT λk _=>?_
 rw[h!];cases 10#0<;>cases q.testBit k<;>cases N.inc k x<;>rfl
def nG(x):N.bd 0 x=false:=by
 show ig λk _=>by simp
def mF(h:k<N.n)(x):N.bd (2^k) x=N.inc k x:=by
 unfold Net.bd;rw[qj h λj _ D=>by simp[J!,e! D]]
 simp[J!]
def eR.xor(h:N.eR m)(h' : N.eR q):N.eR (m^^^q):=λx B=>by rw[gX,h x B,h' x B];rfl
def eR.zero:N.eR 0:=λx _=>nG x
def Mp{m:Nat}(C:Nat->Bool)(h:∀k,k<N.n->10#0=true->C (N.a k)=C (N.b k)):cX (λx=>C x&&N.bd m x) N.p=false:=by
 have e:cX (λx=>C x&&N.bd m x) N.p=cX (λx=>cX (λk=>C x&&(10#0&&N.inc k x)) N.n) N.p :=
  cT λx _=>(qi (C x) _ N.n).symm
 rw[e,yM];show ig λk Y=>?_
 have U:cX (λx=>C x&&(10#0&&N.inc k x)) N.p=(10#0&&(C (N.a k)^^C (N.b k))):=by
  rw[<-jj C (N.al k Y),<-jj C (N.bl k Y),<-ji,<-qi];show cT λx _=>?_
  unfold Net.inc;cases C x<;>cases 10#0<;>cases 13#(N.a k=x)<;>cases 13#(N.b k=x)<;>rfl
 rw[U];cases O:10#0 with
 | false=>rfl
 | true=>rw[h k Y O];simp
def join(L:Nat->Nat)(u v:Nat):Nat->Nat:=λx=>if L x=175#max then 175#min else L x
def join_eq(h:L x=L y):join L u v x=join L u v y:=by unfold join;rw[h]
def Jx(L)(u v):join L u v u=join L u v v:=by
 unfold join
 split<;>split<;>lia
def yN(h:L u=L v):join L u v=L:=by
 funext x
 unfold join;rw[h]
 split<;>lia
def Ff(h:join L u v x=join L u v y):L x=L y\/(L x=L u/\L y=L v)\/(L x=L v/\L y=L u):=by
 unfold join at h;have a:(175#max=L u/\175#min=L v)\/(175#max=L v/\175#min=L u):=by
  rcases 175#K_ with q|q
  .show .inr ⟨_U q,m_ q⟩
  .show .inl ⟨_Z q,_V q⟩
 rcases a with⟨t,U⟩|⟨t,U⟩
 .rw[t,U]at h
  split at h
  .rename_i B
   split at h
   .rename_i W
    show .inl (B.trans W.symm)
   .show .inr (.inl ⟨B,h.symm⟩)
  .split at h
   .rename_i W
    show .inr (.inr ⟨h,W⟩)
   .show .inl h
 .rw[t,U]at h
  split at h
  .rename_i B
   split at h
   .rename_i W
    show .inl (B.trans W.symm)
   .show .inr (.inr ⟨B,h.symm⟩)
  .split at h
   .rename_i W
    show .inr (.inl ⟨h,W⟩)
   .show .inl h
def join_le(h:L x<=x):join L u v x<=x:=by
 unfold join
 split<;>lia
def Jy(h:∀x,L (L x)=L x)(x):join L u v (join L u v x)=join L u v x:=by
 have c:=h u;have a:=h v;have B:=h x;have j:L (175#min)=175#min:=by
  rcases 175#K_ with q|q
  .rw[m_ q];show c
  .rw[_V q];show a
 unfold join
 split
 .rw[j]
  split<;>lia
 .rw[B]
  split<;>lia
def Net.bS(N:Net)(S:Nat->Bool):Nat->Nat->Nat
 | 0=>λx=>x
 | k+1=>if S k=true then join (Net.bS N S k) (N.a k) (N.b k) else Net.bS N S k
variable {S:Nat->Bool}
theorem uc:∀k x,N.bS S k x<=x
 | 0,_=>Ξ _
 | k+1,x=>by
   unfold Net.bS
   split
   .show join_le (uc k x)
   .show uc k x
theorem gH:∀k x,N.bS S k (N.bS S k x)=N.bS S k x
 | 0,_=>rfl
 | k+1,x=>by
   by_cases W:S k=true
   .have e:N.bS S (k+1)=join (N.bS S k) (N.a k) (N.b k):=by
     conv=>lhs;unfold Net.bS
     rw[ο W]
    rw[e];show Jy (gH k) x
   .have e:N.bS S (k+1)=N.bS S k:=by
     conv=>lhs;unfold Net.bS
     rw[ξ W]
    rw[e];show gH k x
theorem yO(h:N.bS S k x=N.bS S k y):∀d,N.bS S (k+d) x=N.bS S (k+d) y
 | 0=>h
 | d+1=>by
   have G:=yO h d;unfold Net.bS
   split
   .show join_eq G
   .show G
def ql(h:j<k)(W:S j=true):N.bS S k (N.a j)=N.bS S k (N.b j):=by
 obtain⟨d,rfl⟩:=ac7 (Nat.succ_le_of_lt h);show yO ?_ d;unfold Net.bS;rw[ο W];show Jx _ _ _
inductive Net.mG(N:Net)(S:Nat->Bool)(k u:Nat):Nat->Prop
 | refl:Net.mG N S k u u
 | fwd {j:Nat} (h:Net.mG N S k u (N.a j)) (hj:j<k) (hs:S j=true):Net.mG N S k u (N.b j)
 | bwd {j:Nat} (h:Net.mG N S k u (N.b j)) (hj:j<k) (hs:S j=true):Net.mG N S k u (N.a j)
def Net.mG.trans(h:N.mG S k u v)(h' : N.mG S k v w):N.mG S k u w:=by
 induction h' with
 | refl=>show h
 | fwd _ D W G=>show .fwd G D W
 | bwd _ D W G=>show .bwd G D W
def Net.mG.mono(h:N.mG S k u v)(w:k<=l):N.mG S l u v:=by
 induction h with
 | refl=>show .refl
 | fwd _ D W G=>show .fwd G (by lia) W
 | bwd _ D W G=>show .bwd G (by lia) W
theorem fD:∀k u v,N.bS S k u=N.bS S k v->N.mG S k u v
 | 0,u,v,h=>by
   have e:=h;subst e;show .refl
 | k+1,u,v,h=>by
   unfold Net.bS at h
   split at h
   .rename_i W
    rcases Ff h with q|⟨n,R⟩|⟨n,R⟩
    .show(fD k u v q).mono (by lia)
    .have M:=(fD k u _ n).mono (Q! k);have p:=(fD k _ v R.symm).mono (Q! k);show Net.mG.trans (.fwd M (by lia) W) p
    .have M:=(fD k u _ n).mono (Q! k);have p:=(fD k _ v R.symm).mono (Q! k);show Net.mG.trans (.bwd M (by lia) W) p
   .show(fD k u v h).mono (by lia)
def Net.gJ(N:Net)(k:Nat):Nat->Nat:=N.bS (λ_=>true) k
def Net.mH(N:Net)(k:Nat):Bool:=! 13#(N.gJ k (N.a k)=N.gJ k (N.b k))
def Ct(k):N.gJ (k+1)=if N.mH k=true then join (N.gJ k) (N.a k) (N.b k) else N.gJ k:=by
 change N.bS (λ_=>true) (k+1)=_
 unfold Net.bS;rw[ο rfl];unfold Net.mH
 by_cases h:N.gJ k (N.a k)=N.gJ k (N.b k)
 .rw[ξ (by simp[h])]
  show yN h
 .rw[ο (by simp[h])]
  rfl
def gY{m:Nat}(F:∀k,10#0=true->k<N.n/\N.mH k=true)(T:N.eR m):m=0:=by
 by_cases o:m=0
 .show o
 exfalso
 have J:=Nat.testBit_log2 o;obtain⟨a,b⟩:=F _ J;generalize d:m.log2=K at J a b;have w:m<2^(K+1):=by rw[<-d];show Nat.lt_log2_self
 have G:=Mp (m:=m^^^2^K) (λx=>13#(190#x)) λk Y O=>by
  have c:k<K:=by
   rw[h!,J!]at O
   by_cases e:K=k
   .subst e;simp[J]at O
   .have Q:10#0=true:=by simpa[e]using O
    have:k<K+1:=by
     by_cases q:k<K+1
     .show q
     .have z:=D? (t! w (R? 7#0 (95#(K+1<=k))))
      rw[Q]at z;cases z
    lia
  have e:N.gJ K (N.a k)=N.gJ K (N.b k):=ql c rfl;rw[e]
 have e:cX (λx=>13#(190#x)&&N.bd (m^^^2^K) x) N.p=cX (λx=>13#(190#x)&&N.inc K x) N.p :=
  cT λx B=>by rw[gX,T x B,mF a];simp
 rw[e]at G;have U:cX (λx=>13#(190#x)&&N.inc K x) N.p=(13#(190#(N.a K))^^13#(190#(N.b K))):=by
  rw[<-jj (λx=>13#(190#x)) (N.al K a),<-jj (λx=>13#(190#x)) (N.bl K a),<-ji]
  show cT λx _=>?_
  unfold Net.inc;cases 13#(190#x)<;>cases 13#(N.a K=x)<;>cases 13#(N.b K=x)<;>rfl
 rw[U]at G;unfold Net.mH at b;have n : ¬ 190#(N.b K):=λq=>by rw[q]at b;simp at b
 simp[n]at G
def Net.trail(N:Net):Nat->Nat->Nat
 | 0=>λ_=>0
 | k+1=>if N.mH k=true then λv=>if N.gJ k v=max (N.gJ k (N.a k)) (N.gJ k (N.b k)) then Net.trail N k v^^^(Net.trail N k (N.a k)^^^Net.trail N k (N.b k)^^^2^k) else Net.trail N k v
   else Net.trail N k
theorem j8:∀k v j,134#(N.trail k v)=true->j<k/\N.mH j=true
 | 0,v,j,h=>by simp[Net.trail]at h
 | k+1,v,j,h=>by
   have G:=j8 k;unfold Net.trail at h
   split at h
   .rename_i F
    dsimp only at h
    split at h
    .rw[h!,h!,h!,J!]at h
     by_cases e:k=j
     .subst e;show⟨by lia,F⟩
     .have z : ¬(134#(N.trail k v)=false/\134#(N.trail k (N.a k))=false/\134#(N.trail k (N.b k))=false):=by
       show cW λu X t=>?_
       simp[u,X,t,e]at h
      cases Z:134#(N.trail k v) with
      | true=>obtain⟨q,r⟩:=G v j Z;show⟨by lia,r⟩
      | false=>cases R:134#(N.trail k (N.a k)) with
        | true=>obtain⟨q,r⟩:=G _ j R;show⟨by lia,r⟩
        | false=>cases l:134#(N.trail k (N.b k)) with
          | true=>obtain⟨q,r⟩:=G _ j l;show⟨by lia,r⟩
          | false=>show absurd (bF Z R l) z
    .obtain⟨q,r⟩:=G v j h;show⟨by lia,r⟩
   .obtain⟨q,r⟩:=G v j h;show⟨by lia,r⟩
def Mq(a b c d e f g h:Bool)(i:(d^^f)=(g^^h)):((a^^g)^^(((c^^d)^^(e^^f))^^(c^^e)))=(a^^h):=by
 have t:(((c^^d)^^(e^^f))^^(c^^e))=(d^^f):=by cases c<;>cases d<;>cases e<;>cases f<;>rfl
 rw[t,i];cases a<;>cases g<;>cases h<;>rfl
theorem uW:∀k,k<=N.n->∀v x,N.bd (N.trail k v) x=(decide (v=x)^^13#(N.gJ k v=x))
 | 0,_,v,x=>by
   change N.bd 0 x=(decide (v=x)^^decide (v=x));rw[nG];simp
 | k+1,Y,v,x=>by
   have G:=uW k (by lia)
   rw[Ct];unfold Net.trail
   by_cases F:N.mH k=true
   .rw[ο F,ο F]
    by_cases d:N.gJ k v=max (N.gJ k (N.a k)) (N.gJ k (N.b k))
    .have e:join (N.gJ k) (N.a k) (N.b k) v=min (N.gJ k (N.a k)) (N.gJ k (N.b k)):=by unfold join;rw[ο d]
     change N.bd (if N.gJ k v=_ then _ else _) x=_
     rw[ο d,e,gX,gX,gX,mF (by lia),G,G,G]
     unfold Net.inc;show Mq _ false _ _ _ _ _ _ ?_;rw[d];rcases K_ (N.gJ k (N.a k)) (N.gJ k (N.b k)) with q|q
     .rw[_U q,m_ q,Bool.xor_comm]
     .rw[_Z q,_V q]
    .have e:join (N.gJ k) (N.a k) (N.b k) v=N.gJ k v:=by unfold join;rw[ξ d]
     change N.bd (if N.gJ k v=_ then _ else _) x=_
     rw[ξ d,e,G]
   .rw[ξ F,ξ F];show G v x
def Net.ring(N:Net)(c:Nat):Nat:=N.trail N.n (N.a c)^^^N.trail N.n (N.b c)^^^2^c
def Mr(h:c<N.n):N.gJ N.n (N.a c)=N.gJ N.n (N.b c):=ql h rfl
def nH(h:c<N.n):N.eR (N.ring c):=λx _=>by
 unfold Net.ring;rw[gX,gX,mF h,uW _ (Ξ _),uW _ (Ξ _),Mr h];unfold Net.inc;cases 13#(N.a c=x)<;>cases 13#(N.b c=x)<;>cases 13#(N.gJ N.n (N.b c)=x)<;>rfl
def mJ(h:134#(N.ring c)=true):j=c\/(j<N.n/\N.mH j=true):=by
 unfold Net.ring at h;rw[h!,h!,J!]at h
 by_cases e:c=j
 .show .inl e.symm
 .right
  cases Z:134#(N.trail N.n (N.a c)) with
  | true=>show j8 _ _ _ Z
  | false=>cases R:134#(N.trail N.n (N.b c)) with
    | true=>show j8 _ _ _ R
    | false=>simp[Z,R,e]at h
def uX(F:N.mH c=false):(N.ring c).testBit c=true:=by
 unfold Net.ring;rw[h!,h!,J!];cases Z:(N.trail N.n (N.a c)).testBit c with
 | true=>obtain⟨_,q⟩:=j8 _ _ _ Z;rw[F]at q;cases q
 | false=>cases R:(N.trail N.n (N.b c)).testBit c with
   | true=>obtain⟨_,q⟩:=j8 _ _ _ R;rw[F]at q;cases q
   | false=>simp
def Jz(h:j<N.n)(F:N.mH j=true):134#(N.trail N.n (N.a j))=true\/134#(N.trail N.n (N.b j))=true:=by
 have z:=gY (λk Y=>by
  rcases mJ Y with rfl|q
  .show⟨h,F⟩
  .show q) (nH h)
 have b:134#(N.ring j)=false:=by rw[z];simp
 unfold Net.ring at b;rw[h!,h!,J!]at b;cases Z:134#(N.trail N.n (N.a j)) with
 | true=>show .inl rfl
 | false=>cases R:134#(N.trail N.n (N.b j)) with
   | true=>show .inr rfl
   | false=>simp[Z,R]at b
def cnt(f:Nat->Bool):Nat->Nat
 | 0=>0
 | n+1=>cnt f n+(46#(f n))
theorem i5:∀{n},(∀k,k<n->f k=g k)->cnt f n=cnt g n
 | 0,_=>rfl
 | n+1,h=>by
   unfold cnt;rw[i5 159#h,h n (by lia)]
theorem Cu(M:g h=true):∀{p},h<p->(∀x,x<p->f x=(g x && ! decide (x=h)))->cnt g p=cnt f p+1
 | 0,a,_=>absurd a (E? _)
 | p+1,a,e=>by
   unfold cnt
   by_cases q:h=p
   .subst q;have z:cnt g h=cnt f h:=i5 λk Y=>by rw[e k (by lia)];simp[95#(k≠h)]
    rw[z,ο M,e h (by lia)]
    simp
   .rw[Cu M (by lia) λx B=>e x (by lia),e p (by lia)]
    simp[e! q]
    lia
theorem j9(f):∀n,29#((19#n).filter f)=cnt f n
 | 0=>rfl
 | n+1=>by
   rw[B?,w?,i!,j9 f n];change _=cnt f n+(46#(f n))
   cases h:f n with
   | true=>rw[G!,ο h];rfl
   | false=>rw[G!,ξ (by rw[h];simp)];rfl
theorem AA(f):∀n,cnt f n+cnt (λk=>! f k) n=n
 | 0=>rfl
 | n+1=>by
   have G:=AA f n;unfold cnt;cases h:f n<;>simp<;>lia
theorem AB:∀{n},(∀k,k<n->f k=true)->cnt f n=n
 | 0,_=>rfl
 | n+1,h=>by
   unfold cnt;rw[AB 159#h,ο (h n (by lia))]
variable {N:Net}
def Net.root(N:Net)(S:Nat->Bool)(k x:Nat):Bool:=13#(N.bS S k x=x)
def i6(k):N.bS S (k+1)=if S k=true then join (N.bS S k) (N.a k) (N.b k) else N.bS S k:=by
 conv=>lhs;unfold Net.bS
def ud(h:x<N.p):N.bS S k x<N.p:=Y! (uc k x) h
def JA(C:∀x,L (L x)=L x)(n:L u≠L v)(x):13#(join L u v x=x)=(13#(L x=x) && ! 13#(x=175#max)):=by
 have a:L (175#max)=175#max:=by
  rcases 175#K_ with q|q
  .rw[_U q];show C v
  .rw[_Z q];show C u
 have j:L (175#min)=175#min:=by
  rcases 175#K_ with q|q
  .rw[m_ q];show C u
  .rw[_V q];show C v
 unfold join
 by_cases h:L x=175#max
 .rw[ο h];have Z : ¬ 175#min=x:=λz=>by
   rw[<-z,j]at h
   lia
  by_cases R:x=175#max
  .simp[Z,R]
   lia
  .have l : ¬ L x=x:=λz=>R (z.symm.trans h)
   simp[Z,l]
 .rw[ξ h];have R : ¬ x=175#max:=λz=>h (by rw[z];show a)
  simp[R]
def uY(Y:k<N.n):cnt (N.root S k) N.p=cnt (N.root S (k+1)) N.p+(if(S k && ! 13#(N.bS S k (N.a k)=N.bS S k (N.b k)))=true then 1 else 0):=by
 cases W:S k with
 | false =>
   have e:N.root S (k+1)=N.root S k:=by unfold Net.root;rw[i6,ξ (by rw[W];simp)]
   rw[e];simp
 | true =>
   by_cases h:N.bS S k (N.a k)=N.bS S k (N.b k)
   .have e:N.root S (k+1)=N.root S k:=by unfold Net.root;rw[i6,ο W,yN h]
    rw[e];simp[h]
   .have a:N.bS S k (max (N.bS S k (N.a k)) (N.bS S k (N.b k)))=max (N.bS S k (N.a k)) (N.bS S k (N.b k)):=by
     rcases K_ (N.bS S k (N.a k)) (N.bS S k (N.b k)) with q|q
     .rw[_U q];show gH _ _
     .rw[_Z q];show gH _ _
    have Z:=ud (S:=S) (k:=k) (N.al k Y);have R:=ud (S:=S) (k:=k) (N.bl k Y);rw[Cu (f:=N.root S (k+1)) (e8 a) (by lia) λx _=>by
     unfold Net.root;rw[i6,ο W];show JA (gH k) h x]
    simp[h]
theorem qm:∀k,k<=N.n->cnt (N.root (λ_=>true) k) N.p+cnt N.mH k=N.p
 | 0,_=>by
   change cnt (N.root (λ_=>true) 0) N.p+0=N.p
   rw[AB (f:=N.root (λ_=>true) 0) λx _=>e8 rfl]
   rfl
 | k+1,Y=>by
   have G:=qm k (by lia)
   have st:=uY (N:=N) (S:=λ_=>true) (k:=k) (by lia)
   have e:((λ_=>true:Nat->Bool) k && ! 13#(N.bS (λ_=>true) k (N.a k)=N.bS (λ_=>true) k (N.b k)))=N.mH k:=by rw[V?];rfl
   rw[e]at st;change cnt (N.root (λ_=>true) (k+1)) N.p+(cnt N.mH k+46#(N.mH k))=N.p
   lia
def Cv:(N.n:Int)-N.p+cnt (N.root (λ_=>true) N.n) N.p=(182#(! N.mH k):Nat):=by
 have h:=qm N.n (Ξ _);have R:=AA N.mH N.n
 lia
def Net.cZ(N:Net):List Nat:=(19#N.n).filter λk=>! N.mH k
def dZ:c∈N.cZ↔c<N.n/\N.mH c=false:=by
 unfold Net.cZ;rw[K!,E!];simp
def Fg:N.cZ.length=182#(! N.mH k):=j9 _ _
def fh{m n:Nat}(h:∀k,10#0=true->k<n):m<2^n:=Nat.lt_pow_two_of_testBit m λk Y=>by
 cases q:10#0 with
 | false=>rfl
 | true=>show absurd (h k q) (by lia)
def eX(h:m<2^n)(O:10#0=true):k<n:=by
 by_cases q:k<n
 .show q
 .have z:=D? (t! h (R? 7#0 (95#(n<=k))))
  rw[O]at z;cases z
def Ms(d:m<2^N.n)(D:q<2^N.n)(b:N.eR m)(a:N.eR q)(h:∀c,c<N.n->N.mH c=false->m.testBit c=q.testBit c):m=q:=by
 have z:=gY (λk Y=>by
  have t:=eX (T! d D) Y;show⟨t,?_⟩;cases F:N.mH k with
  | true=>rfl
  | false =>
    rw[h!,h k t F]at Y;simp at Y) (eR.xor b a)
 have e:m=m^^^q^^^q:=by rw[b?,N?,k?]
 rw[e,z,l?]
def kZ(h:c<N.n):N.ring c<2^N.n:=fh λk Y=>by
 rcases mJ Y with rfl|⟨q,_⟩
 .show h
 .show q
def pJ(L:N.mH c=false)(J:N.mH d=false):(N.ring c).testBit d=decide (c=d):=by
 by_cases e:c=d
 .subst e;rw[uX L];simp
 .cases q:(N.ring c).testBit d with
  | false=>simp[e]
  | true=>rcases mJ q with rfl | ⟨_,r⟩
          .show absurd rl e
          .rw[J]at r;cases r
end RM
namespace Ring
open PySem L2
def maskOf(f:Nat->Bool):Nat->Nat
 | 0=>0
 | n+1=>(if f n=true then 2^n else 0)+maskOf f n
theorem mask_lt(f):∀n,maskOf f n<2^n
 | 0=>by change 0<1;decide
 | n+1=>by
   have G:=mask_lt f n;have e:2^(n+1)=2^n+2^n:=by rw[b_];lia
   unfold maskOf
   split<;>lia
theorem mask_bit(f)(j):∀n,134#(maskOf f n)=(decide (j<n)&&f j)
 | 0=>by simp[maskOf]
 | n+1=>by
   have G:=mask_bit f j n;have P:=mask_lt f n;unfold maskOf
   by_cases h:f n=true
   .rw[ο h];rcases Nat.lt_trichotomy j n with q|q|q
    .rw[Nat.testBit_two_pow_add_gt q,G];simp[q,95#(j<n+1)]
    .subst q;rw[Nat.testBit_two_pow_add_eq,G];simp[h]
    .have z:=t! (show 2^n+maskOf f n<2^(n+1) by rw[b_];lia) (R? 7#0 q)
     rw[D? z];simp[95#(¬ j<n+1)]
   .rw[ξ h,adR,G]
    by_cases q:j=n
    .subst q;have N:f j=false:=by simpa using h
     simp[N]
    .by_cases r:j<n
     .simp[r,95#(j<n+1)]
     .simp[r,95#(¬ j<n+1)]
theorem Cw(f):∀n,(((19#n).filter f).map λk=>2^k).sum=maskOf f n
 | 0=>rfl
 | n+1=>by
   rw[B?,w?,j!,adC,Cw f n];change _=(if f n=true then 2^n else 0)+maskOf f n
   cases h:f n with
   | true=>rw[G!,ο h];simp;lia
   | false=>rw[G!,ξ (by rw[h];simp)];simp
def Mt(n):maskOf (λ_=>true) n=2^n-1:=by
 induction n with
 | zero=>rfl
 | succ n G =>
   unfold maskOf;rw[G,ο rfl,b_];have:=F? n
   lia
def HX(n j):134#(2^n-1)=decide (j<n):=by
 rw[<-Mt,mask_bit];simp
def SE(q:x/2+y/2=a/2+b/2)(h:x%2+y%2=a%2+b%2):x+y=a+b:=by lia
def SG(c:u=0\/u=1)(a:v=0\/v=1):(u ||| v)+(u&&&v)=u+v:=by
 rcases c with rfl|rfl<;>rcases a with rfl|rfl<;>rfl
def SH:∀a b:Nat,(a ||| b)+(a&&&b)=a+b:=by
 intro a
 induction a using Nat.strongRecOn with
 | ind a G =>
   intro b
   by_cases h:a=0
   .subst h;simp
   .have q:=G (a/2) (by lia) (b/2)
    rw[<-Nat.or_div_two,<-Nat.and_div_two]at q;show SE q ?_;have t:(a ||| b)%2=a%2 ||| b%2:=Nat.or_mod_two_pow (n:=1)
    have U:(a&&&b)%2=a%2&&&b%2:=Nat.and_mod_two_pow (n:=1);rw[t,U];show SG (_j a) (_j b)
def or_int(a b:Nat):Builtin.bitOr (a:Int) (b:Int)=18#(a ||| b):=by
 have q:=SH a b;rw[PyProof.Rows.bitOr_and,adg (by lia) (by lia)]
 have h:a+b-18#(a&&&b)=18#(a ||| b):=by lia
 simpa using h
def k6(k:Nat):(1:Int)*2^(k:Int).toNat=18#(2^k):=by
 rw[x!,Int.one_mul];simp
def fY{J:List fN}(h:k<J.length):dJ J k∈J:=by
 unfold dJ;rw[u!];simp[h]
def rH{J:List fN}(h:k<J.length):J[k]?=some (dJ J k):=by
 unfold dJ;rw[u!];simp[h]
def aC.N{p:Nat}{J:List fN}(g:aC p J):RM.Net where
 p:=p
 n:=J.length
 a:=λk=>(dJ J k).1.toNat
 b:=λk=>(dJ J k).2.1.toNat
 al:=λk Y=>by
  have z:=g.ie _ (fY Y);have c:=z.a0;have u:=z.a1
  lia
 bl:=λk Y=>by
  have z:=g.ie _ (fY Y);have c:=z.b0;have u:=z.b1
  lia
 ne:=λk Y e=>by
  have z:=g.ie _ (fY Y);have c:=z.a0;have u:=z.b0;show z.ne (by lia)
def HY{p:Nat}{J:List fN}{g:aC p J}(h:k<J.length):(dJ J k).1=18#(g.N.a k):=by
 have z:=(g.ie _ (fY h)).a0;change _=18#(dJ J k).1.toNat
 lia
def HZ{p:Nat}{J:List fN}{g:aC p J}(h:k<J.length):(dJ J k).2.1=18#(g.N.b k):=by
 have z:=(g.ie _ (fY h)).b0;change _=18#(dJ J k).2.1.toNat
 lia
def Pp{p:Nat}{J:List fN}{g:aC p J}(h:k<J.length)(x:Nat):ON J k x%2=46#(g.N.inc k x):=by
 unfold ON RM.Net.inc;rw[rH h];dsimp only;rw[HY (g:=g) h,HZ (g:=g) h];generalize g.N.a k=u;generalize g.N.b k=v
 by_cases Z:u=x
 .by_cases R:v=x
  .simp[Z,R]
  .have Q : ¬(v=(x:Int)):=by lia
   simp[Z,R,Q]
 .have t : ¬((u:Int)=(x:Int)):=by lia
  by_cases R:v=x
  .simp[Z,R,t]
  .have Q : ¬((v:Int)=(x:Int)):=by lia
   simp[Z,R,t,Q]
theorem Mu{p:Nat}{J:List fN}{g:aC p J}(m x:Nat):∀n,n<=J.length->((19#n).map λk=>if 10#0=true then ON J k x else 0).sum%2=46#(RM.cX (λk=>10#0&&g.N.inc k x) n)
 | 0,_=>rfl
 | n+1,h=>by
   have G:=Mu (g:=g) m x n (by lia)
   have a:=Pp (g:=g) (k:=n) (by lia) x
   rw[B?,j!,adC];change(_+((if m.testBit n=true then ON J n x else 0)+0))%2=if(RM.cX _ n^^(m.testBit n&&g.N.inc n x))=true then 1 else 0
   generalize ((19#n).map λk=>if 10#0=true then ON J k x else 0).sum=u at G ⊢
   generalize RM.cX (λk=>10#0&&g.N.inc k x) n=v at G ⊢
   generalize g.N.inc n x=i at a ⊢;generalize ON J n x=d at a ⊢;cases m.testBit n<;>cases v<;>cases i<;>simp at G a ⊢ <;> lia
def Ia(g:aC p J){m:Nat}(d:m<53#0):13#((jT p J (m:Int)).getD x 0%2=1)=g.N.bd m x:=by
 rw[Mi g.pZ.XX,eK d,sum_filter];have h:=Mu (g:=g) m x J.length (Ξ _);rw[h];change _=RM.cX _ J.length;generalize RM.cX (λk=>10#0&&g.N.inc k x) J.length=v
 cases v<;>simp
def qn(g:aC p J){m:Nat}(d:m<53#0):mD p J (m:Int)=[]↔g.N.eR m:=by
 unfold mD;rw[_t]
 constructor
 .intro h x B;have q:=h x (E!.mpr B);rw[Ia g d]at q
  simpa using q
 .intro h x B;rw[Ia g d,h x (E!.mp B)];simp
def ju(f:Nat->Nat)(n:Nat):List V:=(19#n).map λx=>V.int 18#(f x)
def gZ(f)(n):29#(ju f n)=n:=by unfold ju;rw[χ,C!]
def dQ(h:x<n):(ju f n)[x]?=54#18#(f x):=by
 unfold ju;rw[d!,W_ h];rfl
def ue(h:(ju f n)[x]?=some v):x<n/\v = .int 18#(f x):=by
 have B:x<n:=by
  have:=(iJ.mp h).1
  rwa [gZ]at this
 rw[dQ B]at h;show⟨B,(20#h).symm⟩
def yP(f)(n):ju f (n+1)=ju f n++[.int 18#(f n)]:=by
 unfold ju;rw[B?,j!];rfl
def Mv(p):(List.replicate p [V.int 0]).flatten=ju (λ_=>0) p:=by
 induction p with
 | zero=>rfl
 | succ p G =>
   rw[yP,<-G,_E,List.flatten_append];rfl
def AD(f:Nat->Nat)(H:Hp)(D:Addr)(i:Nat)(M:List V)(G:Hp):Prop:=ak H G/\11#G/\M=ju f i
def AD.start(S:H D=none):AD f H D 0 [] 97#H:=bF (ak.new S) aa rfl
def AD.len(p:AD f H D i M G):118#G:=⟨p.2.1,by rw[p.2.2,gZ];show Ξ _⟩
def AD.next(p:AD f H D i M G)(S:H D=none)(s:ak G u)(a:v = .int 18#(f i)):11#u/\AD f H D (i+1) (M++[v]) (η u D 69#(M++[v])):=by
 show e7 (s _ _ p.2.1) ((p.1.trans s).put S) aa ?_;rw[yP,<-p.2.2,a]
theorem yQ{N:RM.Net}{m:Nat}:∀n,((19#n).filter λk=>10#0).foldl (λL k=>RM.join L (N.a k) (N.b k)) (λx=>x)=N.bS (λk=>10#0) n
 | 0=>rfl
 | n+1=>by
   rw[dI,C_,yQ n,RM.i6]
   split<;>rfl
end Ring
namespace RM
theorem uZ{N:Net}:∀{n},(∀k,k<n->S k=a k)->N.bS S n=N.bS a n
 | 0,_=>rfl
 | n+1,h=>by rw[i6,i6,uZ 159#h,h n (by lia)]
end RM
namespace Ring
open PySem L2
def pieceOf(L:Nat->Nat)(p s:Nat):List Nat:=(19#p).filter λx=>13#(L x=s)
def ef(L:Nat->Nat)(p:Nat):List Nat:=(19#p).filter λx=>13#(L x=x)
def Rj(D:Addr)(Q H:Hp)(y:V)(l:List Nat):Prop:=∃b,y = .ref b/\b≠D/\Q b=none/\H b=4#(aE l)
def u0(L:Nat->Nat)(p:Nat)(H:Hp)(D:Addr)(i:Nat)(G:Hp):Prop:=ak H G/\∃v,G D=some (.lst v)/\Paired (Rj D H G) v ((ef L i).map (pieceOf L p))/\v.length<=i
def u0.start(S:H D=none):u0 L p H D 0 97#H:=⟨ak.new S,(au [] aa .nil (Ξ _))⟩
def u3:ef L (i+1)=ef L i++(if L i=i then[i] else[]):=by
 unfold ef;rw[dI]
 by_cases h:L i=i<;>simp[h]
def u0.skip(h:u0 L p H D i G)(g : ¬ L i=i):u0 L p H D (i+1) G:=by
 revert h;show Ah λs=>aA λv J I P=>?_
 show⟨s,(au v J ?_ (by lia))⟩
 rwa [u3,ξ g,A?]
def u0.push(h:u0 L p H D i G)(S:H D=none)(C:L i=i)(s:ak G u)(O:G b=none)(k:u b=4#(aE (pieceOf L p i))):
 ∃v,u D=some (.lst v)/\v.length<=i/\u0 L p H D (i+1) (η u D 69#(v++[.ref b])):=by
 revert h;show Ah λw=>aA λv J I P=>?_
 have x:=s _ _ J;have a:b≠D:=λe=>by rw[e,J]at O;cases O
 show cP v x P ((w.trans s).put S) (au (v++[.ref b]) aa ?_ (by rw[i!,X!];lia))
 rw[u3,ο C,j!];show Paired.snoc (151#(by intro _ _;show gE λe T g o q=>?_;show cP e T g o (by rw[ao g];show s _ _ q))) ?_
 show cP b rl a (w.free O) (by rw[ao a];show k)
def u4(p)(ts)(g:aC p ts)(M:List Nat):Nat->Nat:=M.foldl (λL k=>RM.join L (g.N.a k) (g.N.b k)) λx=>x
def Fi:u4 p J g (M++[k])=RM.join (u4 p J g M) (g.N.a k) (g.N.b k):=by
 unfold u4;rw[C_];rfl
def eO(p)(ts)(g:aC p ts)(m:Nat):Nat->Nat:=g.N.bS (λk=>10#0) ts.length
def Fj{g}{m:Nat}(d:m<53#0):u4 p J g (aW (m:Int))=eO p J g m:=by
 rw[eK d];show yQ _
def Pq:eO p J g (53#0-1)=g.N.gJ J.length:=by
 show RM.uZ λk Y=>by rw[HX];simp[Y]
def Pu{g:aC p J}:(J.length:Int)-(p:Int)+29#(ef (eO p J g (53#0-1)) p)=(g.N.cZ.length:Int):=by
 have h:=RM.Cv (N:=g.N);rw[RM.Fg];unfold ef
 rwa [RM.j9,Pq]
def Pw(a b:Nat):(if(b:Int)<(a:Int) then(b:Int) else(a:Int))=18#(min a b):=by
 split<;>lia
def Ib(a b:Nat):(if(b:Int) > (a:Int) then(b:Int) else(a:Int))=18#(max a b):=by
 split<;>lia
def k7(a b:Nat):13#(V.int a=V.int b)=decide (a=b):=by
 rw[R!];simp
 lia
end Ring
namespace RM
def Cy{l:List Nat}:∀{p},l.Nodup->(∀x∈l,x<p)->l.length<=p:=by
 intro p g P;have M:l.Perm ((19#p).filter λx=>13#(x∈l)):=by
  show(List.perm_ext_iff_of_nodup g (adD _ adS)).mpr λa=>?_
  rw[K!,E!];simp;show λh=>P a h
 rw[M.length_eq];have:=M! (λx=>13#(x∈l)) 19#p
 rwa [C!]at this
end RM
namespace Ring
open PySem L2
def u5:((19#p).filter f).Pairwise (· < ·):=adD _ List.pairwise_lt_range
def Fo(v:∀x,L x<=x)(W:L s=s)(M:s<p):(pieceOf L p s)[0]?=some s:=by
 unfold pieceOf;obtain⟨d,rfl⟩:=Nat.exists_eq_add_of_lt M;rw[95#(s+d+1=s+(d+1)),List.range_add,w?]
 have e:(19#s).filter (λx=>13#(L x=s))=[]:=by
  rw[_t];intro x B;have Z:=E!.mp B;have R:=v x;simp
  lia
 rw[e,List.nil_append,List.range_succ_eq_map,l!,G!,ο (by simp[W])]
 rfl
def k8(l:List Nat):aE l=(l.map λx=>((x:Nat):Int)).map V.int:=by unfold aE;rw[L!];rfl
def mK(u:Nat)(l):Sj (.int u) (aE l)=13#(u∈l):=by
 unfold Sj aE;rw[List.any_map,R!,adT];simp only[Function.comp,decide_eq_true_eq]
 constructor
 .show af λx B h=>?_
  have e:=eq_of_beq h;have:x=u:=by lia
  show this▸B
 .intro h;show ae u h (by simp[HM])
def i7(l):(aE l).all jz=true:=by
 unfold aE;rw[List.all_map,h_];intro x _;rfl
def and_int(a b:Nat):Builtin.bitAnd (a:Int) (b:Int)=18#(a&&&b):=by
 rw[adg (by lia) (by lia)]
 simp
def UA(T:Nat->Nat):Nat->Nat
 | 0=>0
 | n+1=>UA T n ||| T n
theorem Ic(T)(j):∀n,134#(UA T n)=true↔∃x,x<n/\134#(T x)=true
 | 0=>by simp[UA]
 | n+1=>by
   unfold UA;rw[Nat.testBit_or,Bool.or_eq_true,Ic T j n]
   constructor
   .rintro(⟨x,B,h⟩|h)
    .show ae x (by lia) h
    .show ae n (by lia) h
   .show af λx B h=>?_
    by_cases e:x=n
    .subst e;show .inr h
    .show .inl (ae x (by lia) h)
section
variable {p:Nat}{ts:List fN}{g:aC p ts}
def jC(p)(ts)(g:aC p ts):Nat:=maskOf g.N.mH ts.length
def Fp:UA (g.N.trail ts.length) p=jC p ts g:=by
 show q? λj=>?_
 unfold jC;rw[mask_bit,R!,Ic];simp only[N!,decide_eq_true_eq]
 constructor
 .show af λx _ h=>?_
  show RM.j8 _ _ _ h
 .rintro⟨Z,R⟩;rcases RM.Jz Z R with h|h
  .show ae _ (g.N.al j Z) h
  .show ae _ (g.N.bl j Z) h
def Fq(j):134#((2^ts.length-1)^^^jC p ts g)=(13#(j<ts.length) && ! g.N.mH j):=by
 unfold jC;rw[h!,HX,mask_bit];cases 13#(j<ts.length)<;>cases g.N.mH j<;>rfl
def yR:(2^ts.length-1)^^^jC p ts g<2^ts.length:=T! (203#(F? ts.length)) (mask_lt _ _)
def Cz:aW 18#((2^ts.length-1)^^^jC p ts g)=g.N.cZ:=by
 rw[eK yR];show _M λk Y=>?_
 have:=E!.mp Y;rw[Fq];simp[this]
end
def Px(n):((2:Int)^n-1)=18#(2^n-1):=by
 have h:(2^n)=18#(2^n):=by simp
 have:=F? n
 lia
theorem oq:∀{n},c<n->(19#n).filter (λk=>decide (k=c))=[c]
 | 0,h=>absurd h (E? _)
 | n+1,h=>by
   rw[dI]
   by_cases e:c=n
   .subst e;have z:(19#c).filter (λk=>decide (k=c))=[]:=by
     rw[_t];intro x B;have:=E!.mp B;simp
     lia
    rw[z];simp
   .rw[oq (by lia)]
    simp[e! e]
def nI{l:List Nat}{i:Nat}(h:l[i]?=some k):(aE l)[i]?=some (.int k):=by
 unfold aE;rw[d!,h];rfl
def rJ(f:Nat->Bool)(l:List Nat)(H:Hp)(D:Addr)(i:Nat)(M:List V)(G:Hp):Prop:=ak H G/\11#G/\M=aE ((l.take i).filter f)
def rJ.start(S:H D=none):rJ f l H D 0 [] 97#H:=bF (ak.new S) aa rfl
def rJ.len(p:rJ f l H D i M G):118#G:=by
 show⟨p.2.1,?_⟩;rw[p.2.2,az];show b! (M! _ _) (by rw[I!];lia)
def rJ.yes(p:rJ f l H D i M G)(S:H D=none)(s:ak G u)(Y:l[i]?=some k)(F:f k=true):11#u/\rJ f l H D (i+1) (M++[.int k]) (η u D 69#(M++[.int k])):=by
 show e7 (s _ _ p.2.1) ((p.1.trans s).put S) aa ?_;rw[A!,Y,w?];change _=aE (_++[k].filter f);rw[G!,ο F,List.filter_nil,cH,<-p.2.2]
def rJ.no(p:rJ f l H D i M G)(s:ak G u)(Y:l[i]?=some k)(F:f k=false):rJ f l H D (i+1) M u:=by
 show bF (p.1.trans s) (s _ _ p.2.1) ?_;rw[A!,Y,w?];change _=aE (_++[k].filter f);rw[G!,ξ (by rw[F];simp),List.filter_nil,A?]
 show p.2.2
def rJ.fin(p:rJ f l H D l.length M G):G D=4#(aE (l.filter f)):=by rw[p.2.1,p.2.2,o!]
def tG(f:Nat->Int)(l:List Nat)(H:Hp)(D:Addr)(i:Nat)(M:List V)(G:Hp):Prop:=ak H G/\11#G/\M=((l.take i).map f).map V.int
def tG.start(S:H D=none):tG f l H D 0 [] 97#H:=bF (ak.new S) aa rfl
def tG.len(p:tG f l H D i M G):118#G:=by
 show⟨p.2.1,?_⟩;rw[p.2.2,χ,χ,I!]
 lia
def tG.next(p:tG f l H D i M G)(S:H D=none)(s:ak G u)(Y:l[i]?=some k)(a:v = .int (f k)):11#u/\tG f l H D (i+1) (M++[v]) (η u D 69#(M++[v])):=by
 show e7 (s _ _ p.2.1) ((p.1.trans s).put S) aa ?_;rw[A!,Y,j!,j!,<-p.2.2,a];rfl
def tG.fin(p:tG f l H D l.length M G):G D=4#((l.map f).map V.int):=by rw[p.2.1,p.2.2,o!]
end Ring
namespace RM
theorem u6(f):∀n,cX f n=13#(cnt f n%2=1)
 | 0=>rfl
 | n+1=>by
   unfold cX cnt;rw[u6 f n]
   by_cases h:f n=true
   .rw[h,ο rfl]
    by_cases q:cnt f n%2=1
    .have C : ¬(cnt f n+1)%2=1:=by lia
     simp[q,C]
    .have C:(cnt f n+1)%2=1:=by lia
     simp[q,C]
   .have N:f n=false:=by simpa using h
    rw[N,ξ 7#0]
    simp
end RM
namespace Ring
open PySem L2
def J'(J:List fN)(m:Nat):Int:=((aW (m:Int)).map λk=>(dJ J k).2.2).sum
def JB(J:List fN)(f:Nat->Bool):Nat->Int
 | 0=>0
 | n+1=>JB J f n+(if f n=true then(dJ J n).2.2 else 0)
theorem sE(ts)(f):∀n,(((19#n).filter f).map λk=>(dJ ts k).2.2).sum=JB ts f n
 | 0=>rfl
 | n+1=>by
   rw[dI,j!,adC,sE ts f n];change _=JB ts f n+(if f n=true then(dJ ts n).2.2 else 0)
   split<;>simp
def JC{J:List fN}(d:m<53#0):J' J m=JB J (λk=>10#0) J.length:=by
 unfold J';rw[eK d];show sE J _ _
section
variable {p:Nat}{ts:List fN}(g:aC p ts)
include g
end
end Ring
namespace RM
def sm(f:Nat->Nat):Nat->Nat
 | 0=>0
 | n+1=>sm f n+f n
theorem kc:∀{n},(∀k,k<n->f k=g k)->sm f n=sm g n
 | 0,_=>rfl
 | n+1,h=>by
   change sm f n+f n=sm g n+g n;rw[kc 159#h,h n (by lia)]
theorem AE(f g):∀n,sm (λk=>f k+g k) n=sm f n+sm g n
 | 0=>rfl
 | n+1=>by
   change sm (λk=>f k+g k) n+(f n+g n)=sm f n+f n+(sm g n+g n)
   rw[AE f g n]
   lia
theorem AF:∀n,sm (λ_=>0) n=0
 | 0=>rfl
 | n+1=>by
   change sm (λ_=>0) n+0=0
   rw[AF n]
theorem Ie(f:Nat->Nat->Nat)(n):∀p,sm (λx=>sm (λk=>f x k) n) p=sm (λk=>sm (λx=>f x k) p) n
 | 0=>(AF n).symm
 | p+1=>by
   change sm (λx=>sm (λk=>f x k) n) p+sm (λk=>f p k) n=sm (λk=>sm (λx=>f x k) p+f p k) n
   rw[Ie f n p,AE]
theorem k9(f):∀n,cnt f n=sm (λk=>46#(f k)) n
 | 0=>rfl
 | n+1=>by
   change cnt f n+(46#(f n))=sm (λk=>46#(f k)) n+(46#(f n))
   rw[k9 f n]
theorem Ig:∀{n},(∀k,k<n->f k<=g k)->sm f n<=sm g n
 | 0,_=>Ξ _
 | n+1,h=>by
   have Z:=Ig (n:=n) 159#h
   have R:=h n (by lia)
   change sm f n+f n<=sm g n+g n
   lia
def VA(h:∀k,k<n->f k<=g k)(e:sm f n=sm g n):∀k,k<n->f k=g k:=by
 induction n with
 | zero=>show λk Y=>absurd Y (E? _)
 | succ n G =>
   intro k Y;have Z:=Ig (n:=n) 159#h
   have R:=h n (by lia)
   have e:sm f n+f n=sm g n+g n:=e
   by_cases t:k=n
   .subst t
    lia
   .show G (λj D=>h j (by lia)) (by lia) k (by lia)
def SJ(h:∀k,k<n->f k=true->g k=true):cnt f n<=cnt g n:=by
 rw[k9,k9];show Ig λk Y=>?_
 by_cases F:f k=true
 .rw[ο F,ο (h k Y F)];show Ξ _
 .rw[ξ F];show r! _
def Mw(h:∀k,k<n->f k=true->g k=true)(e:cnt f n=cnt g n):∀k,k<n->g k=true->f k=true:=λk Y M=>by
 rw[k9,k9]at e;have q:=VA (λk Y=>by
  by_cases F:f k=true
  .rw[ο F,ο (h k Y F)];show Ξ _
  .rw[ξ F];show r! _) e k Y
 rw[ο M]at q
 by_cases F:f k=true
 .show F
 .rw[ξ F]at q
  lia
theorem u7:∀{n},0<cnt f n->∃k,k<n/\f k=true
 | 0,h=>204#h
 | n+1,h=>by
   by_cases F:f n=true
   .show ae n 224#0 F
   .have h:0<cnt f n+(46#(f n)):=h
    rw[ξ F]at h;show af (λk Y q=>?_) (u7 224#0)
    show ae k 224#0 q
theorem qo(F:f k=true):∀{n},k<n->0<cnt f n
 | 0,h=>absurd h (E? _)
 | n+1,h=>by
   change 0<cnt f n+(46#(f n))
   by_cases Y:k=n
   .subst Y;rw[ο F]
    lia
   .have:=qo F (n:=n) (by lia)
    lia
theorem uf:∀{n},2<=cnt f n->∃c d,c<d/\d<n/\f c=true/\f d=true
 | 0,h=>absurd h (by change ¬ 2<=0;omega)
 | n+1,h=>by
   have h:2<=cnt f n+(46#(f n)):=h
   by_cases F:f n=true
   .rw[ο F]at h;show af (λk Y q=>?_) (u7 (f:=f) (n:=n) 224#0)
    show bC k n Y 224#0 q F
   .rw[ξ F]at h;show aY (λc d Z R l A=>?_) (uf 224#0)
    show bC c d Z 224#0 l A
theorem Ih(c:f u=true)(a:f v=true)(ne:u≠v):∀{n},u<n->v<n->2<=cnt f n
 | 0,h,_=>absurd h (E? _)
 | n+1,Z,R=>by
   change 2<=cnt f n+(46#(f n))
   by_cases t:u=n
   .subst t;have:=qo a (n:=u) (by lia)
    rw[ο c]
    lia
   .by_cases U:v=n
    .subst U;have:=qo c (n:=v) (by lia)
     rw[ο a]
     lia
    .have:=Ih c a ne (n:=n) (by lia) (by lia)
     lia
theorem AG(a):∀n,cnt (λx=>decide (a=x)) n=if a<n then 1 else 0
 | 0=>rfl
 | n+1=>by
   change cnt (λx=>decide (a=x)) n+(46#(decide (a=n)))=_
   rw[AG a n]
   by_cases e:a=n
   .subst e;simp
   .have d:(46#(decide (a=n)))=0:=ξ (by simpa using e)
    rw[d]
    by_cases h:a<n
    .rw[ο h,ο (by lia)]
    .rw[ξ h,ξ (by lia)]
theorem u9:∀{n},(∀x,x<n->¬(f x=true/\g x=true))->cnt (λx=>f x^^g x) n=cnt f n+cnt g n
 | 0,_=>rfl
 | n+1,h=>by
   change cnt (λx=>f x^^g x) n+(if(f n^^g n)=true then 1 else 0)=cnt f n+(46#(f n))+(cnt g n+(46#(g n)))
   rw[u9 λx B=>h x (by lia)]
   have q:=h n (by lia)
   cases F:f n<;>cases M:g n
   .simp
   .simp
    lia
   .simp
    lia
   .show absurd ⟨F,M⟩ q
variable {N:Net}
def Net.dg(N:Net)(m x:Nat):Nat:=182#(10#0&&N.inc k x)
def Rk(m x):N.bd m x=13#(N.dg m x%2=1):=u6 _ _
def Py(e:N.eR m)(B:x<N.p):N.dg m x%2=0:=by
 have h:=e x B;rw[Rk]at h;have:=of_decide_eq_false h
 lia
def AH(Y:k<N.n):N.inc k x=true↔(N.a k=x\/N.b k=x):=by
 have G:=N.ne k Y;unfold Net.inc
 by_cases Z:N.a k=x
 .have R : ¬ N.b k=x:=λz=>G (Z.trans z.symm)
  simp[Z,R]
 .by_cases R:N.b k=x
  .simp[Z,R]
  .simp[Z,R]
def Pz(Y:k<N.n):cnt (N.inc k) N.p=2:=by
 have G:=N.ne k Y;have e:cnt (N.inc k) N.p=cnt (λx=>13#(N.a k=x)^^13#(N.b k=x)) N.p:=rfl
 rw[e,u9 λx _ ⟨Z,R⟩=>G ((nB Z).trans (nB R).symm),AG,AG,ο (N.al k Y),ο (N.bl k Y)]
def SK(m:Nat):sm (λx=>N.dg m x) N.p=2*182#10#0:=by
 have e:sm (λx=>N.dg m x) N.p=sm (λx=>sm (λk=>if(10#0&&N.inc k x)=true then 1 else 0) N.n) N.p:=kc λx _=>k9 _ _
 rw[e,Ie,k9];have d:∀n,2*sm (λk=>46#10#0) n=sm (λk=>(46#10#0)+(46#10#0)) n:=λn=>by
  rw[AE]
  lia
 rw[d];show kc λk Y=>?_
 by_cases h:10#0=true
 .rw[ο h];have q:=Pz Y;rw[k9]at q;show(kc λx _=>by rw[h,V?]).trans q
 .rw[ξ h];have a:10#0=false:=by simpa using h
  have:sm (λx=>if(10#0&&N.inc k x)=true then 1 else 0) N.p=sm (λ_=>0) N.p:=kc λx _=>by rw[a];rfl
  rw[this,AF]
def Rl{m k x:Nat}(Y:k<N.n)(O:10#0=true)(B:N.a k=x\/N.b k=x):0<N.dg m x:=qo (by rw[O,V?];show(AH Y).mpr B) Y
def Ii(h:0<N.dg m x):∃k,k<N.n/\10#0=true/\(N.a k=x\/N.b k=x):=by
 show af (λk Y q=>?_) (u7 h)
 rw[N!]at q;show au k Y q.1 ((AH Y).mp q.2)
def alone(h:N.dg m x=0)(c:N.mG (λk=>10#0) N.n x y):y=x:=by
 induction c with
 | refl=>rfl
 | fwd _ D W G=>show absurd (Rl D W (.inl G)) (by lia)
 | bwd _ D W G=>show absurd (Rl D W (.inr G)) (by lia)
def JD(Y:k<=N.n)(c:N.mG S k u v):∃t,(∀j,t.testBit j=true->j<k/\S j=true)/\∀x,N.bd t x=(decide (u=x)^^decide (v=x)):=by
 induction c with
 | refl=>show ae 0 (λj D=>by simp at D) λx=>by rw[nG];simp
 | fwd _ D W G =>
   rename_i j _
   revert G;show af λt Z R=>?_
   show ae (t^^^2^j) (λi I=>?_) λx=>?_
   .rw[h!,J!]at I
    by_cases e:j=i
    .subst e;show⟨D,W⟩
    .rw[gm e,Z!]at I;show Z i I
   .rw[gX,R,mF (by lia)]
    unfold Net.inc;cases decide (u=x)<;>cases 13#(N.a j=x)<;>cases 13#(N.b j=x)<;>rfl
 | bwd _ D W G =>
   rename_i j _
   revert G;show af λt Z R=>?_
   show ae (t^^^2^j) (λi I=>?_) λx=>?_
   .rw[h!,J!]at I
    by_cases e:j=i
    .subst e;show⟨D,W⟩
    .rw[gm e,Z!]at I;show Z i I
   .rw[gX,R,mF (by lia)]
    unfold Net.inc;cases decide (u=x)<;>cases 13#(N.a j=x)<;>cases 13#(N.b j=x)<;>rfl
def Net.Ring(N:Net)(m:Nat):Prop:=m≠0/\N.eR m/\∀q,(∀k,q.testBit k=true->10#0=true)->N.eR q->q=0\/q=m
def Ft(d:m<2^N.n)(r:N.Ring m):∃v,v<N.n/\m.testBit v=true/\∀k,k<N.n->10#0=true->90#(N.a k)=90#(N.a v):=by
 revert r;show cW λo a P=>?_
 obtain⟨v,E⟩:=r_ o;have g:=eX d E;show au v g E ?_;generalize W:90#(N.a v)=s
 have bit:∀k,(Ring.maskOf (λk=>10#0&&decide (90#(N.a k)=s)) N.n).testBit k=(13#(k<N.n)&&(10#0&&decide (90#(N.a k)=s))):=λk=>Ring.mask_bit _ k _
 have sub:∀k,(Ring.maskOf (λk=>10#0&&decide (90#(N.a k)=s)) N.n).testBit k=true->10#0=true:=λk Y=>by
  rw[bit,N!,N!]at Y;show Y.2.1
 have u:N.eR (Ring.maskOf (λk=>10#0&&decide (90#(N.a k)=s)) N.n):=λx B=>by
  have e:N.bd (Ring.maskOf (λk=>10#0&&decide (90#(N.a k)=s)) N.n) x=(decide (90#x=s)&&N.bd m x):=by
   unfold Net.bd;rw[<-qi];show cT λk Y=>?_
   rw[bit,e8 Y,V?];cases O:10#0 with
   | false=>simp
   | true =>
     cases I:N.inc k x with
     | false=>simp
     | true =>
       have c:90#(N.a k)=90#x:=by
        rcases(AH Y).mp I with z|z
        .rw[z]
        .rw[<-z];show ql Y O
       rw[c];simp
  rw[e,a x B,d_]
 rcases P _ sub u with q|q
 .have:=bit v;rw[q,E,W,e8 g]at this;simp at this
 .intro k Y O;have h:=bit k;rw[q,O,e8 Y]at h;show nB (by simpa using h.symm)
theorem yS(S):∀k,k<=N.n->cnt (N.root S k) N.p+cnt (λj=>S j && ! 13#(N.bS S j (N.a j)=N.bS S j (N.b j))) k=N.p
 | 0,_=>by
   change cnt (N.root S 0) N.p+0=N.p;rw[AB (f:=N.root S 0) λx _=>e8 rfl]
   rfl
 | k+1,Y=>by
   have G:=yS S k (by lia)
   have st:=uY (N:=N) (S:=S) (k:=k) (by lia)
   change cnt (N.root S (k+1)) N.p+(cnt (λj=>S j && ! 13#(N.bS S j (N.a j)=N.bS S j (N.b j))) k+if(S k && ! 13#(N.bS S k (N.a k)=N.bS S k (N.b k)))=true then 1 else 0)=N.p
   lia
def Mx(b:m<2^N.n)(r:N.Ring m)(C)(a:∀x,x<N.p->C x=decide (90#x=s))
 (F:∀k,k<N.n->10#0=true->C (N.a k)=true):2<=cnt C N.p/\cnt C N.p=182#10#0/\∀x,x<N.p->C x=false->90#x=x/\∀y,90#y=x->y=x:=by
 revert r;show cW λo T P=>?_
 obtain⟨v,E⟩:=r_ o;have g:=eX b E;have H:∀k,k<N.n->10#0=true->C (N.a k)=true/\C (N.b k)=true:=λk Y O=>by
  have h:=F k Y O;show⟨h,?_⟩;rw[a _ (N.al k Y)]at h
  rwa [a _ (N.bl k Y),<-ql Y O]
 have R:=Ih (H v g E).1 (H v g E).2 (N.ne v g) (N.al v g) (N.bl v g);have none:∀x,x<N.p->C x=false->N.dg m x=0:=λx B L=>by
  cases q:N.dg m x with
  | zero=>rfl
  | succ d =>
    exfalso
    show aA (λk Y O b=>?_) (Ii (N:=N) (m:=m) (x:=x) (by lia))
    rcases b with e|e
    .have:=(H k Y O).1;rw[e,L]at this;cases this
    .have:=(H k Y O).2;rw[e,L]at this;cases this
 have Q:∀x,x<N.p->C x=false->90#x=x/\∀y,90#y=x->y=x:=λx B L=>by
  have q:=none x B L;have J:=alone q (fD _ _ _ (gH _ _).symm);show⟨J,λy W=>alone q (fD _ _ _ (J.trans W.symm))⟩
 show bF R ?_ Q;have i:∀x,x<N.p->C x=true->0<N.dg m x:=λx B L=>by
  cases q:N.dg m x with
  | succ d=>lia
  | zero =>
    exfalso
    obtain⟨y,W,b,n⟩:∃y,y<N.p/\C y=true/\y≠x:=by
     show aY (λc d Z l A M=>?_) (uf R)
     by_cases e:c=x
     .show au d l M (by lia)
     .show au c (by lia) A e
    rw[a x B]at L;rw[a y W]at b;show n (alone q (fD _ _ _ ((nB L).trans (nB b).symm)))
 have U:cnt C N.p<=182#10#0:=by
  have h:sm (λx=>if C x=true then 2 else 0) N.p<=sm (λx=>N.dg m x) N.p:=Ig λx B=>by
   by_cases L:C x=true
   .rw[ο L];have Z:=i x B L;have l:=Py T B
    lia
   .rw[ξ L];show r! _
  rw[SK]at h;have d:sm (λx=>if C x=true then 2 else 0) N.p=2*cnt C N.p:=by
   rw[k9];have d:∀n,2*sm (λk=>46#(C k)) n=sm (λk=>(46#(C k))+(46#(C k))) n:=λn=>by
    rw[AE]
    lia
   rw[d];show kc λx _=>by split<;>rfl
  lia
 show Nat.le_antisymm U (Nat.le_of_not_lt λw=>?_)
 have A:=yS (λk=>10#0) N.n (Ξ _)
 have M:cnt (N.root (λk=>10#0) N.n) N.p+cnt C N.p=N.p+1:=by
  have d:=(H v g E).1;rw[a _ (N.al v g)]at d;have W:=nB d;have b:s<N.p:=by rw[<-W];show ud (N.al v g)
  have i:90#s=s:=by rw[<-W];show gH _ _
  have e:cnt (N.root (λk=>10#0) N.n) N.p=cnt (λx=>! C x^^decide (s=x)) N.p:=i5 λx B=>by
   unfold Net.root;cases L:C x with
   | false =>
     have G : ¬ s=x:=λz=>by
      have:=a x B;rw[L,<-z,i]at this;simp at this
     rw[e8 (Q x B L).1,gm G];rfl
   | true =>
     have h:=a x B;rw[L]at h;have h:=nB h.symm;rw[h];simp
  rw[e,u9 λx B ⟨u,X⟩=>by
   have X:=nB X;have:=a x B;rw[<-X,i]at this;rw[<-X,this]at u;simp at u,AG,ο b]
  have:=AA C N.p
  lia
 have split:182#10#0=cnt (λj=>m.testBit j && ! decide (N.bS (λk=>10#0) j (N.a j)=N.bS (λk=>10#0) j (N.b j))) N.n+cnt (λj=>m.testBit j&&decide (N.bS (λk=>10#0) j (N.a j)=N.bS (λk=>10#0) j (N.b j))) N.n:=by
  rw[<-u9 λx _ ⟨u,X⟩=>by
   rw[N!]at u X;have:=u.2;rw[X.2]at this;cases this]
  show i5 λk _=>?_
  cases 10#0<;>cases decide (N.bS (λk=>10#0) k (N.a k)=N.bS (λk=>10#0) k (N.b k))<;>rfl
 show aY (λc d p J b n=>?_) (uf (f:=λj=>m.testBit j&&decide (N.bS (λk=>10#0) j (N.a j)=N.bS (λk=>10#0) j (N.b j))) (n:=N.n) (by lia))
 have l:∀j,j<N.n->(m.testBit j&&decide (N.bS (λk=>10#0) j (N.a j)=N.bS (λk=>10#0) j (N.b j)))=true->∀i,m.testBit i=true->i<=j:=λj D h i I=>by
  rw[N!]at h;show af (λt G S=>?_) (JD (U! D) (fD _ _ _ (nB h.2)))
  have z:134#(t^^^2^j)=true:=by
   rw[h!,J!,e8 rfl];cases q:t.testBit j with
   | false=>rfl
   | true=>show 204#(G j q).1
  have sub:∀k,(t^^^2^j).testBit k=true->10#0=true:=λk Y=>by
   rw[h!,J!]at Y
   by_cases e:j=k
   .subst e;show h.1
   .rw[gm e,Z!]at Y;show(G k Y).2
  have u:N.eR (t^^^2^j):=λx B=>by
   rw[gX,S,mF D];unfold Net.inc;cases 13#(N.a j=x)<;>cases 13#(N.b j=x)<;>rfl
  rcases P _ sub u with q|q
  .rw[q]at z;simp at z
  .rw[<-q,h!,J!]at I
   by_cases e:j=i
   .lia
   .rw[gm e,Z!]at I;show U! (G i I).1
 have Z:m.testBit d=true:=by
  rw[N!]at n;show n.1
 have:=l c (by lia) b d Z
 lia
end RM
namespace Ring
open PySem L2
def rK(L:Nat->Nat)(p:Nat):List Nat:=(ef L p).filter λs=>13#(1<29#(pieceOf L p s))
def rL(L)(p s):29#(pieceOf L p s)=RM.cnt (λx=>13#(L x=s)) p:=RM.j9 _ _
def vc{m n:Nat}(d:m<2^n):29#(aW (m:Int))=RM.cnt (λk=>10#0) n:=by
 rw[eK d];show RM.j9 _ _
def JE(L:c<n)(h:∀k,k<n->f k=decide (k=c)):(19#n).filter f=[c]:=by
 rw[<-oq L];show _M λk Y=>h k (E!.mp Y)
theorem Ij:∀l d:List Nat,PyData.eqvAll (l.map pG) (d.map pG)=decide (l=d)
 | [],[]=>rfl
 | [],_::_=>rfl
 | _::_,[]=>rfl
 | x::l,y::d=>by
   change((x==(y:Int))&&PyData.eqvAll (l.map pG) (d.map pG))=13#(x::l=y::d);rw[Ij l d,R!];simp
   lia
def rM(l d:List Nat):PyData.eqv (.list (l.map pG)) (.list (d.map pG))=decide (l=d):=Ij l d
def SM(H:Hp)(y:V)(l:List Nat):Prop:=∃b,y = .ref b/\H b=4#(aE l)
def vd(f:List Nat->Bool)(U:127#Nat)(H:Hp)(D:Addr)(i:Nat)(M:List V)(G:Hp):Prop:=ak H G/\11#G/\Paired (SM H) M ((U.take i).filter f)
def vd.start(S:H D=none):vd f U H D 0 [] 97#H:=bF (ak.new S) aa .nil
def vd.len(h:vd f U H D i M G):118#G:=⟨h.2.1,by
 rw[h.2.2.length];show b! (M! _ _) (by rw[I!];lia)⟩
def vd.yes(h:vd f U H D i M G)(S:H D=none)(P:U[i]?=some l)(F:f l=true)(W:SM H y l):11#G/\vd f U H D (i+1) (M++[y]) (η G D 69#(M++[y])):=by
 show e7 h.2.1 (h.1.put S) aa ?_;rw[A!,P,w?];change Paired _ _ (_++List.filter f [l]);rw[G!,ο F];show Paired.snoc h.2.2 W
def vd.no(h:vd f U H D i M G)(P:U[i]?=some l)(F:f l=false):vd f U H D (i+1) M G:=by
 show bF h.1 h.2.1 ?_;rw[A!,P,w?];change Paired _ _ (_++List.filter f [l]);rw[G!,ξ (by rw[F];show w!)]
 simpa using h.2.2
end Ring
namespace L2
open PySem PySem.Spec PyProof.Rows
section
variable   {A:Around}  {s:Shared}
def Fv(d:s.heap.IsTupleIter y t i)(n:s.heap.IsTuple t p)(B:p[i]?=some x)
 (q:∀h',h'.IsTupleIter y t (i+1)->213#y->153#x):52#(Builtin.SmallTypes.nextOf (.ref y)):=by
 show aA (λo Y L J=>?_) (id d)
 revert n;show cM λb a _ R U=>?_
 rw[Builtin.SmallTypes.nextOf];show aU (wpAny_callSpecial?_slot d.typeIs F.slot_tuple_iterator_next (wpAny_call_entry F.slot_tuple_iterator_next d.typeIs F.entry_tuple_iterator_next ?_ (F.args_tuple_iterator_next_1 _)));show 172#(field (.ref y) 0 >>= λ_=>_)
 show aU (wpAny_field Y J rl ?_);rw[ξ 22#0]
 show aU (wpAny_field Y J rl ?_);show aU (wpAny_seqItems a U ?_);simp only[x!,B];show aU (wpAny_setField Y J 22#0 (Θ (ae x rl (Θ (q _ ?_ (i? ..))))))
 show au _ (Q? _ Y (U_ (B_ J _))) ((_L ..).trans L) ?_;rw[B_ J];simp[rawInt]
def JF(k:A.handled=none)(d:s.heap.IsTupleIter y t i)(n:s.heap.IsTuple t p)(B:p[i]?=none)
 (q:∀h' e,Heap.ExtBut y s.heap h'->(∃o,h'.get? e=some o/\o.cls = .type "StopIteration")->E (.ref e) { s with heap:=h'}):52#(Builtin.SmallTypes.nextOf (.ref y)):=by
 show aA (λo Y L J=>?_) (id d)
 revert n;show cM λb a _ R U=>?_
 rw[Builtin.SmallTypes.nextOf];show aU (wpAny_callSpecial?_slot d.typeIs F.slot_tuple_iterator_next (wpAny_call_entry F.slot_tuple_iterator_next d.typeIs F.entry_tuple_iterator_next ?_ (F.args_tuple_iterator_next_1 _)));show 172#(field (.ref y) 0 >>= λ_=>_)
 show aU (wpAny_field Y J rl ?_);rw[ξ 22#0]
 show aU (wpAny_field Y J rl ?_);show aU (wpAny_seqItems a U ?_);simp only[x!,B];show aU (wpAny_rule (aU (wpAny_setField Y J 22#0 ?_)))
 show aU ?_;show aU (wpAny_newObj_type ?_ (by size_fits))
 show aU (wpAny_of_eq (by first | rfl | (simp only[firstArgMember];rfl)) (wpAny_newObj_type ?_ (by size_fits)))
 show wpAny_raiseNew_none k (q _ _ (((i? ..).extBut.push _).push _) (ae _ (v! _ rl) rl))
def sF(k:A.handled=none)(y t:Addr)(n:t≠y)(p:Array Value):
 Draws prog w A y [y,t] p.size (λi v=>p[i]?=some v) (λi h=>h.IsTupleIter y t i/\h.IsTuple t p) where
 live:=λ_ _ st=>let⟨o,ho,_⟩:=st.1;⟨o,ho⟩
 frame:=λ_ _ _ st Y=>⟨st.1.at λo e=>Y y 22#0 o e,st.2.at λo e=>Y t 22#0 o e⟩
 item:=λi s Q E I st T=>Fv st.1 st.2 (x:=p[i]) (by simp[I]) λN a u=>T _ N s.toks (by simp[I]) ⟨a,st.2.extBut u.extBut n⟩ u
 done:=λs Q E st b=>JF k st.1 st.2 22#0 b
end
open AutoSeq1 (wpAny_loadPart') in
def rN(l)(items)(n)(dct)(sl):
 Meets (Builtin.«enumerate.__new__» ⟨[.type "enumerate",.ref l],[]⟩) (λ_ R s=>s.heap.get? l=some { cls:=.type "tuple",dict:=dct,data:=.seq items n,slots:=sl}/\
  R (161#(.ref 35#85#(.type "tuple_iterator")))
    { s with heap:=(110#85#(.type "tuple_iterator")).push { cls:=.type "enumerate",data:=.fields #[.none,.bool false,23#.ref,rawInt 0,.none,.none]}}) :=
 .of_wp λL w A R s h=>by
  obtain⟨M,g,d,j,os⟩:=s;obtain⟨P,h⟩:=h;have f:=sub_enumerate;have U:Heap.IsTuple (Shared.heap 177#j) l items:=ae _ P (cD rl n rl)
  wp_walk using 173#P
  show wpAny_stack_any λst=>Θ ?_
  split
  .rename_i c _ _ _ _ _
   cases(c==Value.type "enumerate")
   .wp_walk using 173#P,wpAny_pyIter_tuple U
    show ae _ rl h
   .wp_walk using 173#P,wpAny_pyIter_tuple U
    show ae _ rl h
  .wp_walk using 173#P,wpAny_pyIter_tuple U
   show ae _ rl h
section
variable     {s:Shared}
def Fw(U:s.heap.IsTuple l p)
 (h:∀h',IsEnum h' (40#0) s.heap.objs.size 0 .none->h'.IsTupleIter s.heap.objs.size l 0->h'.objs.size=s.heap.objs.size+2->(∀b o,16#o->48#h'.get?)->153#(.ref (40#0))) :
 52#(call (.type "enumerate") [.ref l]):=by
 revert U;show cM λf P L n J=>?_;obtain⟨c,k,g,i⟩:=f
 replace L:c = .type "tuple":=L
 replace J:g = .seq p n:=J
 subst L J;show callType_new F.called_enumerate 7#0 (F.typeCall_enumerate_1 _) (F.newCall_enumerate_1 _) (λa=>F.args_object_init_2 a _) F.entry_enumerate_new (rN l p n k i) ⟨P,?_⟩
 have m:35#85#(.type "tuple_iterator")=40#0:=Z? ..;rw[m];have T:IsEnum ((110#85#(.type "tuple_iterator")).push { cls:=.type "enumerate",data:=.fields #[.none,.bool false,23#.ref,rawInt 0,.none,.none]}) (40#0) s.heap.objs.size 0 .none:=by
  have z:=v! (110#85#(.type "tuple_iterator")) (o:={ cls:=.type "enumerate",data:=.fields #[.none,.bool false,23#.ref,rawInt 0,.none,.none]}) rfl;rw[m]at z;show z
 show⟨ae _ T rfl,h _ T (au _ (c! _ (v! _ rl)) rl rl) (by rw[Z?,m]) λb o x=>c! _ (c! _ x)⟩
end
def JG(K:cu)(a:Addr):It :=
 ⟨λi H=>∃f x,aZ K H a f/\f[i]?=some x,λi H v Y=>∃T x,v = .ref T/\H T=none/\Y=η H T (.tup [.int i,x])/\∀f,aZ K H a f->f[i]?=some x,λi H=>∃f,aZ K H a f/\f.length=i⟩
def Fx{K}(a e it)(n:e≠it):
 Turn P w K (.Tuple b k l) (JG K a) [e,it] e (λi h=>(∃old,IsEnum h e it (i:Int) old)/\h.IsTupleIter it a i) where
 mem:=by simp
 obj:=λi h st b O=>by
  revert st;show Ah λr=>aA λo q c d=>?_;obtain⟨old,T⟩:=r
  have Q:b=e\/b=it:=108#0
  rcases Q with rfl|rfl
  .show ae _ T 198#0
  .show ae o q λv z=>by rw[d]at z;cases z
 keep:=λi h N st k=>by
  obtain⟨⟨old,T⟩,d⟩:=st;show⟨⟨old,k e 22#0 _ T⟩,d.at λo x=>k it 22#0 o x⟩
 item:=by
  intro X g hw J L i S s U H E I F st M;subst g hw J
  revert M;show bh λf x D B=>?_
  show aA (λC G p m=>?_) (I.tuple D)
  show af (λu c ru=>?_) (G.get B)
  obtain⟨⟨old,T⟩,d⟩:=st;have k:=p;have l:a≠it:=λz=>by
   revert k;show cM λr Z _ _ t=>?_
   revert d;show aA λv R _ j=>?_
   rw[z,R]at Z;cases Z;rw[j]at t;cases t
  have hae:e∉[it,a]:=λz=>by
   have y:e=it\/e=a:=by simpa using z
   rcases y with y|y
   .show n y
   .revert k;show cM λr Z _ _ t=>?_
    rw[<-y,T]at Z;cases Z;cases t
  show wpAny_pyNext_enum_itemD (sF (A:=X.A.in1) (I.ok.hd L) it a l C.toArray) T ⟨d,k⟩ (by have:=(iJ.mp c).1;simpa using this) n hae λy Z tk W q SA j hsz Y=>?_
  have hyu:y=u:=by
   have z:C.toArray[i]?=some u:=by simpa using c
   rw[W]at z;show 20#z
  subst hyu;show ae _ rl (wpAny_letOwnedTupleGo_enum q λR WU r=>?_)
  have c:=j? (a! T);have u:=(r.2 _ c).trans j;show cI (23#.ref) (η H s.heap.objs.size (.tup [.int i,x])) (I.yields (λb o O q=>?_) F (Ξ _) ?_) rl (bC _ x rl I.fresh rl (λv W=>by rw[I.yq W D];show B)) ⟨⟨y,by simpa using WU⟩,?_⟩ λb O=>?_
  .have t:b≠e:=λz=>O (by simp[z])
   have Q:b≠it:=λz=>O (by simp[z])
   show(r.2 b t).trans (Y b o t Q q)
  .show bR (dl rl) [.int i tk,y] (.cons 197#0 117#ru) (ae _ u (cD rl _ rl))
  .show SA.1.at λo q=>(r.2 it (e! n)).trans q
  .rw[ao]
   .show(F b O).1
   .have Q:b=e\/b=it:=108#0
    rcases Q with rfl|rfl
    .show e! c
    .revert d;show af λo q _=>?_
     show n! (a! q)
 done:=by
  intro X g hw J L i S s U H E I F st M;subst g hw J
  revert M;show af λf D B=>?_
  show aA (λC G p m=>?_) (I.tuple D)
  obtain⟨⟨old,T⟩,d⟩:=st;have k:=p;have l:a≠it:=λz=>by
   revert k;show cM λr Z _ _ t=>?_
   revert d;show aA λv R _ j=>?_
   rw[z,R]at Z;cases Z;rw[j]at t;cases t
  show eV (λt y Q c R Z=>?_) (F it 22#0)
  have r:=G.length;have j:i=C.toArray.size:=by rw[B!];lia
  subst j;show wpAny_pyNext_enum_endD (sF (A:=X.A.in1) (I.ok.hd L) it a l C.toArray) T ⟨d,k⟩ λN q=>34#(I.turned (λb o O e=>q b o O e) t y c R Z)
 self:=λ_ _ _ _ _ st h=>by
  obtain⟨⟨old,T⟩,_⟩:=st;show wpAny_pyIter_enum T h
section
variable {X:Cx}{elts:List Expr}{n:Nat}{tp:Pos}
def SN(K:cu)(z:TA):TI:=λU H R=>z U H λF N=>∃a,F=[.ref a]/\(∃f,aZ K N a f)/\R (JG K a) N
def ve(K:cu){a:Expr}{z:TA}{p l:Pos}(M:Gl X "enumerate")(d:X.mg "enumerate"=none)(E:PA X [a] z)(W:9#([a])=[25#a]:=by rfl)(o:X.K=K:=by rfl):
 PI X (.Tuple elts n tp) (.Call (.Name "enumerate" p) [a] [] l) (SN K z):=by
 subst o;intro S s U H R I h;show Call_ (jO I M d boot_enumerate (s_ (c6 (E l S s U H _ I h) λg j=>aD λF N A J v=>?_) W rl))
 revert v;show aA λa e t q=>?_;obtain⟨f,D⟩:=t
 subst e;cases J with
 | cons r y =>
   cases y;cases r;show aA (λC G k m=>?_) (A.tuple D)
   show Fw (k) λi T u x Y=>?_
   have L:θ X S U N { j with heap:=i}:=A.kept (t':=j.toks) Y
   show wpAny_pyIter_enum T (b9 _ [j.heap.objs.size+1,j.heap.objs.size] _ _ N rl L (Fx a _ _ (_a _)) ⟨⟨_,T⟩,u⟩ (λb O=>?_) q)
   have Q:b=j.heap.objs.size+1\/b=j.heap.objs.size:=108#0
   have c:j.heap.objs.size<=b:=by
    rcases Q with rfl|rfl
    .show Q! _
    .show Ξ _
   show A.xC c (A.hok.fresh c)
end
section
variable {K:cu}  {xs:List V}     {fr:St}
def Fy(d:81#(List V))(o:d 0 [] N)(P:∀i M H,i<=xs.length->d i M H->aZ K H a xs/\118#H)(hz:36#xs.length)
 (W:∀i x T M H,xs[i]?=some x->d i M H->H T=none->g (.ref T) (73#n++fr) (η H T (.tup [.int i,x])) λt G=>t.drop n=fr/\h t G λb u =>
  152#t)
 (J:∀M H,d xs.length M H->Q H):gn (JG K a) g h C n fr D Q N:=by
 show 106#(λi m M H=>112#M)
 intro i m M H;show cW λR I p=>?_;subst R
 show cW (λq S E=>?_) (P i M H I p)
 show⟨S,?_⟩
 by_cases w:i<xs.length
 .show .inr (aX (bf xs (xs[i]) q (by simp[w])) (by lia) (d (i+1)) (λl Y F=>113#F) (λv Y y=>?_))
  revert y;show aY λT x O j e y=>?_;subst O e
  show W i x T M _ (y xs q) p j
 .show 206
  subst e;show .inl ⟨ae xs q rfl,J M H p⟩
end
end L2
namespace RM
variable {N:Net}
def Net.cut(N:Net)(C:Nat->Bool):Nat:=Ring.maskOf (λk=>C (N.a k)^^C (N.b k)) N.n
def Net.par(N:Net)(q m:Nat):Bool:=cX (λk=>q.testBit k&&10#0) N.n
def lg(q r m):N.par (q^^^r) m=(N.par q m^^N.par r m):=by
 unfold Net.par;rw[<-ji];show cT λk _=>?_
 rw[h!];cases q.testBit k<;>cases 183#0<;>cases 10#0<;>rfl
def kg(m):N.par 0 m=false:=ig λk _=>by simp
def AI(h:k<N.n)(m:Nat):N.par (2^k) m=10#0:=by
 unfold Net.par;rw[qj h λj _ D=>by simp[J!,e! D]]
 simp[J!]
def AJ(C)(k):(N.cut C).testBit k=(13#(k<N.n)&&(C (N.a k)^^C (N.b k))):=Ring.mask_bit _ k _
def SO(C):N.cut C<2^N.n:=Ring.mask_lt _ _
def JH(h:∀x,x<N.p->C x=D x):N.cut C=N.cut D:=by
 show q? λk=>?_
 rw[AJ,AJ]
 by_cases Y:k<N.n
 .rw[h _ (N.al k Y),h _ (N.bl k Y)]
 .rw[gm Y];rfl
def CA(Y:k<N.n)(F:N.mH k=true):N.ring k=0:=gY (λj D=>by
 rcases mJ D with e|e
 .subst e;show⟨Y,F⟩
 .show e) (nH Y)
def JI(k):(m^^^N.cut λx=>N.par (N.trail N.n x) m).testBit k=if k<N.n then N.par (N.ring k) m else 10#0:=by
 rw[h!,AJ]
 by_cases Y:k<N.n
 .rw[ο Y,e8 Y,V?];unfold Net.ring;rw[lg,lg,AI Y];cases 10#0<;>cases N.par (N.trail N.n (N.a k)) m<;>cases N.par (N.trail N.n (N.b k)) m<;>rfl
 .rw[ξ Y,gm Y];simp
def CB(d:m<2^N.n)(h:(m^^^N.cut λx=>N.par (N.trail N.n x) m).testBit k=true):k<N.n/\N.mH k=false/\N.par (N.ring k) m=true:=by
 rw[JI]at h
 by_cases Y:k<N.n
 .rw[ο Y]at h;show bF Y ?_ h;cases F:N.mH k with
  | false=>rfl
  | true =>
    rw[CA Y F,kg]at h;cases h
 .rw[ξ Y]at h;show absurd (eX d h) Y
end RM
namespace Ring
def orM(M:List Nat):Nat:=M.foldl (λm k=>m ||| 2^k) 0
def My(M:List Nat)(j):∀m,134#(M.foldl (λm k=>m ||| 2^k) m)=(m.testBit j || 13#(j∈M)):=by
 induction M with
 | nil=>intro m;simp
 | cons k r G =>
   intro m;rw[k_,G,Nat.testBit_or,J!]
   by_cases h:k=j
   .subst h;simp
   .have N : ¬ j=k:=λz=>h z.symm
    simp[h,N]
def iX(ks)(j):134#(orM ks)=13#(j∈ks):=by
 unfold orM;rw[My];simp
def CC(ks)(h:t∉ks):orM (ks++[t])=orM ks^^^2^t:=q? λj=>by
 rw[h!,iX,iX,J!]
 by_cases e:t=j
 .subst e;simp[h]
 .have D : ¬ j=t:=λz=>e z.symm
  simp[e,D]
def Fz(f)(n):orM ((19#n).filter f)=maskOf f n:=q? λj=>by
 rw[iX,mask_bit,R!];simp
def AK(h:∀k∈M,k<n):orM M<2^n:=RM.fh λk Y=>by
 rw[iX]at Y;show h k (nB Y)
end Ring
namespace RM
variable {N:Net}
inductive Net.Walk(N:Net):List Nat->Nat->List Nat->Prop
 | one {v:Nat}:Net.Walk N [] v []
 | snoc {pre ks:List Nat} {v w t:Nat} (h:Net.Walk N pre v ks) (ht:t<N.n) (hn:t∉ks) (j:(N.a t=v/\N.b t=w)\/(N.b t=v/\N.a t=w)):Net.Walk N (pre++[v]) w (ks++[t])
def Net.Walk.len(h:N.Walk y v M):y.length=M.length:=by
 induction h with
 | one=>rfl
 | snoc _ _ _ _ G=>rw[i!,i!,G];rfl
def Net.Walk.lt(h:N.Walk y v M):∀t∈M,t<N.n:=by
 induction h with
 | one=>show λt n=>nomatch n
 | snoc _ n _ _ G =>
   intro s W;rcases D!.mp W with q|q
   .show G s q
   .have e:=q!.mp q
    rwa [e]
def Net.Walk.bd(h:N.Walk y v M):∀i u,(y++[v])[i]?=some u->∀x,N.bd (Ring.orM (M.drop i)) x=(decide (u=x)^^decide (v=x)):=by
 induction h with
 | one =>
   rename_i v
   intro i u c x
   match i,c with
   | 0,c =>
     have e:=20#c;subst e;change N.bd 0 x=_;rw[nG];simp
   | i+1,c=>simp at c
 | snoc o l g j G =>
   rename_i y M v w t
   intro i u c x;have P:=o.len
   by_cases I:i<29#(y++[v])
   .rw[d? I]at c;have B:i<=M.length:=by rw[i!]at I;simp at I;lia
    rw[List.drop_append_of_le_length B,Ring.CC _ (λz=>g (adE z)),gX,G i u c x,mF l]
    have e:N.inc t x=(decide (v=x)^^decide (w=x)):=by
     unfold Net.inc;rcases j with⟨k,d⟩|⟨k,d⟩
     .rw[k,d]
     .rw[k,d];show Bool.xor_comm _ _
    rw[e];cases decide (u=x)<;>cases decide (v=x)<;>cases decide (w=x)<;>rfl
   .have f:i=29#(y++[v]):=by
     have:=(iJ.mp c).1;rw[i!]at this;simp at this I ⊢
     lia
    rw[f,u? (Ξ _),L_]at c;have e:=20#c;subst e;have:(M++[t]).drop i=[]:=List.drop_eq_nil_of_le (by rw[f,i!,i!];simp;lia)
    rw[this];change N.bd 0 x=_;rw[nG];simp
structure Way(N:Net)(eS:Nat)(pre:List Nat)(v:Nat)(ks:List Nat)(left:Nat):Prop where
 w:N.Walk pre v ks
 lt:eS<2^N.n
 ev:N.eR eS
 sub:∀t∈ks,eS.testBit t=true
 AL:left=eS^^^Ring.orM ks
 nd:pre.Nodup
 XZ:∀x∈pre++[v],x<N.p
 st:pre=[]->∃t,t<N.n/\eS.testBit t=true/\N.a t=v
section
variable {eS left v:Nat}{pre ks:List Nat}
def Way.start(d:eS<2^N.n)(W:N.eR eS)(O:eS.testBit t=true):Way N eS [] (N.a t) [] eS:=by
 have n:=eX d O;show⟨.one,d,W,(λ_ z=>nomatch z),?_,List.Pairwise.nil,λx B=>?_,λ_=>au t n O rfl⟩
 .change eS=eS^^^0;simp
 .have e:x=N.a t:=by simpa using B
  rw[e];show N.al t n
def Way.vf(h:Way N eS pre v ks left)(t):216#t=(eS.testBit t && ! 13#(t∈ks)):=by
 rw[h.AL,h!,Ring.iX]
 by_cases d:t∈ks
 .rw[h.sub t d,e8 d];rfl
 .rw[gm d];simp
def Way.AM(h:Way N eS pre v ks left):left<2^N.n:=fh λk Y=>by
 rw[h.vf,N!]at Y;show eX h.lt Y.1
def Way.on(h:Way N eS pre v ks left)(a:v∉pre):∃t,216#t=true/\(N.a t=v\/N.b t=v):=by
 cases pre with
 | nil =>
   show aA (λt n O e=>?_) (h.st rl)
   have Y:=List.length_eq_zero_iff.mp (by rw[<-h.w.len];rfl)
   show ae t ?_ (.inl e);rw[h.vf,O,Y];simp
 | cons u r =>
   have O:=h.w.bd 0 u rl v;rw[List.drop_zero]at O;have c : ¬ u=v:=λz=>a (by rw[z];show g!)
   rw[gm c,e8 rfl]at O;have b:=h.XZ v (jd _ (q!.mpr rl));have P:N.bd left v=true:=by
    rw[h.AL,gX,h.ev v b,O];rfl
   rw[Rk]at P;have M:=nB P;show aA (λk Y d B=>?_) (Ii (N:=N) (m:=left) (x:=v) (by lia))
   show ae k d B
def Way.go(h:Way N eS pre v ks left)(a:v∉pre){t w}(O:216#t=true)(j:(N.a t=v/\N.b t=w)\/(N.b t=v/\N.a t=w)):
 Way N eS (pre++[v]) w (ks++[t]) (left^^^2^t):=by
 rw[h.vf,N!]at O;have g:t∉ks:=by simpa using O.2
 have n:=eX h.lt O.1;show⟨.snoc h.w n g j,h.lt,h.ev,λs W=>?_,?_,?_,λx B=>?_,λz=>?_⟩
 .rcases D!.mp W with q|q
  .show h.sub s q
  .rw[q!.mp q];show O.1
 .rw[Ring.CC _ g,h.AL,b?]
 .show _O.mpr (bF h.nd 22#0 (λx B y b=>?_))
  have e:y=v:=by simpa using b
  rw[e];show λz=>a (z▸B)
 .rcases D!.mp B with q|q
  .show h.XZ x q
  .have e:x=w:=by simpa using q
   rw[e];rcases j with⟨_,d⟩|⟨_,d⟩
   .rw[<-d];show N.bl t n
   .rw[<-d];show N.al t n
 .simp at z
def Way.closes(h:Way N eS pre v ks left)(I:pre[i]?=some v):Ring.orM (ks.drop i)≠0/\N.eR (Ring.orM (ks.drop i))/\Ring.orM (ks.drop i)<2^N.n/\∀k,(Ring.orM (ks.drop i)).testBit k=true->eS.testBit k=true:=by
 have o:=(iJ.mp I).1;have P:=h.w.len;have p:∀k,(Ring.orM (ks.drop i)).testBit k=true->k∈ks:=λk Y=>by
  rw[Ring.iX]at Y;show adE (nB Y)
 show e7 (λz=>?_) (λx _=>?_) (fh λk Y=>h.w.lt k (p k Y)) λk Y=>h.sub k (p k Y)
 .have n:ks.drop i≠[]:=λq=>by
   have:=List.drop_eq_nil_iff.mp q
   lia
  obtain⟨k,Y⟩:=List.exists_mem_of_ne_nil _ n;have:=Ring.iX (ks.drop i) k;rw[z,e8 Y]at this;simp at this
 .rw[h.w.bd i v (by rw[d? o];show I) x]
  simp
def Way.few(h:Way N eS pre v ks left)(a:v∉pre):pre.length+1<=N.p:=by
 have n:(pre++[v]).Nodup:=_O.mpr (bF h.nd 22#0 (λx B y W z=>by
  have e:y=v:=by simpa using W
  rw[<-e,<-z]at a;show a B))
 have:=Cy n h.XZ;rw[i!]at this
 simpa using this
end
end RM
namespace Ring
open PySem L2
def AN{p:Nat}{J:List fN}{g:aC p J}(d:m<53#0):13#(29#(aW 18#(q&&&m))%2=1)=g.N.par q m:=by
 rw[vc (_J q d)];unfold RM.Net.par;rw[RM.u6];have e:RM.cnt (λk=>(q&&&m).testBit k) J.length=RM.cnt (λk=>q.testBit k&&10#0) g.N.n:=RM.i5 λk _=>by rw[Nat.testBit_and]
 rw[e]
def xorL(y:List Nat):Nat:=y.foldl (λm r=>m^^^r) 0
def JJ(y:List Nat):∀m,y.foldl (λm r=>m^^^r) m=m^^^xorL y:=by
 induction y with
 | nil=>intro m;change m=m^^^0;simp
 | cons r y G =>
   intro m;change y.foldl (λm r=>m^^^r) (m^^^r)=m^^^y.foldl (λm r=>m^^^r) (0^^^r)
   rw[G,G,l?,b?]
def xorL_cons(rs)(r):xorL (r::rs)=r^^^xorL rs:=by
 change rs.foldl (λm r=>m^^^r) (0^^^r)=_
 rw[JJ,l?]
theorem Rm:∀{l:List Nat} {i j:Nat} {v},l.Nodup->l[i]?=some v->l[j]?=some v->i=j
 | [],_,_,_,_,h,_=>by simp at h
 | x::r,0,0,_,_,_,_=>rfl
 | x::r,0,j+1,v,nd,h,h'=>by
   have e:x=v:=by simpa using h
   subst e;show absurd (fP (by simpa using h')) (P!.mp nd).1
 | x::r,i+1,0,v,nd,h,h'=>by
   have e:x=v:=by simpa using h'
   subst e;show absurd (fP (by simpa using h)) (P!.mp nd).1
 | x::r,i+1,j+1,v,nd,h,h'=>by
   have:=Rm (P!.mp nd).2 (by simpa using h) (by simpa using h')
   lia
def ug(l)(v:Nat):sC (aE (l++[v])) (-1)=some (.int v):=by
 unfold sC Lp;have P:29#(aE (l++[v]))=l.length+1:=by rw[az,i!];rfl
 rw[ξ 7#0,P,ο (by lia)]
 have e:((-1:Int)+18#(l.length+1)).toNat=l.length:=by lia
 rw[e];show nI (by rw[u? (Ξ _)];simp)
def FA(l:List Nat)(v:Nat):(aE l).countP (λz=>HM z (.int v))=l.count v:=by
 unfold aE;rw[List.countP_map,List.count];show List.countP_congr λx _=>?_
 change((((x:Nat):Int)==(v:Int))=true)↔_;rw[P?,P?]
 lia
def JK(l:List Nat)(v):13#(V.int 18#((l++[v]).count v)=V.int 1)=13#(v∉l):=M?.mpr (by
 rw[List.count_append];have:List.count v [v]=1:=by simp
 rw[this]
 constructor
 .intro z;have:=V.int.inj z;show List.count_eq_zero.mp (by lia)
 .intro z;rw[List.count_eq_zero.mpr z];rfl)
def CD(l:List Nat)(h:i<=l.length):jt (aE l) (some (i:Int)) none=aE (l.drop i):=by
 unfold jt;rw[HT.HE,HT.Cd,az,m_ h];unfold aE;rw[<-List.map_drop,<-List.map_take,R_ (by rw[_R];lia)]
def Mz{l:List Nat}(h:v∈l)(n:l.Nodup):∃i:Nat,l[i]?=some v/\∀m z,(aE (l++[v]))[m]?=some z->m<=i->HM z (.int v)=decide (m=i):=by
 obtain⟨i,I⟩:=g? h;show ae i I λm z a d=>?_
 have o:=(iJ.mp I).1;show af (λk Y P=>?_) (ck a);subst P
 rw[d? (by lia)]at Y
 change(((k:Nat):Int)==(v:Int))=decide (m=i);rw[R!,P?,decide_eq_true_eq]
 constructor
 .intro e;have e:k=v:=by lia
  subst e;show Rm n Y I
 .rintro rfl;rw[I]at Y;rw[20#Y]
end Ring
namespace L2
open PySem PySem.Spec PyProof.Rows
section
variable {κ:Type}[DecidableEq κ]
def eU(L:210#0)(k:κ):Option V:=(L.find? λY=>13#(Y.1=k)).map (·.2)
def putK(L:210#0)(k:κ)(v:V):210#0 :=
 if(L.any λY=>13#(Y.1=k))=true then L.map (λY=>if Y.1=k then(Y.1,v) else Y) else L++[(k,v)]
def cG(L:210#0)(k:κ):210#0:=L.filter λY=>13#(Y.1≠k)
def vg:eU ([]:210#0) k=none:=rfl
def dR{p:κ×V}(e:p.1=k):eU (p::r) k=some p.2:=by simp[eU,Y?,e]
def c5{p:κ×V}(e : ¬ p.1=k):eU (p::r) k=eU r k:=by simp[eU,Y?,e]
theorem iD(k):∀L:210#0,(L.any λY=>13#(Y.1=k))=(eU L k).isSome
 | []=>rfl
 | p::r=>by
   rw[_d]
   by_cases e:p.1=k
   .simp only[dR e,e8 e,Bool.true_or,Option.isSome_some]
   .rw[c5 e,gm e,Bool.false_or];show iD k r
theorem CF(k j)(y):∀L:210#0,eU (L.map λY=>if Y.1=k then(Y.1,y) else Y) j=(eU L j).map λx=>if j=k then y else x
 | []=>rfl
 | p::r=>by
   have G:=CF k j y r;rw[l!]
   by_cases h:p.1=k
   .rw[ο h]
    by_cases e:p.1=j
    .rw[dR (p:=(p.1,y)) e,dR e,l_,ο (e.symm.trans h)]
    .rw[c5 (p:=(p.1,y)) e,c5 e,G]
   .rw[ξ h]
    by_cases e:p.1=j
    .rw[dR e,dR e,l_,ξ (λz=>h (e.trans z))]
    .rw[c5 e,c5 e,G]
theorem yT(k j)(y):∀L:210#0,eU L k=none->eU (L++[(k,y)]) j=if j=k then some y else eU L j
 | [],_=>by
   by_cases e:k=j
   .rw[ο e.symm];show dR e
   .rw[ξ (λz=>e z.symm)];show c5 e
 | p::r,hn=>by
   rw[List.cons_append];have Y : ¬ p.1=k:=λz=>by rw[dR z]at hn;cases hn
   rw[c5 Y]at hn;have G:=yT k j y r hn
   by_cases e:p.1=j
   .rw[dR e,dR e,ξ (λz=>Y (e.trans z))]
   .rw[c5 e,c5 e,G]
def MA(L:210#0)(k j)(y):eU (putK L k y) j=if j=k then some y else eU L j:=by
 unfold putK
 by_cases a:(L.any λY=>13#(Y.1=k))=true
 .rw[ο a,CF];rw[iD]at a
  by_cases e:j=k
  .obtain⟨x,B⟩:=Option.isSome_iff_exists.mp a;rw[ο e,e,B,l_,ο rfl]
  .rw[ξ e];cases eU L j with
   | none=>rfl
   | some x=>rw[l_,ξ e]
 .rw[ξ a];show yT k j y L ?_;rw[iD]at a;cases q:eU L k with
  | none=>rfl
  | some x=>rw[q]at a;show(a rl).elim
def sG(L:210#0)(k)(v):29#(putK L k v)<=L.length+1:=by
 unfold putK
 split
 .rw[χ];lia
 .rw[i!,y!,j_];lia
def vh{L:210#0}(v)(h:eU L k=none):putK L k v=L++[(k,v)]:=by
 unfold putK;rw[iD,h];show ξ 7#0
def jZ.rO(r:jZ o u):o.isSome=u.isSome:=by
 cases o with
 | none=>cases u with
   | none=>rfl
   | some _=>show(r).elim
 | some _=>cases u with
   | none=>show(r).elim
   | some _=>rfl
def jZ.getD(r:jZ o u)(j:Δ d l):Δ (o.getD d) (u.getD l):=by
 cases o with
 | none=>cases u with
   | none=>show j
   | some _=>show(r).elim
 | some _=>cases u with
   | none=>show(r).elim
   | some _=>show r
def KV.val(r:KV L vs)(k:κ):jZ (eU L k) (valueAt vs k):=by
 induction r with
 | nil=>show True.intro
 | @cons p q i s h t G =>
   obtain⟨Z,R⟩:=h
   by_cases e:p.1=k
   .have D:=Z.symm.trans e;have b:valueAt (q::s) k=some q.2:=by simp[valueAt,Y?,D]
    rw[dR e,b];show R
   .have D : ¬ q.1=k:=λz=>e (Z.trans z)
    have b:valueAt (q::s) k=valueAt s k:=by simp[valueAt,Y?,D]
    rw[c5 e,b];show G
def KV.any(r:KV L vs)(k:κ):(L.any λY=>13#(Y.1=k))=vs.any λY=>13#(Y.1=k):=by
 induction r with
 | nil=>rfl
 | cons h t G=>rw[_d,_d,G,h.1]
def KV.repl(r:KV L vs)(k:κ)(B:Δ y u):
 KV (L.map λY=>if Y.1=k then(Y.1,y) else Y) (vs.map λY=>if Y.1=k then(Y.1,u) else Y):=by
 induction r with
 | nil=>show .nil
 | @cons p q i s h t G =>
   rw[l!,l!];show .cons ?_ G;obtain⟨Z,R⟩:=h
   by_cases e:p.1=k
   .rw[ο e,ο (Z.symm.trans e)];show⟨Z,B⟩
   .rw[ξ e,ξ (λz=>e (Z.trans z))];show⟨Z,R⟩
def KV.put(r:KV L vs)(k:κ)(B:Δ y u):KV (putK L k y) (stored vs k u):=by
 unfold putK stored;rw[r.any k]
 by_cases e:(vs.any λY=>13#(Y.1=k))=true
 .rw[ο e,ο e];show r.repl k B
 .rw[ξ e,ξ e];show Paired.snoc r ⟨rfl,B⟩
def KV.drop(r:KV L vs)(k:κ):KV (cG L k) (without vs k):=by
 unfold cG without
 induction r with
 | nil=>show .nil
 | @cons p q i s h t G =>
   obtain⟨Z,R⟩:=h;rw[G!,G!]
   by_cases e:p.1=k
   .have a : ¬ 13#(p.1≠k)=true:=by simp[e]
    have b : ¬ 13#(q.1≠k)=true:=by simp[Z.symm.trans e]
    rw[ξ a,ξ b];show G
   .have D : ¬ q.1=k:=λz=>e (Z.trans z)
    have a:13#(p.1≠k)=true:=by simp[e]
    have b:13#(q.1≠k)=true:=by simp[D]
    rw[ο a,ο b];show .cons ⟨Z,R⟩ G
def KV.keys{L:210#0}(r:KV L vs):L.map (·.1)=vs.map (·.1):=by
 induction r with
 | nil=>rfl
 | cons h t G=>rw[l!,l!,G,h.1]
def KV.length{L:210#0}(r:KV L vs):L.length=vs.length:=Paired.length r
def CG(L:210#0)(k):29#(cG L k)<=L.length:=M! _ _
end
def yU(r:Δ (kV k) u):(d9 P w).is k u=true:=by
 cases k with
 | inl i=>obtain⟨t,e⟩:=(r);subst e;show B4 P w i t
 | inr x=>obtain⟨t,e⟩:=(r);subst e;show B5 P w x t
theorem yV:∀{ks} {us},υ (ks.map kV) us->ItemsAre (d9 P w) ks us
 | [],_,r=>by rw[adQ]at r;cases r;show .nil
 | k::ks,_,r=>by
   rw[l!]at r;cases r with
   | cons h t=>show .cons (yU h) (yV t)
abbrev KT(H:Hp):226#V->226#(Addr×Value)->Prop:=Paired λp q=>p.1=q.1/\H q.2.1=15#(p.1.map kV)/\Δ p.2 q.2.2
def KT.val(r:KT H L xs)(k):jZ (eU L k) ((atKey xs k).map (·.2)):=by
 induction r with
 | nil=>show True.intro
 | @cons p q i s h t G =>
   revert h;show cW λZ _ R=>?_
   by_cases e:p.1=k
   .have D:=Z.symm.trans e;have b:atKey (q::s) k=some q.2:=by simp[atKey,Y?,D]
    rw[dR e,b];show R
   .have D : ¬ q.1=k:=λz=>e (Z.trans z)
    have b:atKey (q::s) k=atKey s k:=by simp[atKey,Y?,D]
    rw[c5 e,b];show G
def KT.repl(r:KT H L xs)(k)(B:Δ y u):
 KT H (L.map λY=>if Y.1=k then(Y.1,y) else Y) (xs.map (putAt k u)):=by
 induction r with
 | nil=>show .nil
 | @cons p q i s h t G =>
   rw[l!,l!];show .cons ?_ G
   revert h;show cW λZ R l=>?_
   unfold putAt
   by_cases e:p.1=k
   .rw[ο e,ο (Z.symm.trans e)];show bF Z R B
   .rw[ξ e,ξ (λz=>e (Z.trans z))];show bF Z R l
def KT.put(r:KT H L xs)(k:List Key)(O:H b=15#(k.map kV))(B:Δ y u):
 KT H (putK L k y) (storedH xs k b u):=by
 have e:(L.any λY=>13#(Y.1=k))=(atKey xs k).isSome:=by
  rw[iD,(r.val k).rO,Option.isSome_map]
 unfold putK storedH;rw[e]
 by_cases q:(atKey xs k).isSome=true
 .rw[ο q,ο q];show r.repl k B
 .rw[ξ q,ξ q];show Paired.snoc r (bF rl O B)
def KT.keeps(r:KT H L xs)(n:∀b v,H b=some (.tup v)->Y b=some (.tup v)):KT Y L xs :=
 Paired.B6 r λ_ _ z=>bF z.1 (n _ _ z.2.1) z.2.2
def Rn(j:lX P w H h)(e:Rd H a u):dm P w H h a u:=e.ok j
def yW(j:lX P w H h)(e:Rd H a (.dK L)):36#L.length/\133#a/\∃vs,KV L vs/\h.DictOf (d9 P w) a vs :=
 show dm P w H h a (.dK L) from Rn j e
def MB(j:lX P w H h)(e:215#(.dK L)):36#L.length/\133#a/\∃vs,KV L vs/\h.DictOf (d9 P w) a vs:=yW j (.inl e)
def pL{M:List Key}(j:lX P w H h)(e:H a=15#(M.map kV)):(tupleKind (d9 P w)).is h M a:=by
 show bE (λ_ C r=>cM λo Z R n l=>?_) (j a _ e)
 show aV o C.toArray n Z R l (by simpa using yV r)
def yX(j:lX P w H h)(e:Rd H a (.dT L)):36#L.length/\133#a/\
 ∃xs,KT H L xs/\h.DictOfH (tupleKind (d9 P w)) a xs:=by
 show bG (λz y xs r=>bO λo W E Z R b A M=>?_) (Rn j e)
 show aX z y xs r (bZ o W E Z (dD R b A (λx B=>?_) M))
 have all:∀{l:226#V} {m:226#(Addr×Value)},KT H l m->∀x∈m,(tupleKind (d9 P w)).is h x.1 x.2.1:=by
  intro l m q
  induction q with
  | nil=>intro x B;show nomatch B
  | @cons p q i s D t G =>
    intro x B;rcases Z'.mp B with e|B
    .subst e;show pL j (by rw[<-D.1];show D.2.1)
    .show G x B
 show all r x B
def MC(j:lX P w H h)(e:215#(.dT L)):36#L.length/\133#a/\
 ∃xs,KT H L xs/\h.DictOfH (tupleKind (d9 P w)) a xs:=yX j (.inl e)
def vj(H:Hp)(a:Addr)(y:V)(r:Option V):Prop :=
 (∃L k,Rd H a (.dK L)/\y=kV k/\r=eU L k)\/∃L k b,Rd H a (.dT L)/\y = .ref b/\H b=15#(k.map kV)/\r=eU L k
def AO(H:Hp)(a:Addr)(y v:V)(Y:Hp):Prop :=
 (∃L k,215#(.dK L)/\y=kV k/\L.length<sizeLine/\Y=η H a (.dK (putK L k v)))\/
 ∃L k b,215#(.dT L)/\y = .ref b/\H b=15#(k.map kV)/\L.length<sizeLine/\Y=η H a (.dT (putK L k v))
theorem vj.k{k}(e:215#(.dK L)):vj H a (kV k) (eU L k):=.inl (aq L k (.inl e) rl rl)
theorem AO.k{k}(e:215#(.dK L))(P:L.length<sizeLine):AO H a (kV k) v (η H a (.dK (putK L k v))):=.inl (bC L k e rl P rl)
def AO.t{k:List Key}(e:215#(.dT L))(q:H b=15#(k.map kV))(P:L.length<sizeLine):
 AO H a (.ref b) v (η H a (.dT (putK L k v))):=.inr (cg L k b e rl q P rl)
section
variable  {pq:cF}{σ:St}       {A:Around}
def θ.big(I:5#s):sysModules<s.heap.objs.size:=by
 have h:=(I.mod.glob.keeps I.bk).lt;show O? 7#0 h
def JL(c:A.units+1<cLine)(I:5#s)(g:vj H a y (some v))(B:Δ y u)(h:∀n Z,5#Z->Δ v n->Q n Z):
 wpAny 8#0 A (getItem (.ref a) u) Q E s:=by
 rcases g with⟨L,k,e,i,l⟩|⟨L,k,b,e,i,q,l⟩
 .subst i;show bG (λz J F O C=>?_) (yW I.hok e)
  show af (λn o r=>?_) (jZ.some_of (by rw[l];show O.val k))
  show wpAny_getItem_of (yU B) C.mapOf o (h n _ (I.tok _) r)
 .subst i;cases(B);show bG (λz J f O C=>?_) (yX I.hok e)
  show af (λn o r=>?_) (jZ.some_of (by rw[l];show O.val k))
  show af (λp M d=>?_) (nC.mp o)
  show wpAny_getItem_heap (tupleKind_room_in1 c) (pL I.hok q) C M ?_;rw[d];show h n _ (I.tok _) r
def PB(c:A.units+1<cLine)(I:5#s)(g:vj H a y o)(B:Δ y u)(h:∀Z,5#Z->Q (.bool (! o.isSome)) Z):
 wpAny 8#0 A (compareOp .NotIn u (.ref a)) Q E s:=by
 rcases g with⟨L,k,e,i,l⟩|⟨L,k,b,e,i,d,l⟩
 .subst i;show bG (λz J F O C=>?_) (yW I.hok e)
  show wpAny_notIn_of (yU B) J C.mapOf ?_;rw[<-(O.val k).rO,<-l];show h _ (I.tok _)
 .subst i;cases(B);show bG (λz J f O C=>?_) (yX I.hok e)
  show wpAny_notIn_heap (tupleKind_room_in1 c) (pL I.hok d) J C ?_;have q:=(O.val k).rO;rw[Option.isSome_map]at q;rw[<-q,<-l];show h _ (I.tok _)
def nJ(I:5#s)(g:UR (H a))(W:213#a)(T:∃q,h'.get? a=some q)(Q:dm X.prog X.w (η H a ob) h' a ob):
 θ X pq σ (η H a ob) 217#0 :=
 I.write g (.inl rl) (λb q O z=>(W.2 b O).trans z) T Q
def MD{h' : Heap}{L:List (Key×V)}(z:36#L.length)(J:133#a)(O:KV L vs)(C:h'.DictOf (d9 P w) a vs):
 dm P w Y h' a (.dK L):=aX z J vs O C
def JM(S:A.units+1<cLine)(I:5#s)(g:AO H a y v Y)(B:Δ y u)(G:Δ v r)(h:∀Z,θ X pq σ Y Z->Q () Z):
 wpAny 8#0 A (setItem (.ref a) u r) Q E s:=by
 rcases g with⟨L,k,e,i,l,j⟩|⟨L,k,b,e,i,n,l,j⟩
 .subst i j;show bG (λz J F O C=>?_) (MB I.hok e)
  have m:36#F.length:=by rw[<-O.length];show z
  have P:29#(putK L k v)<=sizeLine:=203#(sG L k v)
  show wpAny_setItem_pairs (yU B) C λN t W=>h _ ?_
  have T:∃q,N.get? a=some q:=let⟨q,_,_,D,_⟩:=t;⟨q,D⟩;show nJ I (by rw[e];show True.intro) W T (MD P J (O.put k G) t)
 .subst i j;cases(B);show bG (λz J f O C=>?_) (MC I.hok e)
  have m:36#f.length:=by rw[<-Paired.length O];show z
  have P:29#(putK L k v)<=sizeLine:=203#(sG L k v)
  show wpAny_setItem_heap (tupleKind_room_in1 S) (pL I.hok n) C λN t W=>h _ ?_
  revert t;show fy λq p o=>eV λD R w x _ M=>?_
  show nJ I (by rw[e];show True.intro) W ⟨q,D⟩ (aX P J _ ((O.put k n G).keeps λc F d=>?_) (cg q p o D R w x M))
  rwa [ao (bL d e 121#0)]
end
section
variable  {pq:cF}{σ:St}
def VB(I:5#s)(e:215#(.dK L))(B:Δ (kV k) u)(l:eU L k=some v)(d:w=[]\/∃x,w=[x])
 (h:∀n Z,θ X pq σ (η H a (.dK (cG L k))) Z->Δ v n->Q n Z):wpAny 8#0 A (call (.builtin "dict.pop") (.ref a::u::w)) Q E s:=by
 show bG (λz J F O C=>?_) (MB I.hok e)
 show af (λn o r=>?_) (jZ.some_of (by rw[<-l];show O.val k))
 have M:(keyPart u).isSome=true:=by
  cases k with
  | inl i=>obtain⟨t,q⟩:=(B);subst q;rfl
  | inr x=>obtain⟨t,q⟩:=(B);subst q;rfl
 have b:argsOk "dict.pop" ⟨.ref a::u::w,[]⟩:=by
  rcases d with q|⟨x,q⟩
  .subst q;show PySem.F.args_dict_pop_2 _ _
  .subst q;show PySem.F.args_dict_pop_3 _ _ _
 show call_meetsIn _z C.typeIs PySem.F.entry_dict_pop b (meets_dict_pop_there (d9 X.prog X.w) a (yU B) w d M)
  (bC F n C (by rw[<-O.length];show z) o (λN t W=>h n _ ?_ r))
 have T:∃q,N.get? a=some q:=let⟨q,_,_,hq,_⟩:=t;⟨q,hq⟩;show nJ I (by rw[e];show True.intro) W T (MD (b! (CG L k) z) J (O.drop k) t)
end
def PD(i:Expr):Prop:=∀b p,subscripted i false b p=operate [b,p] (getItem b p)
def AQ{T id}
 (P:typeLookup (.type T) "__getitem__"=pure (some (.builtin id))) (W:PD a)
 (h:wpAny 21#w A (eval d env) (λo B=>wpAny 21#w A (eval a env) (λi q=>q.TypeIs o T/\wpAny 21#w A (getItem o i) Q E q) E B) E s) :
 52#(eval (.Subscript d a l) env):=by
 show Subscript_ (p! h (λo B g=>p! g (λi q f=>?_) λ_ _ x=>x) λ_ _ x=>x)
 obtain⟨j,f⟩:=f;show aU ?_;rw[getitemInPython_of_ne j.not_modules];show aU (wpAny_specialOf j P ?_);have F:wpAny 21#w A (subscripted a false o i) (λr b=>wpAny 21#w A (letTemporaryGo d o r >>= λ_=>pure r) Q E b) E q:=by
  rw[W o i];show wpAny_operating (p! f (λr b k=>aU (wpAny_letTemporaryGo (Θ k))) λ_ _ x=>x)
 first
  | show Θ (aU F)
  | show aU (Θ (aU F))
  | show aU F
def CH{S:cF}{U:St}(I:θ X S U H s)(g:vj H a y o):s.TypeIs (.ref a) "dict":=by
 rcases g with⟨L,k,e,_,_⟩|⟨L,k,b,e,_,_,_⟩
 .show bG (λ_ _ F _ C=>?_) (yW I.hok e)
  show C.typeIs
 .show bG (λ_ _ f _ C=>?_) (yX I.hok e)
  show C.typeIs
def VC(t l:TE):TE:=λU H Q=>t U H λx N=>l U N λy G=>∃a v,x = .ref a/\vj G a y (some v)/\Q v G
def PF(l t:TE):TE:=λU H Q=>l U H λy N=>t U N λx G=>∃a o,x = .ref a/\vj G a y o/\Q (.bl (! o.isSome)) G
def VD(t l e:TE):TS:=λD U H=>e U H λv N=>t U N λx G=>l U G λy u=>∃a c,x = .ref a/\AO u a y v c/\D.nx U c
section
variable {X:Cx}  {pos pos' tpos:Pos}
def Ik(c:X.A.units+1<cLine)(Y:PE X o t)(b:PE X i l)(W:PD i):PE X (.Subscript o i pos) (VC t l):=by
 show 47;show AQ acV.lookup W (c6 27#Y λu j=>aD λx N A rx n=>?_)
 show c6 (b S j U N _ A n) λp w=>aD λy G L B=>aD λa v P g R=>?_
 subst P;show 124;show⟨CH L g,JL c L g B λd O F r=>aq v G F r R⟩
def JN(c:X.A.units+1<cLine)(d:PE X i l)(Y:PE X o t):PC X .NotIn i o (PF l t):=by
 show 47;show c6 27#d λp j=>aD λy N A B n=>?_
 show c6 (Y S j U N _ A n) λu w=>aD λx G L rx=>aD λa b P g R=>?_
 subst P;show 124;show PB c L g B λO F=>aq (.bl (! b.isSome)) G F rl R
def AR(c:X.A.units+1<cLine)(Y:PE X o t)(k:PE X i l)(m:PE X d e)(W:swapsWith d (some (.Subscript o i pos')) pos.line X.env=pure false):
 PS X (.Assign [.Subscript o i pos'] d pos) (VD t l e):=by
 show 140;show wpAny_Assign_Subscript (c6 27#m λr j=>aD λv N A q n=>c6 (Y S j U N _ A n) λu w=>aD λx G L rx R=>c6 (k S w U G _ L R) λp O=>aD λy z F B=>aD λa b P g C=>?_) W
 subst P;show 124;show JM c F g B q λZ f=>bf U b f C
end
def ME(h:Heap)(O:sysModules<h.objs.size):dm P w H (h.push { cls:=.type "dict",data:=.dict #[]}) h.objs.size (.dK []) :=
 (aX (r! _) (99#(e! (n! O))) [] .nil (Heap.DictOf.new h))
def MF(h:Heap)(O:sysModules<h.objs.size):dm P w H (h.push { cls:=.type "dict",data:=.dict #[]}) h.objs.size (.dT []) :=
 (aX (r! _) (99#(e! (n! O))) [] .nil (cg _ (#[]) 0 (v! _ rl) (bF rl rl rl) rl rl I_))
def SQ:TE:=λ_ H Q=>∀p,H p=none->Q (.ref p) (η H p (.dK []))
def MG:PE X (.Dict [] [] l) SQ:=λS s U H Q I h =>
 wpAny_Dict_empty (aq (23#.ref) _ (I.laid (λ_ _ q=>c! _ q) (Ξ _) (ME s.heap I.big)) rl (h _ (138#(Ξ _))))
structure M1(X:Cx)(o:Expr)(m:Str)(apos:Pos)(e:Expr)(cpos:Pos):Prop where
 base:attributeBase o m X.env 123#o=eval o X.env
 few:((backTo cpos (9#([e]))).all (λx=>! x.1)&&(128#cpos).all (λx=>x.1.isSome)
  && 13#(([e]:List Expr).length+([]:List Keyword).length+(if([]:List Keyword).isEmpty then 0 else 1)<30))=true
 line:(apos.endLine==cpos.line)=true
 trees:backTo cpos (9#([e]))=[25#e]
structure M2(X:Cx)(o:Expr)(m:Str)(apos:Pos)(e f:Expr)(cpos:Pos):Prop where
 base:attributeBase o m X.env 123#o=eval o X.env
 few:((backTo cpos (9#([e,f]))).all (λx=>! x.1)&&(128#cpos).all (λx=>x.1.isSome)
  && 13#(([e,f]:List Expr).length+([]:List Keyword).length+(if([]:List Keyword).isEmpty then 0 else 1)<30))=true
 line:(apos.endLine==cpos.line)=true
 trees:backTo cpos (9#([e,f]))=[25#e,25#f]
def WV(H:Hp)(a:Addr):Prop:=(∃L,Rd H a (.dK L))\/∃L,Rd H a (.dT L)
def FD{S:cF}{U:St}(I:θ X S U H s)(d:WV H a):
 s.TypeIs (.ref a) "dict"/\(∀b,Value.ref a = .ref b->∃ob,16#ob/\ob.dict=none)/\133#a:=by
 rcases d with⟨L,e⟩|⟨L,e⟩
 .show bG (λ_ J F _ C=>?_) (yW I.hok e)
  show bF C.typeIs (λb q=>?_) J
  cases q
  revert C;show eu λob _ _ Z R _=>?_
  show ae ob Z R.2.1
 .show bG (λ_ J f _ C=>?_) (yX I.hok e)
  show bF C.typeIs (λb q=>?_) J
  cases q
  revert C;show eu λob _ _ Z R _=>?_
  show ae ob Z R.2.1
section
variable  {pq:cF}{σ:St}       {A:Around}
def SR(c:A.units+1<cLine)(I:5#s)(g:vj H a y o)(B:Δ y u)(j:Δ d r)(h:∀n Z,5#Z->Δ (o.getD d) n->Q n Z):
 wpAny 8#0 A (call (.builtin "dict.get") [.ref a,u,r]) Q E s:=by
 rcases g with⟨L,k,e,i,l⟩|⟨L,k,b,e,i,q,l⟩
 .subst i;show bG (λz J F O C=>?_) (yW I.hok e)
  show call_meetsIn adu C.typeIs PySem.F.entry_dict_get (PySem.F.args_dict_get_3 _ _ _) (meets_dict_get_default (d9 X.prog X.w) a (yU B) J r) (ae _ C.mapOf (h _ _ (I.tok _) ?_));rw[l];show(O.val k).getD j
 .subst i;cases(B);show bG (λz J f O C=>?_) (yX I.hok e)
  show call_meetsIn adu C.typeIs PySem.F.entry_dict_get (PySem.F.args_dict_get_3 _ _ _) (meetsH_dict_get_default (tupleKind (d9 X.prog X.w)) a b J r) ⟨tupleKind_room_in1 c,(aq k f (pL I.hok q) C (h _ _ (I.tok _) ?_))⟩;rw[l];show(O.val k).getD j
end
def SS(t l i:TE):TE:=λU H Q=>t U H λx N=>∃a,x = .ref a/\WV N a/\l U N λy G=>i U G λz u=>∃o,vj u a y o/\Q (o.getD z) u
def SV(t l:TE):TE:=λU H Q=>t U H λx N=>∃a,x = .ref a/\WV N a/\l U N λy G=>∃L k v,G a=some (.dK L)/\y=kV k/\eU L k=some v/\Q v (η G a (.dK (cG L k)))
section
variable {X:Cx}
def MH(c:X.A.units+1<cLine)(Y:PE X o t)(T:PE X e l)(F:PE X f i)(m:M2 X o "get" J e f D):PE X (.Call (.Attribute o "get" J) [e,f] [] D) (SS t l i):=by
 show 47;show wpAny_Call_method m.base m.few m.line ac8 adu PySem.F.type_dict_get (c6 27#Y λu j=>aD λx N A rx=>aA λa P d n=>?_)
 subst P;show 124;show cW (λM W _=>?_) (FD A d)
 show bF M W ?_;rw[m.trees];show Calls.callWith_builtin rl (Calls.evalArgs_plain (Calls.spliced_cons (c6 (T S j U N _ A n) λp w=>aD λy G L B R=>
  Calls.spliced_cons (c6 (F S w U G _ L R) λq O=>gF λz v=>bG λE k b g C=>Calls.spliced_nil ?_))))
 show SR c E g B k λq Z b r=>aq _ v b r C
def CI(Y:PE X o t)(T:PE X e q)(m:M1 X o "pop" J e D):PE X (.Call (.Attribute o "pop" J) [e] [] D) (SV t q):=by
 show 47;show wpAny_Call_method m.base m.few m.line ac8 _z PySem.F.type_dict_pop (c6 27#Y λu j=>aD λx N A rx=>aA λa P d n=>?_)
 subst P;show 124;show cW (λf g _=>?_) (FD A d)
 show bF f g ?_;rw[m.trees];show Calls.callWith_builtin rl (Calls.evalArgs_plain (Calls.spliced_cons (c6 (T S j U N _ A n) λp w=>eg λy=>cM λG b B L=>aY λk v c i l R=>?_)))
 show Calls.spliced_nil ?_;subst i;show VB b c B l (.inl rl) λz O F r=>aq v _ F r R
end
section
variable {κ:Type}[DecidableEq κ]
def MI{L:210#0}(h:eU L k=none): ¬ k∈L.map (·.1):=by
 intro m;show af (λp M e=>?_) (U'.mp m)
 have q:(L.any λY=>13#(Y.1=k))=true:=adT.mpr (ae p M (e8 e))
 rw[iD,h]at q;show absurd q 22#0
def PJ{L:210#0}(h:eU L k=some v):k∈L.map (·.1):=by
 have q:(L.any λY=>13#(Y.1=k))=true:=by
  rw[iD,h]
  all_goals rfl
 show af (λp M e=>?_) (adT.mp q)
 show U'.mpr (ae p M (nB e))
theorem Il:∀{l} {k:κ},l.Nodup->¬ k∈l->(l++[k]).Nodup
 | [],k,_,_=>by simp
 | a::r,k,h,hk=>by
   obtain⟨Z,R⟩:=P!.mp h;show P!.mpr ⟨λm=>?_,Il R λm=>hk (Z'.mpr (Or.inr m))⟩
   rcases D!.mp m with q|q
   .show Z q
   .show hk (Z'.mpr (Or.inl (q!.mp q).symm))
def PK{L:210#0}(v)(g:(L.map (·.1)).Nodup)(h:eU L k=none):((putK L k v).map (·.1)).Nodup:=by
 rw[vh v h,j!];show Il g (MI h)
def yY{p:κ×V}(e:p.1=k):cG (p::r) k=cG r k:=by
 unfold cG;rw[G!,ξ (by simp[e])]
def yZ{p:κ×V}(e : ¬ p.1=k):cG (p::r) k=p::cG r k:=by
 unfold cG;rw[G!,ο (by simp[e])]
def y9{L:210#0}(h:p∈cG L k):p∈L:=(K!.mp h).1
theorem vm:∀{kvs} {k:κ},(kvs.map (·.1)).Nodup->((cG kvs k).map (·.1)).Nodup
 | [],_,_=>I_
 | p::r,k,h=>by
   have h:=h;obtain⟨Z,R⟩:=P!.mp h
   by_cases e:p.1=k
   .rw[yY e];show vm R
   .rw[yZ e];show P!.mpr ⟨λm=>Z ?_,vm R⟩
    show af (λq D a=>?_) (U'.mp m)
    show U'.mpr (ae q (y9 D) a)
end
def PL(h:(d9 P w).is (Sum.inl n) v=true):∃t,v=Value.int n t:=by
 have h:sy (Sum.inl n) v=true:=h;have h:Value.isInt n v=true:=by simpa[sy]using h
 cases v<;>simp[Value.isInt]at h
 show⟨_,by rw[h]⟩
theorem za:∀{us} {ns:List Int} {vs:List (Key×Value)},vs.map (·.1)=ns.map Sum.inl->us.length=vs.length->(∀(j:Nat) v,us[j]?=some v->∃k x,vs[j]?=some (k,x)/\(d9 P w).is k v=true)->IntsAre us ns
 | [],[],_,_,_,_=>.nil
 | [],n::ns,[],e,_,_=>by simp at e
 | [],n::ns,p::r,_,hl,_=>by simp at hl
 | u::us,ns,[],_,hl,_=>by simp at hl
 | u::us,[],p::r,e,_,_=>by simp at e
 | u::us,n::ns,p::r,e,hl,h=>by
   rw[l!,l!]at e;obtain⟨a,U⟩:=List.cons.inj e;show bh (λk x B Y=>?_) (h 0 u rl)
   cases B;rw[show k=Sum.inl n from a]at Y
   obtain⟨t,rfl⟩:=PL Y;show .cons n t (za U (by simpa using hl) λj v D=>h (j+1) v D)
section
variable   {A:Around}  {s:Shared}
def CJ(K:PySem.W.KdlSrc prog w T r d n P i)(k:A.handled=none)(D:i s.heap)(u:n<=sizeLine)
 (h:∀h' j M,(∀b o,16#o->48#h'.get?)->s.heap.objs.size<h'.objs.size->ItemsOf P M n->R M.toList { s with heap:=h',toks:=j}) :
 wpAny 21#w A (collect (.ref r)) R E s:=by
 obtain⟨L,dl⟩:=K.there _ D;obtain⟨g,a⟩:∃g,g=110#(seqObj "list" #[] 0):=197#0;have N:∀b o,16#o->48#g.get?/\b≠s.heap.objs.size:=λb o e=>⟨by rw[a];show c! _ e,n! (a! e)⟩
 have walk:=PySem.W.kdl_extend (s:={ s with heap:=g}) (R:=λq t=>q = 161#(23#.ref)/\∃l c,23#t.heap.get?=some (seqObj "list" l c)/\t={ s with heap:=t.heap,toks:=t.toks}/\ItemsOf P l n/\∀b o,16#o->48#t.heap.get?)
  K k (K.keep _ _ D λb _ o e=>(N b o e).1) s.heap.objs.size (λz=>S! _ (z▸L)) (λz=>S! _ (z▸dl)) (23#.ref) 0 (by rw[a];show v! _ rl) (λ_ _ l c Y p I=>34#(bC l c p rl I λb o e=>Y b o (N b o e).2 (N b o e).1)) u
 rw[a]at walk;show aU (wpAny_runValue (158#PySem.F.entry_proto_collect));rw[Around.under_plainId PySem.F.plain_proto_collect];show aU (wpAny_newObj_type (Θ ⟨plainId_quiet PySem.F.plain_list_iadd _,158#PySem.F.entry_list_iadd⟩));rw[Around.under_plainId PySem.F.plain_list_iadd];show p! walk (λF t x=>?_) (λe t x=>nomatch x.1)
 rcases F with f|c
 case' again=>show⟨x.1,codeAny_mono x.2 λq t x=>?_⟩
 all_goals
  (revert x;show Ah λe=>aY λl c p m I Y=>?_)
  cases e;show aU (wpAny_load p (Θ ?_));rw[m];show h _ _ l Y (a! p) I
end
section
variable {X:Cx}
def PM(L:X.calm=true):fB X (.builtin "sorted") (λxs H Q=>∃(p:Addr) (n:List (Key×V)) (ns:List Int),xs=[.ref p]/\H p=some (.dK n)/\n.map (·.1)=ns.map Sum.inl/\n.length<64/\
 ∀l (N:List Int),H l=none->N.Perm ns->N.Pairwise (·<=·)->Q (.ref l) (η H l 69#(N.map V.int))):=by
 intro S s U H xs a Q I r h
 revert h;show bO λp n ns t b a g q=>?_;subst t
 show 164#(λu c rx=>?_);subst c
 cases rx;show bG (λz J F G C=>?_) (MB I.hok b)
 obtain⟨E,m⟩:=C.dictAt;have y:=G.length.symm;show Calls.call_function_entry kind_sorted plain_sorted entry_sorted (args_sorted1 _) ?_;show aU (Θ ?_);show aU (CJ (PySem.W.kdl_dict J) (I.ok.hd L) m (by rw[sizeLine_eq,y];lia) λZ b M Y c A=>?_)
 have P:M.toList.length=F.length:=by rw[f_];show A.1
 have W:=za (G.keys.symm.trans a) P λj v e=>by
  obtain⟨k,x,Z,R⟩:=A.2 j v (by rw[<-_v];show e)
  show bf k x Z R
 show aU (wpAny_newList ?_ (by rw[P,y,sizeLine_eq];lia))
 have f:(Z.push (seqObj "list" M.toList.toArray 0)).get? Z.objs.size=some (seqObj "list" M.toList.toArray 0):=v! _ rfl;show aU (F! (wpAny_call_entry slot_list_sort (ae _ f rfl) entry_list_sort (list_sort_tree f W (by lia) λk N R d D=>ae _ rfl ?_) (args_list_sort _)))
 show Θ (ae _ rl ?_);have x:=U! c;obtain⟨e,T⟩:=sortedHeap_at f;have i:=I.hok.fresh x;show aq (.ref Z.objs.size) _ (I.laid (λb o O=>?_) x ?_) rl (q _ N i d D)
 .have B:=Y b o O;have w:=a! B
  rwa [sortedHeap_old (n! w) (by rw[size_push'];show T? w),Heap.get?_push_ne _ _ _ (n! w)]
 .show aS ?_ k.toList e (Co R) ?_
  .rw[χ,d.length_eq];have B:=k! List.length a;rw[χ,χ]at B;show U! (eA (by lia))
  .have:k.toList.toArray=k:=by simp
   rwa [this]
def fj(K:cu){e:Expr}{f:Str}{l:Pos}{z:TE}(T:PE X e z)(O:attributeBase e f X.env 123#e=eval e X.env:=by rfl)(J:X.K=K:=by rfl):PE X (.Attribute e f l) (U8 K z f):=by
 subst J;show Sa T O
def Im(O:pY { X with xe:=51#0} a tb):PS X (.Try a (o::W) [] [] l) tb:=by
 show 140;show wpAny_Try_except ?_;have c:θ { X with xe:=51#0} S U H s:=I.xG rl I.ok.hd λp M=>M
 have y:∀{k Y Z},θ { X with xe:=51#0} S k Y Z->θ X S k Y Z:=λ{k Y Z} J=>J.xG rl J.ok.hd λp M=>M
 show p! (O S s U H D c h) (λf j q=>?_) λ_ _ z=>z.elim
 cases f with
 | next =>
   revert q;show bh λk Y J q=>?_
   show wpAny_execs_nil (bf k Y (y J) q)
 | brk =>
   revert q;show bh λk Y J q=>?_
   show bf k Y (y J) q
 | cont =>
   revert q;show bh λk Y J q=>?_
   show bf k Y (y J) q
 | ret u =>
   revert q;show eu λv k Y J r q=>?_
   show⟨v,(aq k Y (y J) r q)⟩
end
end L2
namespace Ring
open PySem L2
abbrev kh:=143#fN
inductive xK where
 | put (n:Nat)
 | drop (n:Nat) (t:fN)
structure e6(p f:Nat)(m:kh):Prop where
 asc:(m.map (·.1)).Pairwise (· < ·)
 below:∀e∈m,e.1<f
 good:∀e∈m,iW (p:Int) e.2
 few:m.length<=24
def without(n:Nat)(m:kh):kh:=m.filter λe=>13#(e.1≠n)
inductive Chain(p:Nat):143#kh->List xK->Prop
 | nil:Chain p [(0,[])] []
 | put {f:Nat} {m:kh} {hs:143#kh} {ds:List xK} {t:fN}:Chain p ((f,m)::hs) ds->iW (p:Int) t->m.length<24->Chain p ((f+1,m++[(f,t)])::(f,m)::hs) (.put f::ds)
 | drop {f:Nat} {m:kh} {hs:143#kh} {ds:List xK} {n:Nat} {t:fN}:Chain p ((f,m)::hs) ds->(n,t)∈m->Chain p ((f,without n m)::(f,m)::hs) (.drop n t::ds)
section
variable  {m m' : kh}
def e6.nil:e6 p 0 []:=⟨List.Pairwise.nil,(λ_ h=>nomatch h),(λ_ h=>nomatch h),r! _⟩
def e6.put(h:e6 p f m)(g:iW (p:Int) t)(P:m.length<24):e6 p (f+1) (m++[(f,t)]):=by
 show⟨?_,λe T=>?_,λe T=>?_,by rw[i!];simp;lia⟩
 .rw[j!,List.pairwise_append];show bF h.asc 22#0 λx B y W=>?_
  show af (λe T a=>?_) (U'.mp B);subst a
  have:y=f:=by simpa using W
  rw[this];show h.below e T
 .rcases D!.mp T with T|T
  .show T? (h.below e T)
  .cases q!.mp T;show X? _
 .rcases D!.mp T with T|T
  .show h.good e T
  .cases q!.mp T;show g
def sH(h:e∈without n m):e∈m:=(K!.mp h).1
def e6.drop(h:e6 p f m)(n):e6 p f (without n m) :=
 ⟨h.asc.sublist (List.Sublist.map _ List.filter_sublist),λe T=>h.below e (sH T),λe T=>h.good e (sH T),b! (M! _ _) h.few⟩
def Chain.ok'{W:143#kh}{y:List xK}(h:Chain p W y):∀f m u,W=(f,m)::u->e6 p f m:=by
 induction h with
 | nil=>intro f m u e;cases e;show e6.nil
 | put c g P G=>intro f m u e;cases e;show(G _ _ _ rl).put g P
 | drop c d G=>intro f m u e;cases e;show(G _ _ _ rl).drop _
def Chain.ok(c:Chain p ((f,m)::W) y):e6 p f m:=c.ok' _ _ _ rfl
def e6.pZ(h:e6 p f m)(W:1<=p)(g:p<=10):aC p (m.map (·.2)):=⟨W,g,by rw[χ];show h.few,λt n=>by
 show af (λe T a=>?_) (U'.mp n);subst a
 show h.good e T⟩
def e6.nodup(h:e6 p f m):(m.map (·.1)).Nodup:=h.asc.imp λh=>n! h
def e6.fresh(h:e6 p f m): ¬ f∈m.map (·.1):=λd=>by
 show af (λe T q=>?_) (U'.mp d)
 have:=h.below e T
 lia
def qp:∀{m},¬ n∈m.map (·.1)->without n m=m:=λ{m} h=>by
 unfold without;rw[List.filter_eq_self];intro e T;show e8 λz=>h ?_
 rw[<-z];show S? T
def CK(h : ¬ n∈m.map (·.1)):without n (m++[(n,t)])=m:=by
 have e:=qp h;unfold without at e ⊢;rw[w?,e];simp
theorem perm_back:∀{m},(m.map (·.1)).Nodup->(n,t)∈m->(without n m++[(n,t)]).Perm m
 | [],_,h=>nomatch h
 | e::r,hn,h=>by
   obtain⟨Z,R⟩:=P!.mp (hn)
   by_cases T:e.1=n
   .have C:without n (e::r)=r:=by
     have q:=qp (n:=n) (m:=r) (T▸Z);unfold without at q ⊢;rw[G!,ξ (by simp[T]),q]
    have a:e=(n,t):=by
     rcases Z'.mp h with z|z
     .show z.symm
     .show absurd (S? (f:=(·.1)) z) (T▸Z)
    rw[C,a];show List.perm_append_singleton _ _
   .have C:without n (e::r)=e::without n r:=by
     unfold without;rw[G!,ο (by simp[T])]
    rw[C];show List.Perm.cons _ (perm_back R ?_);rcases Z'.mp h with z|z
    .show absurd (by rw[<-z]) T
    .show z
end
abbrev Ent:=Nat×Addr×fN
def FE(e:Ent):Key×V:=(Sum.inl 18#e.1,.ref e.2.1)
def PN(e:Ent):Nat×fN:=(e.1,e.2.2)
def kN(n:Nat):Key:=Sum.inl ((n:Nat):Int)
def FF(h:kN a=kN b):a=b:=by
 have:=Sum.inl.inj h
 lia
def fk(H:Hp)(a:Addr)(m:kh):Prop:=∃W:List Ent,215#(.dK (W.map FE))/\(W.map PN).Perm m/\∀e∈W,H e.2.1=15#(jU e.2.2)
section
variable    {m m' : kh}{es:List Ent}
def fk.keep(h:fk H a m)(J:cK H Y)(E:Y a=H a):fk Y a m:=by
 revert h;show aA λes Z R l=>?_
 show au es (by rw[E];show Z) R λe T=>J _ _ (l e T)
def fk.same(h:fk H a m)(s:ak H Y):fk Y a m:=by
 revert h;show aA λes Z R l=>?_
 show au es (s _ _ Z) R λe T=>s _ _ (l e T)
def qq(M:(es.map PN).Perm m):(es.map (·.1)).Perm (m.map (·.1)):=by
 have q:=M.map (·.1);rw[L!]at q;show q
theorem FG:∀{es:List Ent},(es.map (·.1)).Nodup->∀e∈es,eU (es.map FE) (kN e.1)=30#e.2.1
 | [],_,_,h=>nomatch h
 | x::r,hn,e,h=>by
   obtain⟨Z,R⟩:=P!.mp (show(x.1::r.map (·.1)).Nodup from hn)
   rw[l!];rcases Z'.mp h with z|z
   .subst z;show dR rfl
   .rw[c5 (λq=>Z (by rw[FF q];show S? z))]
    show FG R e z
theorem Io:∀{es:List Ent},¬ n∈es.map (·.1)->eU (es.map FE) (kN n)=none
 | [],_=>rfl
 | x::r,h=>by
   rw[l!,c5 (λq=>h (by rw[<-FF q];show g!))]
   show Io λz=>h (jx _ z)
theorem Ip(n):∀es:List Ent,cG (es.map FE) (kN n)=(es.filter λe=>13#(e.1≠n)).map FE
 | []=>rfl
 | x::r=>by
   have G:=Ip n r;unfold cG at G ⊢;rw[l!,G!,G!,G]
   by_cases h:x.1=n
   .rw[ξ (by simp[FE,kN,h]),ξ (by simp[h])]
   .rw[ο (e8 (show(FE x).1≠kN n from λq=>h (FF q))),ο (by simp[h])]
    rfl
def JO(M:(es.map PN).Perm m):((es.filter λe=>13#(e.1≠n)).map PN).Perm (without n m):=by
 have q:=M.filter λe=>13#(e.1≠n)
 rw[List.filter_map]at q;show q
def fk.sorted(h:fk H a m)(j:e6 p f m):∃L ns,215#(.dK L)/\L.map (·.1)=ns.map Sum.inl/\L.length<64/\
 ∀N:List Int,N.Perm ns->N.Pairwise (·<=·)->N.map V.int=aE (m.map (·.1)):=by
 revert h;show aA λes Z R l=>?_
 show bC _ (es.map λe=>((e.1:Nat))) Z ?_ ?_ λN M W=>?_
 .rw[L!,L!];rfl
 .have q:=R.length_eq;rw[χ]at q;rw[χ];have:=j.few
  lia
 .have t:N=(m.map (·.1)).map λx=>((x:Nat):Int):=by
   show List.Perm.eq_of_pairwise (λx y _ _ Z R=>Int.le_antisymm Z R) W ?_ (M.trans ?_)
   .rw[D_];show j.asc.imp λh=>by lia
   .have q:=(qq R).map λx=>((x:Nat):Int)
    rw[L!]at q;show q
  rw[t,L!];rfl
def fk.get(h:fk H a m)(j:e6 p f m)(d:(n,t)∈m):∃L b,215#(.dK L)/\eU L (kN n)=162#0/\H b=15#(jU t):=by
 revert h;show aA λes Z R l=>?_
 show af (λe T q=>?_) (U'.mp (R.mem_iff.mpr d))
 have c:e.1=n:=k! (·.1) q;have U:e.2.2=t:=k! (·.2) q;show aq _ e.2.1 Z ?_ (by rw[<-U];show l e T)
 rw[<-c];show FG ((qq R).nodup_iff.mpr j.nodup) e T
def fk.len(h:fk H a m):∃L,215#(.dK L)/\L.length=m.length:=by
 revert h;show aA λes Z R l=>?_
 show ae _ Z ?_;rw[χ,<-R.length_eq,χ]
def fk.put(h:fk H a m)(g : ¬ n∈m.map (·.1))(O:H b=15#(jU t)):∃L,215#(.dK L)/\L.length=m.length/\
 ∀Y m',cK H Y->Y a=some (.dK (putK L (kN n) (.ref b)))->(m++[(n,t)]).Perm m'->fk Y a m':=by
 revert h;show aA λes Z R l=>?_
 show au _ Z (by rw[χ,<-R.length_eq,χ]) λY m' J E M=>au (es++[(n,b,t)]) ?_ ?_ λe T=>?_
 .rw[E,vh _ (Io λz=>g ((qq R).mem_iff.mp z)),j!]
  rfl
 .rw[j!];show(R.append_right _).trans M
 .rcases D!.mp T with T|T
  .show J _ _ (l e T)
  .cases q!.mp T;show J _ _ O
def fk.pop(h:fk H a m)(j:e6 p f m)(d:(n,t)∈m):∃L b,215#(.dK L)/\eU L (kN n)=162#0/\H b=15#(jU t)/\
 ∀Y,cK H Y->Y a=some (.dK (cG L (kN n)))->fk Y a (without n m):=by
 revert h;show aA λes Z R l=>?_
 show af (λe T q=>?_) (U'.mp (R.mem_iff.mpr d))
 have c:e.1=n:=k! (·.1) q;have U:e.2.2=t:=k! (·.2) q;show bC _ e.2.1 Z ?_ (by rw[<-U];show l e T) λY J E=>au _ (E.trans (by rw[Ip])) (JO R) λe T=>J _ _ (l e (K!.mp T).1)
 rw[<-c];show FG ((qq R).nodup_iff.mpr j.nodup) e T
end
def AS(H:Hp)(y:V):xK->Prop
 | .put n=>∃b,y = .ref b/\H b=15#([.int n,.eM])
 | .drop n t=>∃b c,y = .ref b/\H b=15#([.int n,.ref c])/\H c=15#(jU t)
def AS.tups(J:cK H Y):∀{d},AS H y d->AS Y y d
 | .put _,⟨b,e,h⟩=>ae b e (J _ _ h)
 | .drop _ _,⟨b,c,e,h,g⟩=>aq b c e (J _ _ h) (J _ _ g)
def SW{xs:List m}{v:List c}{y:c}(h:Paired R xs (v++[y])):∃a x,xs=a++[x]/\Paired R a v/\R x y:=by
 induction v generalizing xs with
 | nil =>
   obtain _|⟨h,_|_⟩:=h
   show aq [] _ rl .nil h
 | cons _ _ G =>
   obtain _|⟨h,r⟩:=h
   show aD (λa x e Z b=>?_) (G r)
   show aq (_::a) x (by rw[e];rfl) (.cons h Z) b
def iY(n:Nat)(d:Addr)(f:Nat)(q:Addr):List (Str×V):=[("points",.int n),("standing_ties",.ref d),("next_name",.int f),("done",.ref q)]
def Ro: ¬(("points":Str)="standing_ties"):=2#0
def MJ: ¬(("points":Str)="next_name"):=2#0
def Rp: ¬(("points":Str)="done"):=2#0
def ne_sn: ¬(("standing_ties":Str)="next_name"):=2#0
def Rq: ¬(("standing_ties":Str)="done"):=2#0
def Rr: ¬(("next_name":Str)="done"):=2#0
def jD(h : ¬ g=f):eG f v ((g,x)::r)=(g,x)::eG f v r:=ξ h
def PR:eG f v ((f,x)::r)=(f,v)::r:=ο rfl
def i8(n:Nat)(d)(f:Nat)(q):eG "done" (.ref q) (eG "next_name" (.int f) (eG "standing_ties" (.ref d) (eG "points" (.int n) [])))=iY n d f q:=by
 have t:eG "points" (.int n) []=[(("points":Str),V.int n)]:=rfl;rw[t,jD Ro];rw[show eG "standing_ties" (.ref d) []=[(("standing_ties":Str),V.ref d)] from rfl,jD MJ,jD ne_sn]
 rw[show eG "next_name" (.int f) []=[(("next_name":Str),V.int f)] from rfl,jD Rp,jD Rq,jD Rr]
 rfl
def zb(n)(d)(f g:Nat)(q):eG "next_name" (.int g) (iY n d f q)=iY n d g q:=by
 unfold iY;rw[jD MJ,jD ne_sn,PR]
def zc:(iY n d f q).lookup ("points":Str)=some (.int n):=by
 rw[<-i8,b7,ξ Rp,b7,ξ MJ,b7,ξ Ro,b7,ο rfl]
def lj:(iY n d f q).lookup ("standing_ties":Str)=some (.ref d):=by
 rw[<-i8,b7,ξ Rq,b7,ξ ne_sn,b7,ο rfl]
def PU:(iY n d f q).lookup ("next_name":Str)=some (.int f):=by
 rw[<-i8,b7,ξ Rr,b7,ο rfl]
def qt:(iY n d f q).lookup ("done":Str)=some (.ref q):=by
 rw[<-i8,b7,ο rfl]
def iQ{m:Str}(Z : ¬ m="points")(R : ¬ m="standing_ties")(l : ¬ m="next_name")(A : ¬ m="done"):(iY n d f q).lookup m=none:=by
 rw[<-i8,b7,ξ A,b7,ξ l,b7,ξ R,b7,ξ Z];rfl
def none_of{H Y:Hp}(k:∀b o,H b=some o->b≠p->Y b=some o)(h:Y d=none)(n:d≠p):H d=none:=by
 cases e:H d with
 | none=>rfl
 | some o =>
   rw[k d o e n]at h;cases h
structure jv(C:Addr)(H:Hp)(p d q:Addr)(n:Nat)(hs:143#kh)(ds:List xK):Prop where
 ch:Chain n hs ds
 p1:1<=n
 p2:n<=10
 ob:∃dx f m hs',hs=(f,m)::hs'/\H p=some (.ins C dx (iY n d f q))/\fk H d m
 dn:∃ys,H q=4#ys/\Paired (AS H) ys ds.reverse
structure Kept(H H' : Hp)(p d q:Addr):Prop where
 tups:cK H H'
 rest:∀b o,H b=some o->b≠p->b≠d->b≠q->H' b=some o
def Kept.trans(a:Kept H N p d q)(b:Kept N G p d q):Kept H G p d q:=⟨a.tups.trans b.tups,λc o e Z R l=>b.rest c o (a.rest c o e Z R l) Z R l⟩
def jv.same(h:jv C H p d q n W y)(s:ak H Y):jv C Y p d q n W y:=by
 show eY (λi f m u e Z R=>?_) h.ob
 show af (λv l A=>?_) h.dn
 show⟨h.ch,h.p1,h.p2,gR i f (aq m u e (s _ _ Z) (R.same s)),v,s _ _ l,Paired.imp' 77#s.tups A⟩
def VE(t:fN):PyData:=.tuple [.int t.1,.int t.2.1,.int t.2.2]
def VF(p:Nat)(J:List fN):PyData:=.tuple [.int p,.tuple (J.map VE)]
section
variable {K:cu}
theorem CL:∀{xs} {ts},Paired (TupAt H) xs ts->DatVs K H xs (ts.map VE)
 | _,_,.nil=>.nil
 | _,_,.cons ⟨b,e,h⟩ r=>by
   subst e;show .cons (.tup (aZ.of h) (.cons (.int _) (.cons (.int _) 117#(.int _)))) (CL r)
def Iq(h:79#0):j6 K H (.ref w) (VF p J):=by
 show aD (λb f Z R l=>?_) h.ex
 show .tup (aZ.of Z) (.cons (.int _) 117#(.tup (aZ.of R) (CL l)))
end
end Ring
namespace L2
open PySem PySem.Spec PyProof.Rows
def MK:jQ X (binaryOp .FloorDiv) (rI (λ_ j=>j≠0/\j.natAbs<2^1000) 212#(i.fdiv j)):=Ra λi j _ _ _ _ _ L q=>by
 show floordiv_int L.1 q (.inl ?_);have o:j.natAbs≠0:=203#L.1
 have h:=(p_ o).mpr L.2;show PyProof.noPylong_of_log2 (by lia)
end L2
namespace Ring
open PySem L2
def ent(y:127#Int)(i j:Nat):Int:=(y.getD i []).getD j 0
structure Tab(n:Nat)(rs:127#Int):Prop where
 len:rs.length=n
 row:∀r∈rs,r.length=n
def Ir(H:Hp)(x:V)(r:List Int):Prop:=∃b,x = .ref b/\H b=4#(dh r)
def TabAt(H:Hp)(t:Addr)(y:127#Int):Prop:=∃v,H t=some (.lst v)/\Paired (Ir H) v y
def ki(l:List Int):(dh l).length=l.length:=by unfold dh;rw[χ]
def FH(l)(k):dh (l++[k])=dh l++[.int k]:=by unfold dh;rw[j!];rfl
def vn(h:(dh l)[i]?=some x):i<l.length/\x = .int (l.getD i 0):=by
 unfold dh at h;rw[d!]at h;show af (λk e q=>?_) (nC.mp h)
 have I:=(iJ.mp e).1;show⟨I,?_⟩;rw[u!,e];show q.symm
theorem lq{F:m->c->Prop}{x}{y}(h:F x y):∀{l} {r} i,Paired F l r->Paired F (l.set i x) (r.set i y)
 | _,_,_,.nil=>.nil
 | _,_,0,.cons _ t=>.cons h t
 | _,_,i+1,.cons a t=>.cons a (lq h i t)
def FI{y:127#Int}(h:i<y.length):y[i]?=some (y.getD i []):=by
 rw[u!];simp[h]
def AU{y:127#Int}(E:a<y.length)(r:List Int)(i j:Nat):ent (y.set a r) i j=if i=a then r.getD j 0 else ent y i j:=by
 unfold ent
 by_cases h:i=a
 .subst h;rw[ο rfl,u! (l:=y.set i r),Q_ E];rfl
 .rw[ξ h,u! (l:=y.set a r),V_ (e! h),<-u!]
def Tab.set(T:Tab n y)(a:Nat){r:List Int}(h:r.length=n):Tab n (y.set a r):=by
 show⟨by rw[H_,T.len],λx B=>?_⟩
 rcases List.mem_or_eq_of_mem_set B with z|z
 .show T.row x z
 .rw[z,h]
def Tab.FJ(T:Tab n y)(h:i<n):29#(y.getD i [])=n :=
 T.row _ (fP (FI (by rw[T.len];show h)))
def TabAt.get(I:Paired (Ir H) v y)(T:Tab n y)(h:i<n):∃b,v[i]?=162#0/\H b=4#(dh (y.getD i [])):=by
 have W:i<v.length:=by rw[I.length,T.len];show h
 show eg (λr=>bE λC b e O=>?_) (Paired.ia I (i:=i) (x:=v[i]) (by simp[W]))
 rw[FI (by rw[T.len];show h)]at C
 cases C;show ae b (by rw[<-e];simp[W]) O
def lu(R:Addr)(H:Hp)(x:V)(r:List Int):Prop:=∃b,x = .ref b/\b≠R/\H b=4#(dh r)
def lu.same(s:ak H Y)(h:lu R H x r):lu R Y x r:=by
 revert h;show aA λb e n h=>?_
 show au b e n (s _ _ h)
def lu.put(h:lu R H x r):lu R (η H R o) x r:=by
 revert h;show aA λb e n h=>?_
 show au b e n (by rw[ao n];show h)
def lu.is(h:lu R H x r):Ir H x r:=by
 revert h;show aA λb e n h=>?_
 show ae b e h
def lu.get(I:Paired (lu R H) v y)(T:Tab n y)(h:i<n):∃b,v[i]?=162#0/\b≠R/\H b=4#(dh (y.getD i [])):=by
 have W:i<v.length:=by rw[I.length,T.len];show h
 show af (λr C=>aA λb e Z O=>?_) (Paired.ia I (i:=i) (x:=v[i]) (by simp[W]))
 rw[FI (by rw[T.len];show h)]at C
 cases C;show au b (by rw[<-e];simp[W]) Z O
def sI(n:Nat)(f:Nat->Int):List Int:=(19#n).map f
def rP(n)(f):29#(sI n f)=n:=by unfold sI;rw[χ,C!]
def JP(f)(h:j<n):(sI n f).getD j 0=f j:=by
 unfold sI;rw[u!,d!,W_ h];rfl
def CM(f:Nat->Int)(H:Hp)(D:Addr)(i:Nat)(M:List V)(G:Hp):Prop:=ak H G/\11#G/\M=dh (sI i f)
def CM.start(S:H D=none):CM f H D 0 [] 97#H:=bF (ak.new S) aa rfl
def CM.len(p:CM f H D i M G):118#G:=by
 show⟨p.2.1,?_⟩;rw[p.2.2,ki,rP];show Ξ _
def CM.next(p:CM f H D i M G)(S:H D=none)(s:ak G u)(a:v = .int (f i)):11#u/\CM f H D (i+1) (M++[v]) (η u D 69#(M++[v])):=by
 show e7 (s _ _ p.2.1) ((p.1.trans s).put S) aa ?_;rw[a,p.2.2];unfold sI;rw[B?,j!];change _=dh (_++[f i]);rw[FH]
theorem qu{K}:∀l:List Int,DatVs K H (dh l) (l.map PyData.int)
 | []=>.nil
 | _::r=>.cons (.int _) (qu r)
def mL(D:Addr)(Q H:Hp)(x:V)(r:List Int):Prop:=∃b,x = .ref b/\b≠D/\Q b=none/\H b=4#(dh r)
def mL.same(s:ak H Y)(h:mL D Q H x r):mL D Q Y x r:=by
 revert h;show gE λb e n z h=>?_
 show cP b e n z (s _ _ h)
def mL.put(h:mL D Q H x r):mL D Q (η H D o) x r:=by
 revert h;show gE λb e n z h=>?_
 show cP b e n z (by rw[ao n];show h)
def mL.is(h:mL D Q H x r):Ir H x r:=by
 revert h;show gE λb e _ _ h=>?_
 show ae b e h
end Ring
namespace L2
open PySem PySem.Spec PyProof.Rows
def zd{K:cu}{xs:List V}{g:TG}{tb:TS}{D:Ends}(d:81#St)(o:d 0 U H)(P:∀i U H,i<=xs.length->d i U H->aZ K H a xs)
 (c:∀i x T U H,xs[i]?=some x->d i U H->H T=none->g (.ref T) U (η H T (.tup [.int i,x])) λb G=>tb { D with nx:=d (i+1),ct:=d (i+1),bk:=D.nx} b G) (J:∀U H,d xs.length U H->D.nx U H) :
 ∃W:Nat->81#St,(∃m,W 0 m U H)/\∀i m U H,W i m U H->
   ((JG K a).stop i H/\D.nx U H)\/((JG K a).go i H/\∃N:St->Hp->Prop,(∀k Y,N k Y->∃B,B<m/\W (i+1) B k Y)/\∀x Y,(JG K a).Ji i H x Y->g x U Y λb G=>tb { D with nx:=N,ct:=N,bk:=D.nx} b G):=by
 show 106#(λi m U H=>112#U)
 intro i m U H;show cW λf I p=>?_;subst f
 have q:=P i U H I p
 by_cases w:i<xs.length
 .show .inr (bR (bf xs (xs[i]) q (by simp[w])) (d (i+1)) (λk Y F=>113#F) (λv Y y=>?_))
  revert y;show aY λT x r j t e=>?_;subst r t
  show c i x T U _ (e xs q) p j
 .show 206
  subst e;show .inl ⟨ae xs q rfl,J U H p⟩
end L2
namespace Ring
open PySem L2
def oV:218#0->V
 | none=>.eM
 | some i=>.int i
abbrev Pr:=218#0×218#0
def sel(q:Pr)(u:Bool):218#0:=if u=true then q.2 else q.1
def vo:218#0->218#0->Int->Bool
 | none,none,_=>true
 | none,some _,_=>false
 | some _,none,_=>false
 | some x,some y,l=>13#((if x-y<0 then -(x-y) else x-y)<=l)
def jw(R:List Pr)(i:Nat):Pr:=R.getD i (none,none)
def JQ(R:List Pr)(t:fN)(u:Bool):Bool:=vo (jw R t.1.toNat).1 (sel (jw R t.2.1.toNat) u) t.2.2&&vo (jw R t.1.toNat).2 (sel (jw R t.2.1.toNat) (! u)) t.2.2
def VG(J:List fN)(m i:Nat)(R:List Pr):Prop:=(jw R i).1=some 0/\∀k,k<J.length->JQ R (dJ J k) (10#0)=true
def FL(p:Nat)(J:List fN)(m:Nat)(W:127#Pr):Prop:=∀i,i<p->VG J m i (W.getD i [])
def ik(H:Hp)(x:V)(q:Pr):Prop:=∃b,x = .ref b/\H b=15#([oV q.1,oV q.2])
def RowW(H:Hp)(x:V)(R:List Pr):Prop:=∃b v,x = .ref b/\H b=some (.tup v)/\Paired (ik H) v R
def gq(H:Hp)(b:Addr)(W:127#Pr):Prop:=∃v,H b=some (.tup v)/\Paired (RowW H) v W
def OO(p:Nat)(W:127#Pr):Prop:=W.length=p/\∀R∈W,R.length=p
def ik.same(s:ak H Y)(h:ik H x q):ik Y x q:=let⟨b,e,z⟩:=h;(ae b e (s _ _ z))
def RowW.same(s:ak H Y)(h:RowW H x R):RowW Y x R:=let⟨b,ys,e,z,pr⟩:=h;(aq b ys e (s _ _ z) (Paired.imp' (λ_ _ z=>z.same s) pr))
def gq.same(s:ak H Y)(h:gq H b W):gq Y b W:=let⟨ys,z,pr⟩:=h;(ae ys (s _ _ z) (Paired.imp' (λ_ _ z=>z.same s) pr))
def ik.tups(s:cK H Y)(h:ik H x q):ik Y x q:=let⟨b,e,z⟩:=h;(ae b e (s _ _ z))
def RowW.tups(s:cK H Y)(h:RowW H x R):RowW Y x R:=let⟨b,ys,e,z,pr⟩:=h;(aq b ys e (s _ _ z) (Paired.imp' 77#s pr))
def i9{F:m->c->Prop}{l:List m}{r:List c}(I:Paired F l r)(h:i<r.length)(d:c):∃x,l[i]?=some x/\F x (r.getD i d):=by
 have P:i<l.length:=by rw[I.length];show h
 show af (λy W a=>?_) (Paired.ia I (i:=i) (x:=l[i]) (by simp[P]))
 show ae (l[i]) (by simp[P]) ?_
 rwa [u!,W]
def RowW.at(I:Paired (ik H) v R)(h:i<R.length):∃b,v[i]?=162#0/\H b=15#([oV (jw R i).1,oV (jw R i).2]):=by
 show eg (λx=>bE λB b a O=>?_) (i9 I h (none,none));subst a
 show ae b B O
def OO.row(h:OO p W)(I:i<p):29#(W.getD i [])=p:=by
 have P:i<W.length:=by rw[h.1];show I
 rw[u!];simp only[P,z!,Option.getD_some];show h.2 _ (E_ P)
def ML(q:Pr)(u:Bool):([oV q.1,oV q.2]:List V)[u.toNat]?=some (oV (sel q u)):=by
 cases u<;>rfl
end Ring
namespace RM
variable {N:Net}
def Net.SX(N:Net)(t v:Nat):Nat:=if N.a t=v then N.b t else N.a t
def Net.pM(N:Net)(left v:Nat):List Nat:=(19#N.n).filter λt=>216#t&&(13#(N.a t=v) || 13#(N.b t=v))
def pN:t∈N.pM left v↔t<N.n/\216#t=true/\(N.a t=v\/N.b t=v):=by
 unfold Net.pM;rw[K!,E!,N!,Bool.or_eq_true,decide_eq_true_eq,decide_eq_true_eq]
def MM(h:N.a t=v\/N.b t=v):(N.a t=v/\N.b t=N.SX t v)\/(N.b t=v/\N.a t=N.SX t v):=by
 unfold Net.SX
 by_cases e:N.a t=v
 .rw[ο e];show .inl ⟨e,rfl⟩
 .rw[ξ e];rcases h with h|h
  .show absurd h e
  .show .inr ⟨h,rfl⟩
end RM
namespace Ring
open PySem L2
def vp{p:Nat}{J:List fN}{g:aC p J}(l:Paired (TupAt H) xs J)(Y:k<J.length):∃c,xs[k]?=some (.ref c)/\H c=15#([.int 18#(g.N.a k),.int 18#(g.N.b k),.int (dJ J k).2.2]):=by
 have e:k<xs.length:=by rw[l.length];show Y
 show eg (λt=>bE λn c L m=>?_) (Paired.ia l (i:=k) (x:=xs[k]) (by simp[e]))
 have r:t=dJ J k:=by
  have z:=rH Y;rw[n]at z;show 20#z
 show ae c (by rw[<-L];simp[e]) ?_
 rw[m,<-HY Y,<-HZ Y,r];rfl
end Ring
namespace L2
open PySem
def pO{lo}{g:TG}{tb:TS}{D:Ends}(d:81#St)(o:d 0 U H)
 (a:∀i,let r:Ends:={ D with nx:=d (i+1),ct:=d (i+1),bk:=D.nx};∀U H,i<n->d i U H->g (.int (lo+i)) U H λt G=>tb r t G) (J:∀U H,d n U H->D.nx U H) :
 ∃W:Nat->81#St,(∃m,W 0 m U H)/\∀i m U H,W i m U H->
   ((Lz lo n).stop i H/\D.nx U H)\/((Lz lo n).go i H/\∃N:St->Hp->Prop,75#((Lz lo n).Ji i H x Y)) :=
 i4 d o (λi U H I p=>a i U H I p) J
def iq{K:cu}{xs:List V}{g:TG}{tb:TS}{D:Ends}(d:81#St)(o:d 0 U H)(P:∀i U H,i<=xs.length->d i U H->aI K H a xs)
 (b:∀i x,let r:Ends:={ D with nx:=d (i+1),ct:=d (i+1),bk:=D.nx};∀U H,xs[i]?=some x->d i U H->g x U H λt G=>tb r t G) (J:∀U H,d xs.length U H->D.nx U H) :
 ∃W:Nat->81#St,(∃m,W 0 m U H)/\∀i m U H,W i m U H->
   ((Lm K a).stop i H/\D.nx U H)\/((Lm K a).go i H/\∃N:St->Hp->Prop,75#((Lm K a).Ji i H x Y)) :=
 mu d o P (λi x U H I p=>b i x U H I p) J
def qv{X:Cx}{e:Expr}{T:String}{r:V->80#(List V)}{g:TE}{t:TA}(K:cu)(p:PE X e (XE X.K T r g t))(h:X.K=K:=by rfl):PE X e (XE K T r g t):=by subst h;show p
def X0{X:Cx}{e:Expr}{T:String}{r:V->80#(List V)}{g:TE}(K:cu)(p:PE X e (Sk X.K T r g))(h:X.K=K:=by rfl):PE X e (Sk K T r g):=by subst h;show p
def cL{K}{R:V->Prop}(W:aZ K H a xs)(E:sC xs k=some v)(q:R v):∃p c b w,V.ref a = .ref p/\V.int k = .int b/\aZ K H p c/\sC c b=some w/\R w:=bu a xs k v rl rl W E q
def fO{K}{R:V->Prop}(W:aI K H a xs)(E:sC xs k=some v)(q:R v):∃p c b w,V.ref a = .ref p/\V.int k = .int b/\aI K H p c/\sC c b=some w/\R w:=bu a xs k v rl rl W E q
def cU{R:Int->Int->Prop}(h:R i j):∃b B,V.int i = .int b/\V.int j = .int B/\R b B:=aq i j rl rl h
def ly{K}{E:Addr->Prop}{R:List V->Prop}(e:E a)(h:aI K H a xs\/aZ K H a xs)(q:R xs):∃p v,E p/\(aI K H p v\/aZ K H p v)/\R v:=aq a xs e h q
def ai{m:Type}{A R:m->Prop}{x}(h:A x)(r:R x):∃x,A x/\R x:=ae x h r
open PySem PySem.Spec PyProof.Rows
open PySem PySem.Spec PyProof.Rows PySem.W
def ze(n:Nat)(R:m->Prop):KasT m->Prop
 | .ret a=>R a
 | .ask i j k=>i<n/\j<n/\∀b,ze n R (k b)
def ze.bind{R:m->Prop}{d:c->Prop}{f}:∀{t},ze n R t->(∀a,R a->ze n d (f a))->ze n d (t.bind f)
 | .ret a,h,g=>by
   rw[KasT.bind.eq_1];show g a h
 | .ask i j k,h,g=>by
   rw[KasT.bind.eq_2];show bF h.1 h.2.1 λb=>ze.bind (h.2.2 b) g
def fb(n:Nat)(p:Array Nat):Prop:=p.toList.Perm 19#n
def fb.at(h:fb n p)(g:0<n)(x):p.getD x 0<n:=by
 unfold Array.getD
 split
 .rename_i B
  have:p[x]∈p.toList:=by simp
  show E!.mp (h.mem_iff.mp this)
 .show g
def JR(h:fb n p)(i j:Nat):fb n (p.swapIfInBounds i j):=by
 unfold Array.swapIfInBounds
 split
 .split
  .show(Array.perm_iff_toList_perm.mp (Array.swap_perm _ _)).trans h
  .show h
 .show h
theorem rQ(f g:Nat->Nat):∀(l:List Nat) {p},fb n p->fb n (l.foldl (λa k=>a.swapIfInBounds (f k) (g k)) p)
 | [],_,h=>h
 | k::l,_,h=>rQ f g l (JR h (f k) (g k))
def mO(h:fb n p)(i j):fb n (kas_rev p i j):=rQ _ _ _ h
def MN(h:fb n p)(i j):fb n (bubble p i j):=rQ _ _ _ h
theorem FN(h:fb n p)(g:0<n):∀f x,ze n (λ_=>True) (kas_asc p f x)
 | 0,x=>by
   rw[kas_asc.eq_1];trivial
 | f+1,x=>by
   rw[kas_asc.eq_2];show bF (h.at g _) (h.at g _) λb=>?_
   cases b with
   | true=>trivial
   | false=>show FN h g f (x+1)
theorem uh(g:0<n):∀f {p:Array Nat} (x q:Nat),fb n p->ze n (λr:Array Nat×Nat×Nat=>fb n r.1) (kas_desc f p x q)
 | 0,p,x,q,h=>by
   rwa [kas_desc.eq_1]
 | f+1,p,x,q,h=>by
   rw[kas_desc.eq_2];show bF (h.at g _) (h.at g _) λb=>?_
   cases b with
   | true =>
     by_cases D:q > 0
     .rw[ο D];show uh g f _ _ (mO h _ _)
     .rw[ξ D];show uh g f _ _ h
   | false =>
     show bF (h.at g _) (h.at g _) λb=>?_
     cases b with
     | true=>show h
     | false=>show uh g f _ _ h
def Iu(g:0<n)(h:fb n p)(x r:Nat):ze n (λr:Nat×Array Nat=>fb n r.2) (kas_tail3 x r p) :=
 ze.bind (FN (mO h _ _) g _ _) λ_ _=>mO h _ _
def Iv(g:0<n)(h:fb n p)(x r:Nat):ze n (λr:Nat×Array Nat=>fb n r.2) (kas_descPart x r p):=by
 show ze.bind (uh g _ _ _ h) λy W=>?_
 by_cases D:y.2.2 > 0
 .rw[ο D];show Iu g (mO W _ _) _ _
 .rw[ξ D];show Iu g W _ _
def MO(g:0<n)(h:fb n p)(r:Nat):ze n (λr:Nat×Array Nat=>fb n r.2) (kas_count r p):=by
 show ze.bind (FN h g _ _) λy _=>?_
 by_cases Z:(y==r)=true
 .rwa [ο Z]
 .rw[ξ Z]
  by_cases R:y > 1
  .rw[ο R];show bF (h.at g _) (h.at g _) λb=>?_
   cases b with
   | true=>show h
   | false=>show Iv g (mO h _ _) _ _
  .rw[ξ R];show Iv g h _ _
theorem vq(g:0<n)(h:fb n p)(k):∀f x y,ze n (λ_=>True) (kas_place p k f x y)
 | 0,x,y=>by
   rw[kas_place.eq_1];trivial
 | f+1,x,y=>by
   rw[kas_place.eq_2]
   by_cases B:x ≥ y
   .rw[ο B];trivial
   .rw[ξ B];show bF (h.at g _) (h.at g _) λb=>?_
    cases b with
    | true=>show vq g h k f _ _
    | false=>show vq g h k f _ _
theorem MP(g:0<n):∀f {p:Array Nat} (x:Nat),fb n p->ze n (fb n) (kas_bin f p x)
 | 0,p,x,h=>by
   rwa [kas_bin.eq_1]
 | f+1,p,x,h=>by
   rw[kas_bin.eq_2];show ze.bind (vq g h _ _ _ _) λl _=>MP g f _ (MN h _ _)
def PV(g:0<n):ze n (fb n) (kas_sort n):=by
 have o:fb n (19#n).toArray:=by unfold fb;simp
 show ze.bind (MO g o n) λr C=>?_
 by_cases B:r.1<n
 .rw[ο B];show MP g _ _ C
 .rwa [ξ B]
open PySem PySem.Spec PySem.Calls PyProof.Rows PySem.W PySem.Builtin PySem.Builtin.ObjectAttr
abbrev CN:70#0:=[.type "ValueError",.type "Exception",.type "BaseException",.type "object"]
structure ou(K:Frag)(C R f:Addr)(name:Str):Prop where
 obj:∃nm q N bs hd sn sub ab col dd k0 k1 k2 k3 k5,K.lookup C=some (excClassObj nm q C N bs (.ref R::CN) hd sn sub ab col dd k0 k1 k2 k3 k5 "ValueError.__new__")
 init:findIn K (.ref C) "__init__"=41#(.ref f)
 fn:isFn K (.ref f)=true
 kp:keepIn K (.ref C)=true
 sa:findIn K (.ref C) "__setattr__"=41#(.builtin "object.__setattr__")
 tk:takerIn K C name=some none
 hd:hasDictIn K C=true
 no:findIn K (.ref C) name=some none
 rd:readsIn K R (.type "type")=true
 ri:findCls K (.ref R) (.type "type") "__init__"=some (.val (.builtin "ValueError.__init__"))
 rg:specialIn K (.ref R) "__getattribute__"=41#(.builtin "type.__getattribute__")
def tH(L:Addr)(cls:Value)(m:184#0):HO:=.ext λh=>∃t i,h.get? L=some { cls:=cls,dict:=m,data:=49#t,slots:=i}
def AV{h:Heap}(q:∃t i,h.get? L=some { cls:=cls,dict:=m,data:=49#t,slots:=i}):dm P w H h L (tH L cls m) :=
 (bF q (let⟨_,_,e⟩:=q;⟨_,e⟩) (λZ R=>gF λt i e k=>gR t i (k _ e)))
def del(H:Hp)(a:Addr):Hp:=λb=>if b=a then none else H b
def vt:del H a a=none:=by unfold del;rw[ο rfl]
def lA(h:b≠a):del H a b=H b:=by unfold del;rw[ξ h]
def SY(h:H a=some o):η H a o=H:=by
 funext b
 by_cases e:b=a
 .rw[e,aa,h]
 .rw[ao e]
def CO(O:OwnCls y R CN "ValueError.__new__" mg h):OwnTail h CN (.ref R::CN):=by
 show fy (λg N S=>gb λq W c u=>gb λsub H F C=>gb λv x p B=>aY λG d a o b _=>?_) O.obj
 show .own a o b .base
section
variable   {A:Around}  {K:Frag}
section
variable     {os:OsState}
def MQ{g:70#0}(X:K.In M)(D:ou K C R f name)(T:OwnTail M CN (.ref R::CN))(P:36#g.length)
 (h:∀h' e,Heap.MadeExcOf M h' e (.ref C) g->wpAny 21#w A (call (.ref f) (.ref e::g)) (λr Z=>r = .none/\Q (.done (.ret (.ref e))) Z) E ⟨h',n,l,j,os⟩) :
 wpAny 21#w A (Builtin.«type.__call__» ⟨.ref C::g,[]⟩) Q E ⟨M,n,l,j,os⟩:=by
 have F:=PySem.F.excBase_ValueError;show fy (λS q N=>gb λW J I sub=>gb λH t y v=>gb λx p B G c=>?_) D.obj
 have a:=X _ _ c
 repeat (first | with_reducible show wpAny_madeBy_exc a ?_ | show 205#a | wp_step)
 show codeAny_call_builtin_code (Code.quiet_builtin _ F.quiet) (wpAny_check_new_subT F T a (codeAny_exc_new_subT F T a ?_ P));generalize u:(M.push { cls:=.type "tuple",data:=.seq g.toArray}).push { cls:=.ref C,data:=49#M.objs.size}=m;have d:∀b o,48#M.get?->48#m.get?:=λb o e=>by rw[<-u];show c! _ (c! _ e)
 have i:=X.keeps d;have O:=d _ _ a;have s:m.get? (M.objs.size+1)=some { cls:=.ref C,data:=49#M.objs.size}:=by rw[<-u];heap_get
 have k:(Value.ref C::Value.ref R::CN).contains (.ref C)=true:=by simp
 repeat (first | show 205#s | (with_reducible show wpAny_isSubtype_exc O ?_;rw[k]) | wp_step)
 show Looks.here (looks_findIn i D.init) ?_;show F! (aU (Looks.here (bind_fn i (.ref (M.objs.size+1)) (P?.mp D.fn)) ?_));show aU (p! (h m (M.objs.size+1) ⟨d,adz (Q! _),M.objs.size,s,adz (Ξ _),?_⟩) (λr Z z=>?_) λ_ _ z=>z)
 .rw[<-u];show c! _ (Heap.get?_push_at rl rl)
 .obtain⟨rfl,z⟩:=z
  wp_walk
  show z
def MR{g:70#0}(X:K.In M)(D:ou K C R f name)(T:OwnTail M CN (.ref R::CN))(P:36#g.length)
 (h:∀h' e,Heap.MadeExcOf M h' e (.ref C) g->wpAny 21#w (A.under (.builtin "type.__call__" ⟨.ref C::g,[]⟩)) (call (.ref f) (.ref e::g)) (λr Z=>r = .none/\Q (.ref e) Z) E ⟨h',n,l,j,os⟩) :
 wpAny 21#w A (call (.ref C) g) Q E ⟨M,n,l,j,os⟩:=by
 show fy (λS q N=>gb λW J u sub=>gb λH F b v=>gb λx p B G c=>?_) D.obj
 have a:=X _ _ c;have t:=tc_lookup;have U:=tc_bind (.ref C);have d:(⟨M,n,l,j,os⟩:Shared).TypeIs (.ref C) "type":=ae _ a rfl;show wpAny_call (codeAny_of_tree ?_)
 repeat (any_goals (first | assumption | wp_step | show 205#a))
 show 34#(codeAny_call_builtin_at (Code.quiet_builtin _ (2#0)) entry_typeCall (wpAny_check_type_call_sub a (MQ X D T P h)))
end
def FO(D:ou K C R f name)(k:A.handled=none)
 (h:wpAny M A x (λv j=>∃e t m i,v = .ref e/\K.In j.heap/\j.heap.get? e=some { cls:=.ref C,dict:=m,data:=49#t,slots:=i}/\E (.ref e) j) E s) :
 186#(raiseStmt env (some x) none):=by
 show fy (λS q N=>gb λW J u sub=>gb λH F o w=>gb λy p B G c=>?_) D.obj
 have d:(Value.ref C::Value.ref R::CN).contains (.type "BaseException")=true:=rfl;show aU (p! h (λv j Z=>?_) λ_ _ z=>z)
 revert Z;show gF λe t=>aY λm i g X T b=>?_;subst g
 have a:=X _ _ c;obtain⟨r,n,l,I,os⟩:=j
 repeat (first | (with_reducible show wpAny_isSubtype_exc a ?_;rw[d]) | show 205#T | show 205#a | wp_step)
 show wpAny_raiseNew_none k b
end
section
variable  {pq:cF}{σ:St}
def θ.PX(I:5#s)(h:H L=some (.ext g))(o:199#L=none):θ X pq σ (del H L) s:=by
 have G:∀b u,H b=some u->(∀a,u≠.ext a)->b≠L:=λb u e z y=>by
  subst y;rw[h]at e;show z g (20#e).symm
 have none_of:∀b,H b=none->del H L b=none:=λb e=>by
  by_cases z:b=L
  .rw[z];show vt
  .rw[lA z];show e
 show⟨I.ok,I.os,I.bare,⟨I.base.keep,I.base.slot,λb T e n B=>none_of b (I.base.free b T e n B),I.base.there,λb f e=>?_,λb T u e=>?_,λb i e=>?_⟩,I.loc,I.cell,none_of _ I.free,λx c e=>none_of _ (I.gG x c e),λp M=>?_,λb u e=>?_,I.len⟩
 .have q:=I.base.tups b f e
  rwa [lA (G b _ q (λa z=>by cases z))]
 .have q:=I.base.jN b T u e
  rwa [lA (G b _ q (λa z=>by cases z))]
 .obtain⟨w,q⟩:=I.base.l8 b i e;show⟨w,by rw[lA (G b _ q (λa z=>by cases z))];show q⟩
 .show cW (λS d D=>?_) (I.pin p M)
  show bF S (none_of _ d) D
 .have O:b≠L:=λz=>by rw[z,vt]at e;cases e
  rw[lA O]at e;show(I.hok b u e).stay (λ_ _ _ q=>q) (λc q=>by rw[lA (G c _ q (λa z=>by cases z))];show q) λc f q=>by rw[lA (G c _ q (λa z=>by cases z))];show q
end
def PY(C:Addr)(sp:Sp)(E:XK)(t:TA):TS:=λ_ U H=>t U H λF N=>36#F.length/\∀x,N x=none->
 sp (.ref x::F) (η N x (tH x (.ref C) none)) (λv G=>v = .eM/\∃m,G x=some (tH x (.ref C) m)/\E (.ref C) m (del G x)) λ_ _ _=>False
section
variable {X:Cx}{E:XK}{C R f:Addr}{name:Str}
def JS{k:Nat}{fd:FuncData}{i:List Str}{sp:Sp}{x y:Str}{e:Expr}{W:List Expr}{g:TA}{j c l:Pos}(O:Out X E)(L:X.calm=true)(o:Gl X x)(d:X.mg x=some (.ref C))(a:ou X.K C R f name)
 (m:∀h,X.K.In h->h.Ns mainGlobals X.mg->OwnCls y R CN "ValueError.__new__" X.mg h) (G:iM X.prog X.w X.K X.mg X.base rA k f fd i sp) (B:dF (k+1) X.A) (w:Binds X.K fd i []) (n:PA X (e::W) g)
 (T:9#(e::W)=25#e::9#W:=by rfl) (b:(backTo c (9#W)).any (·.1)=false:=by rfl) (J:193#("__debug__":Str):=by decide) :
 PS X (.Raise (some (.Call (.Name x j) (e::W) [] c)) none l) (PY C sp E g):=by
 show 140;rw[arm_exec_Raise];show aU (wpAny_standAt (FO a (I.ok.hd L) ?_));show aU (p! (174#(kQ I o d (A_ I.ok.mod.OY a.kp (c6 (n c S s U H _ I h) λg j=>aY λF N A r P q=>⟨A.pB,?_⟩) T b) J)) (λv k z=>aU (wpAny_standAt (Θ z))) λ_ _ z=>z)
 obtain⟨M,n,h,b,os⟩:=j;show MR A.pB a (CO (m _ A.pB (A.mod.glob.keeps A.bk))) (by change g.length<=_;rw[<-r.length];show P) λj x c=>?_
 have Q:=c.new;have s:N x=none:=by
  cases m:N x with
  | none=>rfl
  | some z =>
    obtain⟨a,e⟩:=(A.hok x z m).thing;rw[show M.get? x=some a from e]at Q
    cases Q
 have k:199#x=none:=by
  cases m:199#x with
  | none=>rfl
  | some o =>
    obtain⟨a,e⟩:=A.base.there x o m (by rw[O.ex];simp)
    rw[show M.get? x=some a from e]at Q
    cases Q
 show aA (λt m _ _=>?_) c.there
 have l:θ X S U N ⟨j,n,h,b,os⟩:=A.kept (t':=b) c.keeps;have d:θ X S U (η N x (tH x (.ref C) none)) ⟨j,n,h,b,os⟩:=by
  show l.Ma s k (λz=>?_) (λy c e z=>?_) (λp a z=>?_) (AV (gR t (#[]) m))
  .show af (λm u _=>?_) A.loc;obtain⟨o,_,_,Y,_⟩:=u
   rw[<-z,show M.get? x=none from Q]at Y
   cases Y
  .show bh (λv o Y _=>?_) (A.cell y c e)
   rw[z,show M.get? x=none from Q]at Y
   cases Y
  .have q:=(A.pin p a).1;rw[z,show M.get? x=none from Q]at q
   cases q
 have a:υ (V.ref x::F) (Value.ref x::g):=.cons rl r;have l:=q x s;have m:29#(Value.ref x::g++[])=i.length:=by
  have e:=a.length;rw[G.len _ _ _ _ l]at e;rw[A?];show e.symm
 have c:=w ⟨j,n,h,b,os⟩ (Value.ref x::g) d.pB m;rw[A?]at c;show wpAny_call (codeAny_mono (G.run _ X.stack _ _ ⟨Value.ref x::g,[]⟩ (Value.ref x::g) _ _ _ (B.make C g []) (d.O2.make C g []) c a l) λr Z z=>?_)
 cases r with
 | error e=>show 147#z
 | ok w =>
   cases w with
   | ret u =>
     show bh (λv Y o=>bG λb a m B p=>?_) (d.after z)
     subst a;obtain⟨⟨d,c,a⟩,_⟩:=(show dm X.prog X.w Y Z.heap x (tH x (.ref C) m) from o.hok x _ B)
     show cD b x (aV d m c rl o.pB a ?_);show O.XO (o.PX B k) a rl rl rl rl vt k 197#0 p
   | next=>show 147#z
   | brk=>show 147#z
   | cont=>show 147#z
end
def tXI(C:Addr)(t:TA):TE:=λU H Q=>t U H λF N=>∃x m k,F = .ref x::k/\36#k.length/\N x=some (tH x (.ref C) m)/\∀G,G=η N x (tH x (.ref C) m)->Q .eM G
section
variable {X:Cx}{C R f:Addr}{name:Str}
def MS{y z:Str}{e:Expr}{W:List Expr}{t:TA}{b a l:Pos}{j:Sem Bool}(D:ou X.K C R f name)(c:∀h,X.K.In h->h.Ns mainGlobals X.mg->OwnCls z R CN "ValueError.__new__" X.mg h)(g:Gl X y)(d:X.mg y=some (.ref R))(E:PA X (e::W) t)
 (Y:9#(e::W)=25#e::9#W:=by rfl) (i:(backTo l (9#W)).any (·.1)=false:=by rfl) (J:(y==("__debug__":Str))=false:=by decide)
 (n:eval (.Call (.Attribute (.Name y b) "__init__" a) (e::W) [] l) X.env=(do
  let ov←eval (.Name y b) X.env
  standAt a.atName
  let(f,fst1)←holding [ov] (getMethod ov "__init__" j)
  callWith l f fst1 (backTo l (9#(e::W))) 128#l):=by rfl) :
 PE X (.Call (.Attribute (.Name y b) "__init__" a) (e::W) [] l) (tXI C t):=by
 show 47;show adt (kQ I g d (method_cls I.pB D.rg (cls_value I.pB D.rd D.ri (by rfl) ?_)) J) n
 have It:θ X S U H { s with toks:=s.toks+1}:=I.tok _
 have b:=E l S _ U H _ It h;rw[Y]at b ⊢;show Calls.callWith_builtin (by change(false || (backTo l (9#W)).any (·.1))=false;rw[i];rfl) (Calls.evalArgs_plain (c6 b λg w=>eg λj=>cM λG L a x=>aY λh k d P B q=>?_))
 subst d;obtain⟨r,A,rfl,b,Z⟩:∃r A,g=r::A/\Δ (.ref x) r/\υ k A:=by
  cases a with
  | cons b Z=>show aq _ _ rfl b Z
 cases(b);have F:=PySem.F.excBase_ValueError;have T:=CO (c _ L.pB (L.mod.glob.keeps L.bk));show fy (λk l N=>gb λb J m sub=>gb λa d g v=>gb λh p i j c=>?_) D.obj
 obtain⟨⟨a,i,o⟩,_⟩:=(L.hok x _ B);have a:=L.pB _ _ c;obtain⟨M,c,b,j,os⟩:=w;have m:36#A.length:=by rw[<-Z.length];show P
 show wpAny_call (codeAny_call_builtin F.init.plain F.initEntry (wpAny_check_init_subT F T a o rfl ?_));have a:=c! { cls:=.type "tuple",data:=.seq A.toArray} o
 wp_walk
 show aq .eM _ ?_ rl (q _ rl);have b:=j? (a! o);show θ.write L (by rw[B];show True.intro) (.inl rl) (λb u O e=>?_) ?_ ?_
 .rw[I? _ _ (e! O)];show c! _ e
 .show⟨_,Q? _ a rfl⟩
 .show AV (gR M.objs.size i (Q? _ a rl))
end
def VH(C:Addr)(z e:TE)(f:Str):TS:=λD U H=>e U H λy N=>z U N λx G=>∃a,x = .ref a/\G a=some (tH a (.ref C) none)/\∀d,G d=none->d≠a->D.nx U (η (η G a (tH a (.ref C) (some d))) d (.xd [(f,y)]))
section
variable     {K:Frag}
def JT{s:Shared}(X:K.In s.heap)(D:ou K C R f name)
 (B:s.heap.get? x=some { cls:=.ref C,dict:=none,data:=49#t,slots:=i})
 (h:∀h' j,h'.get? x=some { cls:=.ref C,dict:=23#some,data:=49#t,slots:=i}->h'.Ns1 s.heap.objs.size (λy=>if y=name then some v else none)->
  (∀b o,b≠x->16#o->48#h'.get?)->Q () { s with heap:=h',toks:=j}):52#(setAttr (.ref x) name v):=by
 have I:InstAt s.heap x { cls:=.ref C,dict:=none,data:=49#t,slots:=i} C none:=⟨B,rfl,rfl,trivial⟩;have e:=PySem.F.store_ValueError;have q:=PySem.F.store_object;show fy (λS d N=>gb λa J u sub=>gb λH F g j=>gb λk p l m c=>?_) D.obj
 show set_plain X I D.sa ?_;have G:clsIn K C=some { name:=S,bases:=a,mro:=.ref C :: .ref R::CN,ns:=N,qualname:=d,hasDict:=J,slotNames:=u,subclasses:=sub,abstract:=H,collection:=F,hasDel:=false}:=by
  unfold clsIn;rw[c]
 have U:J=true:=by
  have z:=D.hd;unfold hasDictIn at z;rw[G]at z;show z
 subst U;have Z:=I.type (M:=model prog w);have d:Looks 21#w s.heap (mroOf (.ref C)) (.ref C :: .ref R::CN):=(looks_clsIn X G).andThen .now;have r:Looks 21#w s.heap (isInstance (.ref x) (.type "object")) true:=Z.andThen (looks_mroIn X (by unfold mroIn;rw[G];rfl))
 show af (λa m g=>?_) (Option.bind_eq_some_iff.mp D.tk)
 have c:Looks 21#w s.heap (storeTaker? a) none:=by
  cases a with
  | none=>show .now
  | some a =>
    show af (λb O z=>?_) (nC.mp g)
    show(looks_takesIn X O).andThen ?_;cases b with
    | true=>cases z
    | false=>show .now
 show codeAny_call_builtin q.slot.plain q.entry (@check_slot 21#w _ _ { s with toks:=s.toks+1} "object.__setattr__" "object" "__setattr__" (.ref x) [.str name s.toks,v] [] _ q.kind q.split r (q.args (.ref x) (.str name s.toks) v) ?_)
 rw[osa_eq,refuse_eq];show aU (aU (Looks.here Z (aU (Looks.here d ?_))));rw[refuseLoop_ref,refuseLoop_ref,e.passes];show Θ (aU (Looks.here Z (aU (Looks.here (looks_findIn X m) (aU (Looks.here c ?_))))));show aU (Θ (aU (aU (wpAny_loadPart B (aU (Looks.here (looks_clsIn X G) ?_))))));have k:(110#{ cls:=.type "dict",data:=.dict #[]}).get? x=some { cls:=.ref C,dict:=none,data:=49#t,slots:=i}:=c! _ B;have g:=n! (a! B);show aU (wpAny_alloc' (aU (wpAny_update' k (Θ ?_))));generalize O:((110#{ cls:=.type "dict",data:=.dict #[]}).update x λo=>{ o with dict:=23#some})=h2
 have c:23#h2.get?=some { cls:=.type "dict",data:=.dict #[]}:=by
  rw[<-O];show(Heap.get?_update_ne _ _ _ _ g.symm).trans (Heap.get?_push_at rl rl)
 have a:h2.get? x=some { cls:=.ref C,dict:=23#some,data:=49#t,slots:=i}:=by
  rw[<-O];show Q? _ k rfl
 have i:∀b o,b≠x->16#o->48#h2.get?:=λb o n e=>by
  rw[<-O];show(Heap.get?_update_ne _ _ _ _ n).trans (c! _ e)
 have d:h2.Ns s.heap.objs.size (λ_=>none):=aV _ (#[]) _ c rl (λe T=>absurd T 22#0) λ_=>rfl
 show aU (Θ (aU (wpAny_nsSet1 (Heap.Ns1.of_empty d) λh' z W=>?_)))
 have l:∃o,23#h'.get?=some o/\o.data.pastItsLine=none:=by
  show eu (λo _ _ Y J L=>?_) (z.count (Within.cons name v Within.nil))
  rw[y!,j_]at L;show ae o Y (by rw[J];show pastItsLine_dict (b! L (by rw[sizeLine_eq];lia)))
 revert l;show af λo Y P=>?_
 show aU (wpAny_lookBehind Y P ?_);show Θ (h h' _ ((W.2 x g).trans a) z λb o n e=>?_)
 show(W.2 b (n! (a! e))).trans (i b o n e)
end
section
variable {X:Cx}{C R f:Addr}{name:Str}{o value:Expr}{pos pos' : Pos}{ta tv:TE}
def P0(Q:ou X.K C R f name)(E:PE X o ta)(b:PE X value tv)(W:swapsWith value (some (.Attribute o name pos')) pos.line X.env=pure false:=by rfl):PS X (.Assign [.Attribute o name pos'] value pos) (VH C ta tv name):=by
 show 140;show plainObj_wpAny_Assign_Attribute (c6 27#b λu j=>aD λy N A D q=>c6 (E S j U N _ A q) λd w=>aD λx G L rx=>aA λa P B c=>?_) W
 subst P;cases(rx);obtain⟨⟨t,i,r⟩,_⟩:=(L.hok a _ B);show JT L.pB Q r λZ b l n d=>?_
 have k:=L.hok.fresh (Ξ _);have J:=j? (a! r);have F:θ X S U (η G a (tH a (.ref C) (some w.heap.objs.size))) { w with heap:=Z,toks:=b} :=
  θ.write L (by rw[B];show True.intro) (.inl rl) (λb u O e=>d b u O e) ⟨_,l⟩ (AV (gR t i l))
 show bf U _ (F.Ma (o:=.xd [(name,y)]) (by rw[ao J];show k) ?_ ?_ ?_ ?_ (ae _ n (λg=>?_))) (c _ k J)
 .cases m:199#w.heap.objs.size with
  | none=>rfl
  | some T=>show 204#(t! (a! m) L.sz)
 .show j? L.lt
 .intro O c e z;show bh (λv T Y _=>?_) (L.cell O c e)
  rw[z]at Y;show 204#(a! Y)
 .intro p M z;have q:=(L.pin p M).1;rw[z]at q;show 204#(a! q)
 .by_cases z:g=name
  .have O:=P?.mpr z;rw[ο z];simp only[List.lookup,O];show D
  .have O:=99#z;rw[ξ z];simp only[List.lookup,O];show True.intro
end
section
variable     {K:Frag}   {s:Shared}
def P1(X:K.In s.heap)(i:Fb K C)(D:ou K C R f name)(B:s.heap.get? x=some g)(L:g.cls = .ref C)(J:g.data = .fields vs)(e:g.dict=some d)
 (n:s.heap.Ns1 d p) (a:p name=some v) (k:handedIn v=true) (q:Q v { s with toks:=s.toks+1}):52#(getAttr (.ref x) name b):=by
 obtain⟨y,H,l,j,os⟩:=s;show af (λm Y P=>?_) (yx n)
 have I:InstAt y x g C (some m):=by
  show⟨B,L,?_,?_⟩
  .unfold notCls;rw[J]
  .rwa [e]
 have Z:=I.type (M:=model prog w);have r:=looks_findIn (M:=model prog w) X i.ga;have h:=looks_findIn (M:=model prog w) X i.gh;have z:Looks 21#w y (isInstance (.ref x) (.type "BaseException")) true:=Z.andThen (looks_mroIn X i.mb);have u:Looks 21#w y (find (.ref x) (.ref C) name) (.value v):=by
  show af (λcd G c=>?_) (any_some D.hd)
  have t:=looks_own (M:=model prog w) X I G (by unfold PySem.W.ownOf;rw[ο c];show(P name).trans (by rw[a]))
  have o:Looks 21#w y (ownThenClass (.ref x) name none none) (.value v):=t.andThen (Looks.tag .now);show(looks_findIn X D.no).andThen (Looks.andThen .now (Looks.andThen .now o))
 show aU (wpAny_mkText (F! (aU (Z.at (aU (r.at ?_))))));show aU (Looks.at (h) (aU (wpAny_attempt (F! ?_))));unfold callGetattribute;rw[ξ (by rw[show onTheHeap (Value.builtin "BaseException.__getattribute__")=false from rfl,d_];decide)]
 unfold boundAndCalled;rw[F.attrBase_ValueError.ga.bind (.ref x)];show aU (Θ ?_);show wpAny_call (codeAny_call_builtin F.attrBase_ValueError.ga.plain F.entry_bexc_ga (Fc z ?_));show aU (Θ (aU (Θ (aU (Z.at (aU (u.at (Θ ?_))))))));change wpAny _ _ (handedOut v) _ _ _;rw[handedOut_of k];show Θ q
end
def VI(K:cu)(z:TE)(f:Str):TE:=λU H Q=>z U H λx N=>∃a C R g d W v,x = .ref a/\N a=some (E9 a (.ref C) (some d))/\N d=some (.xd W)/\W.lookup f=some v/\Fb K C/\ou K C R g f/\Q v N
section
variable {X:Cx}
def P4(K:cu){e:Expr}{f:Str}{l:Pos}{z:TE}(T:PE X e z)(O:attributeBase e f X.env 123#e=eval e X.env:=by rfl)(o:X.K=K:=by rfl):PE X (.Attribute e f l) (VI K z f):=by
 subst o;show 47;show HB O (c6 27#T λu j=>aD λx N A rx=>gb λa C R g=>cQ λd W v m=>eV λE J P i D q=>?_)
 subst m;cases(rx);obtain⟨⟨w,F,t,b,k,_,y⟩,_⟩:=(A.hok a _ E);show af (λp n r=>?_) (A.hok d _ J)
 show af (λu c Y=>?_) (jZ.some_of (by rw[<-P];show r f))
 show P1 A.pB i D t b k y n c (yy Y) (aq v N (A.tok _) Y q)
end
end L2
namespace RM
variable {N:Net}
inductive Wn(N:Net)(eS:Nat):List Nat->Nat->List Nat->Nat->Prop
 | start {t:Nat} (ht:((19#N.n).filter λk=>eS.testBit k)[0]?=some t):Wn N eS [] (N.a t) [] eS
 | next {pre ks:List Nat} {v left t:Nat} (h:Wn N eS pre v ks left) (hv:v∉pre) (ht:(N.pM left v)[0]?=some t):Wn N eS (pre++[v]) (N.SX t v) (ks++[t]) (left^^^2^t)
section
variable {eS left v:Nat}
def MT(d:eS<2^N.n)(W:N.eR eS)(h:Wn N eS y v M left):Way N eS y v M left:=by
 induction h with
 | start n=>show Way.start d W (K!.mp (fP n)).2
 | next h a n G =>
   show cW (λ_ O D=>?_) (pN.mp (fP n))
   show G.go a O (MM D)
def VJ(b:eS<2^N.n)(W:N.eR eS)(h:Wn N eS y v M left)(a:v∉y):∃t,(N.pM left v)[0]?=some t:=by
 have w:=MT b W h;show af (λt O D=>?_) (w.on a)
 have d:=pN.mpr (bF (eX w.AM O) O D);cases e:N.pM left v with
 | nil=>rw[e]at d;cases d
 | cons x r=>show⟨x,rfl⟩
end
def CP{r left:Nat}(h:∀k,183#0=true->216#k=true)(k):(left^^^r).testBit k=(216#k && ! 183#0):=by
 rw[h!];cases D:183#0 with
 | false=>simp
 | true=>rw[h k D];rfl
inductive Sp(B:List Nat):Nat->Prop
 | zero:Sp B 0
 | add {x b:Nat} (h:Sp B x) (hb:b∈B):Sp B (x^^^b)
def Sp.mem(h:b∈B):Sp B b:=by
 have:=Sp.add .zero h;rw[l?]at this;show this
def Sp.xor(h:Sp B x)(h' : Sp B y):Sp B (x^^^y):=by
 induction h' with
 | zero=>rw[k?];show h
 | add _ O G=>rw[<-b?];show .add G O
def Sp.mono(h:Sp B x)(L:∀b∈B,Sp C b):Sp C x:=by
 induction h with
 | zero=>show .zero
 | add _ O G=>show G.xor (L _ O)
def kj(x b:Nat):x^^^b^^^b=x:=by rw[b?,N?,k?]
def Sp.mP:Sp (b::B) x↔Sp B x\/Sp B (x^^^b):=by
 constructor
 .intro h
  induction h with
  | zero=>show .inl .zero
  | add h L G =>
    rename_i x c
    rcases Z'.mp L with e|e
    .subst e;rcases G with G|G
     .show .inr (by rw[kj];show G)
     .show .inl G
    .rcases G with G|G
     .show .inl (.add G e)
     .show .inr (by rw[b?,adU c,<-b?];show .add G e)
 .rintro(h|h)
  .show h.mono λc L=>.mem (jx _ L)
  .have R:Sp (b::B) (x^^^b):=h.mono λc L=>.mem (jx _ L)
   have:=R.add g!;rw[kj]at this;show this
def Sp.off(h:Sp B x)(hz:∀b∈B,b.testBit t=false):x.testBit t=false:=by
 induction h with
 | zero=>show c_ t
 | add _ O G=>rw[h!,G,hz _ O];rfl
def Sp.lt(h:Sp B x)(hz:∀b∈B,b<2^n):x<2^n:=by
 induction h with
 | zero=>show F? n
 | add _ O G=>show T! G (hz _ O)
inductive Rt:143#Nat->Prop
 | nil:Rt []
 | cons {t r:Nat} {rest:143#Nat} (h:Rt rest) (hr:r.testBit t=true) (hz:∀q∈rest,q.2.testBit t=false):Rt ((t,r)::rest)
def CQ(k:143#Nat)(x:Nat):Nat:=k.foldl (λx q=>if 131#q.1 then x^^^q.2 else x) x
def Iw(k:143#Nat):∀x,Sp (k.map (·.2)) (x^^^CQ k x):=by
 induction k with
 | nil=>intro x;change Sp [] (x^^^x);rw[N?];show .zero
 | cons q H G =>
   intro x;change Sp (q.2::H.map (·.2)) (x^^^CQ H (if 131#q.1 then x^^^q.2 else x))
   have h:=G (if 131#q.1 then x^^^q.2 else x)
   by_cases e:131#q.1
   .rw[ο e]at h ⊢;show Sp.mP.mpr (.inr ?_)
    rwa [b?,adU _ q.2,<-b?]
   .rw[ξ e]at h ⊢;show Sp.mP.mpr (.inl h)
def JU(hz:∀q∈k,q.2.testBit t=false):∀{x},x.testBit t=false->(CQ k x).testBit t=false:=by
 induction k with
 | nil=>intro x h;show h
 | cons q H G =>
   intro x h;have R:(if 131#q.1 then x^^^q.2 else x).testBit t=false:=by
    by_cases e:131#q.1
    .rw[ο e,h!,h,hz q g!];rfl
    .rw[ξ e];show h
   show G (λC D=>hz C (jx _ D)) R
def zf(h:Rt k):∀x,∀q∈k,(CQ k x).testBit q.1=false:=by
 induction h with
 | nil=>intro x q D;cases D
 | cons h C m G =>
   rename_i t r H
   intro x q D;change(CQ H (if 131#t then x^^^r else x)).testBit q.1=false
   rcases Z'.mp D with e|e
   .subst e;show JU m ?_
    by_cases e:131#t
    .rw[ο e,h!,e,C];rfl
    .rw[ξ e];show RS.mpr e
   .show G _ q e
def MU(h:Rt k):∀{x},Sp (k.map (·.2)) x->(∀q∈k,x.testBit q.1=false)->x=0:=by
 induction h with
 | nil=>intro x W _;cases W with
   | zero=>rfl
   | add _ O=>cases O
 | cons h C m G =>
   rename_i t r H
   intro x W B;have J:∀y,Sp (H.map (·.2)) y->y.testBit t=false:=λy a=>a.off λb O=>by
    show af (λq D f=>?_) (U'.mp O);subst f
    show m q D
   rcases Sp.mP.mp W with W|W
   .show G W λq D=>B q (jx _ D)
   .exfalso
    have Z:=J _ W;have R:=B (t,r) g!;rw[h!]at Z;have R:=R;rw[R,C]at Z;cases Z
def JV(h:Rt k)(x):CQ k x=0↔Sp (k.map (·.2)) x:=by
 have W:=Iw k x
 constructor
 .intro e;rw[e,k?]at W;show W
 .intro B;show MU h ?_ (zf h x);have:=B.xor W;rw[<-b?,N?,l?]at this;show this
open Classical in
open Classical in
def P5(h:x≠0):131#x.log2:=Nat.testBit_log2 h
open Ring (xorL xorL_cons maskOf)
variable {N:Net}
def JW:N.cZ.Nodup:=adD _ adS
def rR(L:c<N.n)(F:N.mH c=false):N.Ring (N.ring c):=by
 show bF (λz=>?_) (nH L) λq D W=>?_
 .have h:=uX F;rw[z]at h;simp at h
 .have f:=fh λk Y=>eX (kZ L) (D k Y)
  cases u:q.testBit c with
  | true =>
    show .inr (Ms f (kZ L) W (nH L) λd J b=>?_)
    rw[pJ F b]
    by_cases e:c=d
    .subst e;simp[u]
    .rw[gm e];cases a:q.testBit d with
     | false=>rfl
     | true =>
       have:=D d a;rw[pJ F b,gm e]at this;cases this
  | false =>
    show .inl (gY (λk Y=>?_) W)
    rcases mJ (D k Y) with e|e
    .subst e;rw[u]at Y;cases Y
    .show e
end RM
namespace L2
open PySem PySem.Spec PyProof.Rows
theorem zg:∀{ss} {its},υ (ss.map V.str) its->∃l:194#Tok,its=strValues l/\l.map (·.1)=ss
 | [],_,.nil=>ae [] rfl rfl
 | x::ss,_,.cons r rr=>by
   show 223;show af (λl f h=>?_) (zg rr);subst f
   show ae ((x,t)::l) rl (by rw[l!,h])
theorem zh:∀l,υ ((l.map (·.1)).map V.str) (strValues l)
 | []=>.nil
 | (x,t)::l=>.cons ⟨t,rfl⟩ (zh l)
section
variable {X:Cx}
def rJoin(K:cu):V->80#(List V):=λx F H Q=>∃b p d,x = .str b/\F=[.ref p]/\aI K H p (d.map V.str)/\PySem.JoinOk b d=true/\Q (.str (Txt.join b d)) H
def nK(K:cu)(J:X.K=K:=by rfl):Vc X "str.join" (rJoin K):=by
 subst J;intro S s U H x f v g Q I rx y h
 revert h;show bO λb p d r c D j q=>?_;subst r c
 show 59;show af (λu R Y=>?_) (vals1 y);subst R
 cases Y;show 130#(λC G a m=>?_)
 show af (λl O P=>?_) (zg G);subst O
 show SC.join a.isList P j λT k=>aq (.str _) H (I.tok _) ⟨T,rfl⟩ q
def S0:V->80#(List V):=λx F H Q=>∃z b:Str,x = .str z/\F=[.str b]/\(b.length==0)=false/\36#z.length/\29#(Txt.split z b)<=sizeLine/\∀D,H D=none->Q (.ref D) (η H D 69#(120#(Txt.split z b)))
def θ.strs{S:cF}{U:St}{l:194#Tok}(I:θ X S U H s)(hz:36#l.length):
 θ X S U (η H s.heap.objs.size (.lst ((l.map (·.1)).map V.str))) { s with toks:=k,heap:=110#{ cls:=.type "list",data:=.seq (strValues l).toArray}}:=by
 show I.laid (λb u e=>c! _ e) (Ξ _) (aS (by rw[χ,χ];show hz) (strValues l) 0 (zh l) (v! _ rl))
def mQ:Vc X "str.split" S0:=by
 intro S s U H x f v g Q I rx y h
 revert h;show gF λz b=>eV λc P W m l q=>?_;subst c P
 show 59;show af (λu d=>eg λT j=>?_) (vals1 y);subst d j
 have a:=138#(23#Ξ);have o:Txt.split z b=[z]->∀k,EP X S U Q (23#.ref) { s with toks:=k,heap:=110#{ cls:=.type "list",data:=.seq (strValues [(z,t)]).toArray}}:=λe k =>
  (aq (.ref _) _ (I.strs (by change 1<=sizeLine;decide)) rl (by have r:=q _ a;rw[e]at r;show r))
 by_cases Z:(13#(z.length<b.length) || 13#(Builtin.Str.strKind z<Builtin.Str.strKind b))=true
 .show call_meets F.slot_str_split (typeIs_str _ _ _) F.entry_str_split (F.args_str_split_2 _ _) (meets_str_split_cannot_occur z b t T Z) (o (ο Z) _)
 have Z:=RS.mpr Z
 by_cases R:(Builtin.Str.occurrences z b 0 z.length (z.length+1)).isEmpty=true
 .show call_meets F.slot_str_split (typeIs_str _ _ _) F.entry_str_split (F.args_str_split_2 _ _) (meets_str_split_not_found z b t T Z W R) (o ((ξ (ne_true_of_eq_false Z)).trans (ο R)) _)
 have R:=RS.mpr R;have e:Txt.split z b=Builtin.Str.partsBetween z (Builtin.Str.occurrences z b 0 z.length (z.length+1)) b.length:=(ξ (ne_true_of_eq_false Z)).trans (ξ (ne_true_of_eq_false R));rw[e]at l q;show call_meets F.slot_str_split (typeIs_str _ _ _) F.entry_str_split (F.args_str_split_2 _ _) (meets_str_split_sep z b t T Z W R m l) ?_;rw[strsFrom_eq];have i:=numbered_texts s.toks (Builtin.Str.partsBetween z (Builtin.Str.occurrences z b 0 z.length (z.length+1)) b.length);show aq (.ref _) _ (I.strs ?_) rl ?_
 .have:=k! List.length i;rw[χ]at this
  rwa [this]
 .rw[i];show q _ a
def jV:fB X (.type "int") (λxs H Q=>∃x n,xs=[.str x]/\PySem.intText? x=some n/\x.length<=640/\Q (.int n) H):=by
 intro S s U H xs a Q I r h
 revert h;show aY λx n c g P q=>?_;subst c
 show 164#(λu e=>eg λt f=>?_);subst e f
 show PySem.W.KIN.call_text g P (92#(.int _))
theorem Iz:∀{W:List Bool} {its},υ (W.map V.bl) its->its=W.map Value.bool
 | [],_,.nil=>rfl
 | b::W,_,.cons r rr=>by
   cases r;rw[Iz rr];rfl
def FP:∀W:List Bool,((19#W.length).all λi=>(W[i]?).getD true)=W.all id:=λW=>by
 rw[R!,h_,h_]
 constructor
 .intro h b O;obtain⟨i,I,e⟩:=adJ O;have:=h i (E!.mpr I);rw[z! I,e]at this;show this
 .intro h i I;have I:=E!.mp I;rw[z! I];show h _ (E_ I)
def JX(K:cu)(L:X.calm=true)(J:X.K=K:=by rfl):fB X (.builtin "all") (λxs H Q=>∃(p:Addr) (W:List Bool),xs=[.ref p]/\aI K H p (W.map V.bl)/\Q (.bl (W.all id)) H):=by
 subst J;show 185
 revert h;show aD λp W t D q=>?_;subst t
 show 164#(λu c rx=>?_);subst c
 cases rx;show 130#(λC G k m=>?_)
 obtain rfl:=Iz G;have n:p<s.heap.objs.size:=by show af (λ_ e _=>?_) k.isList;show a! e
 show call_all_walk (wpAny_pyIter_list k.isList (eE _ [_,p] [_] (bu _ _ _ (λi=>(W[i]?).getD true) rl (Walks.list (A:=X.A.in1) (I.ok.hd L) _ p (n! n) _) ⟨au _ (v! _ rl) rl rfl,k.isList.push _⟩ (λi v Z f a l T=>?_) λN j Y=>?_)))
 .have l:(W.map Value.bool)[i]?=some v:=by simpa using l
  rw[d!]at l;show af (λb e d=>?_) (nC.mp l);subst d
  simp only[e,Option.getD_some]at T;show wpAny_truthy_bool T
 .have z:(W.map Value.bool).toArray.size=W.length:=by simp
  rw[z,FP];show aq (.bl _) H (I.kept λb o e=>Y b o (λd=>?_) (c! _ e)) rl q
  rw[q!.mp d]at e;show S! _ (a! e)
end
def IA(x:Str)(i:Nat):V:=.str ⟨#[x.cps.getD i 0]⟩
def X3(x:Str):It:=⟨λi _=>i<x.length,λi H v Y=>Y=H/\v=IA x i,λi _=>x.length<=i⟩
def MV{K}(x)(it)(n)(t)(g:n="str_ascii_iterator"\/n="str_iterator"):Turn P w K tg (X3 x) [it] it (λi h=>h.IsStrIter it n x t i) where
 mem:=by simp
 obj:=λi h st b O=>by
  have e:b=it:=108#0
  subst e
  revert st;show aA λo e c d=>?_
  show ae o e λv z=>by rw[d]at z;cases z
 keep:=λi h N st k=>let⟨o,ho,r⟩:=st;(ae o (k it 22#0 o ho) r)
 item:=by
  intro X f j J L i S s U H E I F st M;subst f j J;show eV (λa y Q l R Z=>?_) (F it 22#0)
  have M:i<x.cps.size:=M;have B:x.cps[i]?=some (x.cps.getD i 0):=by simp[M]
  rcases g with rfl|rfl
  .show wpAny_pyNext_ascii_item st B λN T m=>?_
   have A:θ X S U H { s with heap:=N,toks:=s.toks+1}:=I.turned (λb o O e=>(m.2 b O).trans e) a y l R Z
   show aA (λo e c d=>?_) (id T)
   show ae _ rl (yr e c d 7#0 (cI (IA x i) H A 197#0 196#0 T (λb O=>(F b O).1)))
  .show wpAny_pyNext_wide_item st B λN T m=>?_
   have A:θ X S U H { s with heap:=N,toks:=s.toks+1}:=I.turned (λb o O e=>(m.2 b O).trans e) a y l R Z
   show aA (λo e c d=>?_) (id T)
   show ae _ rl (yr e c d 7#0 (cI (IA x i) H A 197#0 196#0 T (λb O=>(F b O).1)))
 done:=by
  intro X f j J L i S s U H E I F st M;subst f j J;show eV (λa y Q l R Z=>?_) (F it 22#0)
  have M:x.cps.size<=i:=M;have B:x.cps[i]?=none:=by simp[M]
  rcases g with rfl|rfl
  .show wpAny_pyNext_ascii_end (I.ok.hd L) st B λN q=>34#(I.turned (λb o O e=>q b o O e) a y l R Z)
  .show wpAny_pyNext_wide_end (I.ok.hd L) st B λN q=>34#(I.turned (λb o O e=>q b o O e) a y l R Z)
 self:=λ_ _ _ _ _ st h=>by
  rcases g with rfl|rfl
  .show wpAny_pyIter_striter_ascii st h
  .show wpAny_pyIter_striter_wide st h
def VL(C:TE):TI:=λU H R=>C U H λv N=>∃x,v = .str x/\R (X3 x) N
def S1(P:PE X l d):PI X tg l (VL d):=by
 intro S s U H R I h;show c6 27#P λv j=>aD λx N A r q=>?_
 revert q;show af λy c q=>?_;subst c
 show 223;show wpAny_pyIter_strU ?_;have g:strIterType y="str_ascii_iterator"\/strIterType y="str_iterator":=by
  unfold strIterType
  split
  .show .inl rfl
  .show .inr rfl
 show b9 j.heap.objs.size [j.heap.objs.size] _ _ N rl (A.kept λb o e=>c! _ e) (MV y _ _ t g) (au _ (v! _ rl) rl rl) (λb O=>?_) q
 have e:b=j.heap.objs.size:=108#0
 subst e;show A.xC (Ξ _) (A.hok.fresh (Ξ _))
def MW{x:Str}(d:81#(List V))(o:d 0 [] N)(P:∀i M H,i<=x.length->d i M H->118#H)(hz:36#x.length)
 (W:∀i M H,i<x.length->d i M H->g (IA x i) (73#n++a) H λt G=>t.drop n=a/\h t G λb u =>
  152#t)
 (J:∀M H,d x.length M H->Q H):gn (X3 x) g h C n a D Q N:=by
 show ae (λi k M H=>k=x.length-i/\i<=x.length/\d i M H) (au x.length 22#0 (r! _) o) ?_
 intro i k M H;show cW λr I p=>?_;subst r
 obtain⟨S,E⟩:=P i M H I p;show⟨S,?_⟩
 by_cases w:i<x.length
 .show .inr (aX w (by lia) (d (i+1)) (λl Y F=>cP (x.length-(i+1)) (by lia) rl w F) (λv Y y=>?_))
  obtain⟨e,y⟩:=y;subst e y;show W i M _ w p
 .have e:i=x.length:=by lia
  subst e;show .inl ⟨Ξ _,J M H p⟩
section
variable {X:Cx}
def P6{x v:Str}{l:Pos}(M:Gl X x)(h:∃t,X.mg x=some (.str v t))(J:193#("__debug__":Str):=by decide):72#(tC (.str v)):=by
 obtain⟨t,e⟩:=h;show Ai M e ⟨t,rfl⟩ J
def VM(_:cu):HJ X Sf:=LS
def P7(_:cu)(P:PE X l d):PI X tg l (VL d):=S1 P
end
open AutoSeq1 (wpAny_loadPart')
set_option maxRecDepth 100000 in
def JY(l)(items)(n)(dct)(sl)(t):
 Meets (Builtin.«enumerate.__new__» ⟨[.type "enumerate",.ref l],[(Str.ofString "start",.int 1 t)]⟩) (λ_ R s=>s.heap.get? l=some { cls:=.type "list",dict:=dct,data:=.seq items n,slots:=sl}/\
  R (161#(.ref 35#85#(.type "list_iterator")))
    { s with heap:=(110#85#(.type "list_iterator")).push { cls:=.type "enumerate",data:=.fields #[.none,.bool false,23#.ref,rawInt 1,.none,.none]}}) :=
 .of_wp λL w A R s h=>by
  obtain⟨M,g,d,j,os⟩:=s;obtain⟨P,h⟩:=h;have f:=sub_enumerate;have a:Heap.IsList (Shared.heap 177#j) l items:=ae _ P (cD rl n rl)
  wp_walk using 173#P
  show wpAny_stack_any λst=>Θ ?_
  split
  .rename_i c _ _ _ _ _
   cases(c==Value.type "enumerate")<;>(wp_walk using 173#P,wpAny_pyIter_list a)<;>show ae _ rfl h
  .wp_walk using 173#P,wpAny_pyIter_list a
   show ae _ rl h
def FQ(a)(t):checkTypeCall "enumerate" ⟨[a],[(Str.ofString "start",.int 1 t)]⟩=pure ():=by kernel_rfl
def FT(a)(t):checkBuiltinCall "enumerate.__new__" ⟨[.type "enumerate",a],[(Str.ofString "start",.int 1 t)]⟩=pure ():=by kernel_rfl
def FU(obj a)(t):argsOk "object.__init__" ⟨[obj,a],[(Str.ofString "start",.int 1 t)]⟩:=by
 kernel_rfl
def FW(self a)(t):Meets (Builtin.«object.__init__» ⟨[self,a],[(Str.ofString "start",.int 1 t)]⟩) (λ_ R s=>s.TypeIs self "enumerate"/\R (161#.none) s):=by
 show Meets.of_wp λL w A R s W=>?_
 obtain⟨j,D⟩:=W;have P:=F.called_enumerate.init.lookup;have d:=F.called_enumerate.made
 show 89
 show ae _ rl D
section
variable   {A:Around}  {s:Shared}
def FY(U:s.heap.IsList l p)
 (h:∀h',IsEnum h' (40#0) s.heap.objs.size 1 .none->h'.IsListIter s.heap.objs.size l 0->(∀b o,16#o->48#h'.get?)->153#(.ref (40#0))) :
 52#(call (.type "enumerate") [.ref l] [(Str.ofString "start",.int 1 t)]):=by
 revert U;show cM λI P L n J=>?_;obtain⟨c,k,g,i⟩:=I
 have L:=L;have J:=J;subst L J;show gF (λc d v=>?_) F.called_enumerate.mro
 have z:=F.called_enumerate.made;have f:=F.called_enumerate.sub;show wpAny_call (codeAny_of_tree ?_);show Θ ⟨Code.quiet_builtin _ (2#0),158#F.entry_type_call⟩
 rw[Around.under_plain (weight_type_call_type "enumerate" [.ref l] [(Str.ofString "start",.int 1 t)]) (units_type_call_type "enumerate" [.ref l] [(Str.ofString "start",.int 1 t)])];have m:=FQ (.ref l) t
 show 89
 have x:35#85#(.type "list_iterator")=40#0:=Z? ..;show codeAny_mono (codeAny_call_builtin F.called_enumerate.plain F.entry_enumerate_new (wpAny_of_eq (FT (.ref l) t) (JY l p n k i t prog w A.in1 (wants (λa B=>B.TypeIs a "enumerate"/\Q a B) E) s ⟨P,?_⟩))) λr B C=>?_
 .have T:IsEnum ((110#85#(.type "list_iterator")).push { cls:=.type "enumerate",data:=.fields #[.none,.bool false,23#.ref,rawInt 1,.none,.none]}) (40#0) s.heap.objs.size 1 .none:=x▸v! _ rfl;rw[x];show⟨ae _ T rfl,h _ T (au _ (c! _ (v! _ rfl)) rfl rfl) λb o q=>c! _ (c! _ q)⟩
 cases r with
 | error e=>show C
 | ok M =>
   cases M with
   | ret a =>
     obtain⟨j,D⟩:=C;have G:=F.called_enumerate.init.lookup;have H:=F.called_enumerate.init.bind a
     show 89
     show codeAny_mono (codeAny_call_builtin F.called_enumerate.init.plain F.entry_object_init (F.called_enumerate.init.check _ _ _ _ _ _ _ _ j (FU a (.ref l) t) (FW a (.ref l) t prog w A.in1 (wants (λr q=>r = .none/\Q a q) E) B (bF j rl D)))) λy q u=>?_
     cases y with
     | error e=>show u
     | ok e =>
       cases e with
       | ret r =>
         obtain⟨rfl,D⟩:=u
         show 89
       | _=>show u.elim
   | _=>show C.elim
end
section
variable {X:Cx}{elts:List Expr}{n:Nat}{tp:Pos}
def S2(K:cu)(z:TA):TI:=λU H R=>z U H λF N=>∃a,F=[.ref a]/\(∃f,aI K N a f)/\R (Ju K 1 a) N
def vv{M:Model}{A:Around}{E:xw}{s:Shared}{env:Env}{l i B:Pos}{cj}{e:Expr}{Q:xw}
 (h:wpAny M A (spliced (backTo l (starEach [e] env))) (λvs j=>∀t,wpAny M A (call (.type "enumerate") vs [(Str.ofString "start",.int 1 t)]) Q E { j with toks:=j.toks+1}) E s)
 (W:starEach [e] env=[(false,eval e env)]:=by rfl) :
 186#(callWith l (.type "enumerate") [] (backTo l (starEach [e] env)) (backToKw l (keywordEach [⟨some (Str.ofString "start"),.Constant (.int 1) cj i,B⟩] env))):=by
 show aU (F! (p! (Q:=λa j=>wpAny M A (call (.type "enumerate") a.pos a.kw) Q E j) ?_ (λa j Z=>aU (wpAny_standAt ?_)) λ_ _ q=>q))
 .rw[W]at h ⊢;show PyProof.Rows.evalArgs_kwB rl (p! h (λvs j Z=>PyProof.Rows.kws_cons (wpAny_Constant_int (PyProof.Rows.kws_nil (Z _)))) λ_ _ q=>q)
 .rw[W];show aU (Θ ?_);show aU (p! Z (λr w C=>aU (F! (wpAny_point (Θ C)))) λ_ _ q=>q)
def MX(K:cu){a:Expr}{o:TA}{p l i B:Pos}{cj}(M:Gl X "enumerate")(d:X.mg "enumerate"=none)(E:PA X [a] o)(W:9#([a])=[25#a]:=by rfl)(v:X.K=K:=by rfl):
 PI X (.Tuple elts n tp) (.Call (.Name "enumerate" p) [a] [⟨some (Str.ofString "start"),.Constant (.int 1) cj i,B⟩] l) (S2 K o):=by
 subst v;intro S s U H R I h;show 174#(jO I M d boot_enumerate (vv (c6 (E l S s U H _ I h) λg j=>aD λF N A J x t=>?_) W))
 revert x;show aA λa e P q=>?_;obtain⟨f,D⟩:=P
 subst e;cases J with
 | cons r y =>
   cases y;cases r;show aA (λC G k m=>?_) (A.list D)
   show FY k.isList λu T w Y=>?_
   have L:θ X S U N { j with heap:=u,toks:=j.toks+1}:=A.kept (t':=j.toks+1) Y
   show wpAny_pyIter_enum T (b9 _ [j.heap.objs.size+1,j.heap.objs.size] _ _ N rl L (uS 1 a _ _ (_a _)) ⟨⟨_,T⟩,w⟩ (λb O=>?_) q)
   have c:j.heap.objs.size<=b:=by
    rcases(show b=j.heap.objs.size+1\/b=j.heap.objs.size by simpa using O) with z|z
    .rw[z];show Q! _
    .rw[z];show Ξ _
   show A.xC c (A.hok.fresh c)
end
end L2
namespace Tx
open PySem
def P8{a b:Str}(h:a.cps.toList=b.cps.toList):a=b:=by
 cases a;cases b;show k! Str.mk (_W.mp h)
def cz(n:Nat):Str:=Str.ofString (toString (n:Int))
def ko(n):221#(cz n)=(Nat.toDigits 10 n).map Char.toNat:=PySem.W.KIN.signs_num n
def iE(h:c∈221#(cz n)):48<=c/\c<=57:=by
 rw[ko]at h;show af (λb a e=>?_) (U'.mp h)
 rw[<-e];show PyProof.Rows.digit_range (Nat.isDigit_of_mem_toDigits 7#0 7#0 a)
def nL(n):1<=(cz n).length:=by
 have h:(cz n).length=176#(cz n):=200#0
 rw[h,ko,χ];show PyProof.Rows.tDigits_len_ge 10 n
def d7(Y:1<=k)(h:n<10^k):(cz n).length<=k:=by
 have e:(cz n).length=176#(cz n):=200#0
 rw[e,ko,χ];show PyProof.Rows.digits10_le Y h
def vy(h:n<10^60):PySem.intText? (cz n)=some (n:Int):=by
 have P:=d7 7#0 h
 have J:PySem.NumText.AllDigits 221#(cz n):=λc L=>iE L
 have a:221#(cz n)≠[]:=λe=>by
  have z:=nL n;have y:(cz n).length=176#(cz n):=200#0
  rw[y,e]at z;show absurd z 7#0
 have e:=PySem.intText_digits J a (b! P 7#0)
 rw[ko,PySem.W.KIN.val_back]at e;show e
def JZ(n):(221#(cz n))[0]?=some 48->n=0:=by
 rw[ko,d!]
 induction n using Nat.strongRecOn with
 | _ m G =>
   by_cases h:m<10
   .rw[Nat.toDigits_of_lt_base h];intro q;have q:(Nat.digitChar m).toNat=48:=by simpa using q
    have:∀d:Nat,d<10->(Nat.digitChar d).toNat=48->d=0:=by decide
    show this m h q
   .have d:m%10<10:=Nat.mod_lt m 7#0
    have t:Nat.toDigits 10 (m/10)++Nat.toDigits 10 (m%10)=Nat.toDigits 10 (10*(m/10)+m%10):=Nat.toDigits_append_toDigits 7#0 (by lia) d
    rw[Nat.div_add_mod]at t;rw[<-t];intro q;have P:=PyProof.Rows.tDigits_len_ge 10 (m/10);rw[d? (by lia)]at q
    have:=G (m/10) (by lia) q
    lia
def MY:cz 0=Str.ofString "0":=2#0
def mR(c:Nat):127#Nat->List Nat
 | []=>[]
 | [x]=>x
 | x::y::r=>x++c::mR c (y::r)
theorem fQ(c):∀d:List Str,221#(Str.join ⟨#[c]⟩ d)=mR c (d.map (·.cps.toList))
 | []=>rfl
 | [x]=>rfl
 | x::y::r=>by
   change 221#((x++⟨#[c]⟩++Str.join ⟨#[c]⟩ (y::r)))=_;rw[PySem.W.KT.app_list,PySem.W.KT.app_list,fQ c (y::r)];rw[adO];rfl
theorem vz:∀{x y r s:List Nat},c∉x->c∉y->x++c::r=y++c::s->x=y/\r=s
 | [],[],_,_,_,_,h=>34#(List.cons.inj h).2
 | [],b::y,_,_,_,hy,h=>absurd (by rw[(List.cons.inj h).1];show g!) hy
 | a::x,[],_,_,hx,_,h=>absurd (by rw[<-(List.cons.inj h).1];show g!) hx
 | a::x,b::y,_,_,hx,hy,h=>by
   obtain⟨Z,R⟩:=List.cons.inj h;obtain⟨l,A⟩:=vz (λz=>hx (jx _ z)) (λz=>hy (jx _ z)) R
   show⟨by rw[Z,l],A⟩
def CS{c:Nat}(W:c∉y)(h:x++c::r=y):False:=W (by rw[<-h];show jd _ g!)
theorem zj:∀{ps qs},ps≠[]->qs≠[]->(∀p∈ps,c∉p)->(∀q∈qs,c∉q)->mR c ps=mR c qs->ps=qs
 | [],_,h,_,_,_,_=>absurd rfl h
 | _::_,[],_,h,_,_,_=>absurd rfl h
 | [p],[q],_,_,_,_,h=>by rw[show p=q from h]
 | [p],q::q'::qs,_,_,hp,_,h=>(CS (hp p g!) (h.symm)).elim
 | p::p'::ps,[q],_,_,_,hq,h=>(CS (hq q g!) (h)).elim
 | p::p'::ps,q::q'::qs,_,_,hp,hq,h=>by
   obtain⟨Z,R⟩:=vz (hp p g!) (hq q g!) (h);rw[Z,zj 22#0 22#0 (λx B=>hp x (jx _ B)) (λx B=>hq x (jx _ B)) R]
theorem map_inj:∀{a b:List Str},a.map (·.cps.toList)=b.map (·.cps.toList)->a=b
 | [],[],_=>rfl
 | [],_::_,h=>nomatch h
 | _::_,[],h=>nomatch h
 | x::a,y::b,h=>by
   obtain⟨Z,R⟩:=List.cons.inj h;rw[P8 Z,map_inj R]
def FZ(x y):Txt.split x y≠[]:=λh=>by
 unfold Txt.split at h
 split at h
 .cases h
 .split at h
  .cases h
  .unfold Builtin.Str.partsBetween at h;have z:=k! List.length h;rw[χ,List.length_zip]at z;simp at z
def lB(g:d≠[])(F:∀s∈d,c∉s.cps.toList):Txt.split (Txt.join ⟨#[c]⟩ d) ⟨#[c]⟩=d:=by
 have e:Txt.join ⟨#[c]⟩ d=Str.join ⟨#[c]⟩ d:=H? _ d;have h:=PySem.StrLaws.join_split (Txt.join ⟨#[c]⟩ d) ⟨#[c]⟩;have R:=k! (λs=>s.cps.toList) (h.trans e)
 simp only[fQ]at R;have l:=zj (by simp[FZ]) (by simpa using g) (λp M=>by
  show af (λs W f=>?_) (U'.mp M);subst f
  show PySem.StrLaws.split_free _ c s W) (λp M=>by
  show af (λs W r=>?_) (U'.mp M);subst r
  show F s W) R
 show map_inj l
end Tx
namespace L2
open PySem PySem.Spec PyProof.Rows
def dF.qw(r:dF k A):A.units+65<cLine:=by have:=r.un;lia
section
variable {X:Cx}
def X4(K:cu):R2:=λx y H Q=>∃d W,j6 K H x d/\j6 K H y (.tuple W)/\141#d/\141#(.tuple W)/\Q (.bl (W.any λe=>PyData.eqv e d)) H
def MZ(K:cu)(c:X.A.units+65<cLine)(J:X.K=K:=by rfl):jQ X 137#.In (X4 K):=by
 subst J;show 58
 revert h;show gF λd W=>iI λZ R j w q=>?_
 obtain⟨i,b⟩:=Z.reads I rx;obtain⟨e,a⟩:=R.reads I B;show PySem.SeqAt.in_tuple_reads a b (SeqAt.canLay_of_shaped w) (SeqAt.canLay_of_shaped j) (by have t:=SeqAt.depth_of_shaped j;have f:=Nat.min_le_right (PyData.depthAll W) d.depth;lia) (aq (.bl _) H I rl q)
end
end L2
namespace Tx
open PySem
def g4(z:Int):Str:=Str.ofString (toString z)
def qx(h:0<=z):g4 z=cz z.toNat:=by
 unfold g4 cz;rw[z_ h]
def AW(h:z<0):221#(g4 z)=45::221#(cz (-z).toNat):=by
 obtain⟨n,rfl⟩:=Int.eq_negSucc_of_lt_zero h;have e:(-(Int.negSucc n)).toNat=n+1:=by lia
 rw[e];unfold g4 cz;rw[Str.ofString_eq_toList,Str.ofString_eq_toList];change((("-" ++ Nat.repr (n+1)).toList).map Char.toNat)=45::((Nat.repr (n+1)).toList.map Char.toNat);rw[String.toList_append,j!];rfl
def AX{z:Int}(h:z.natAbs<10^60):1<=(g4 z).length/\(g4 z).length<=61:=by
 by_cases m:0<=z
 .rw[qx m];show⟨nL _,b! (d7 (k:=60) 7#0 (by lia)) 7#0⟩
 .have e:(g4 z).length=176#(g4 z):=200#0
  have U:29#(cz (-z).toNat)=176#(cz (-z).toNat):=200#0
  have l:=d7 (n:=(-z).toNat) (k:=60) 7#0 (by lia)
  rw[e,AW (by lia),y!,<-U]
  lia
def int_sign(h:c∈221#(g4 z)):c=45\/(48<=c/\c<=57):=by
 by_cases m:0<=z
 .rw[qx m]at h;show .inr (iE h)
 .rw[AW (by lia)]at h
  rcases Z'.mp h with e|h
  .show .inl e
  .show .inr (iE h)
def M0(z)(h:z<0):176#(g4 z)=176#(cz (-z).toNat)+1:=by
 rw[AW h,y!]
end Tx
namespace RM
def lsum(L:Nat->Int)(f:Nat->Bool):Nat->Int
 | 0=>0
 | n+1=>lsum L f n+(if f n=true then L n else 0)
theorem pP:∀{n},(∀k,k<n->f k=g k)->lsum L f n=lsum L g n
 | 0,_=>rfl
 | n+1,h=>by
   unfold lsum;rw[pP 159#h,h n (by lia)]
theorem nM:∀{n},(∀k,k<n->f k=false)->lsum L f n=0
 | 0,_=>rfl
 | n+1,h=>by
   unfold lsum;rw[nM 159#h,h n (by lia)]
   simp
theorem CT:∀{n},a<n->(∀k,k<n->f k=decide (k=a))->lsum L f n=L a
 | 0,h,_=>by lia
 | n+1,E,h=>by
   unfold lsum
   by_cases e:a=n
   .subst e;rw[nM λk Y=>by rw[h k (by lia)];show gm (by lia),h a (by lia),e8 rfl]
    simp
   .rw[CT (95#(a<n)) 159#h,h n (by lia),gm (by lia)]
    simp
theorem nN:∀{n},(∀k,k<n->0<=L k)->(∀k,k<n->f k=true->g k=true)->lsum L f n<=lsum L g n
 | 0,_,_=>r? _
 | n+1,U,h=>by
   unfold lsum;have G:=nN (n:=n) (159#U) 159#h
   have o:=U n (by lia)
   have a:=h n (by lia)
   cases F:f n with
   | false=>cases g n<;>simp<;>lia
   | true=>rw[a F];simp;lia
theorem CU:∀{n},(∀k,k<n->0<=L k)->lsum L (λk=>f k^^g k) n<=lsum L f n+lsum L g n
 | 0,_=>r? _
 | n+1,U=>by
   unfold lsum;have G:=CU (f:=f) (g:=g) (n:=n) 159#U
   have o:=U n (by lia)
   cases f n<;>cases g n<;>simp<;>lia
theorem vA:∀{n},(∀k,k<n->f k=true->g k=false)->lsum L (λk=>f k^^g k) n=lsum L f n+lsum L g n
 | 0,_=>rfl
 | n+1,h=>by
   unfold lsum;rw[vA 159#h]
   have a:=h n (by lia)
   cases F:f n with
   | false=>cases g n<;>simp<;>lia
   | true=>rw[a F];simp;lia
def CV(h:k<n):lsum L (λj=>134#(2^k)) n=L k:=CT h λj _=>by
 rw[J!];show M?.mpr eq_comm
def mS(h:m<2^n)(O:10#0=true):k<n:=by
 apply n?;intro Y;rw[D? (t! h (R? 7#0 (by lia)))]at O
 cases O
def cd(x:Nat)(s:Bool):Nat:=2*x+s.toNat
def Jn(N:Net)(k v w:Nat):Prop:=(N.a k=v/\N.b k=w)\/(N.b k=v/\N.a k=w)
def Jn.lt{N:Net}(Y:k<N.n)(h:Jn N k v w):w<N.p:=by
 rcases h with⟨_,rfl⟩|⟨_,rfl⟩
 .show N.bl k Y
 .show N.al k Y
inductive Wl(N:Net)(L:Nat->Int)(m u:Nat):List Nat->Nat->Bool->Int->Nat->Prop
 | nil:Wl N L m u [] u false 0 0
 | go {pre:List Nat} {v w k e:Nat} {s:Bool} {z:Int} (h:Wl N L m u pre v s z e) (hk:k<N.n) (hj:Jn N k v w):Wl N L m u (pre++[cd v s]) w (s^^10#0) (z+L k) (e^^^2^k)
def Wy(N:Net)(L:Nat->Int)(m u x:Nat)(s:Bool)(z:Int):Prop:=∃y e,Wl N L m u y x s z e
section
variable {N:Net}{L:Nat->Int}{m u:Nat}
def Wy.nil:Wy N L m u u false 0:=gR _ _ .nil
def Wy.go{v w k}{s}{z}(h:Wy N L m u v s z)(Y:k<N.n)(D:Jn N k v w):Wy N L m u w (s^^10#0) (z+L k):=let⟨_,_,h⟩:=h;(gR _ _ (h.go Y D))
def mT(U:∀k,k<N.n->0<=L k)(c:u<N.p)(h:Wl N L m u y v s z e):
 v<N.p/\e<2^N.n/\(∀x,N.bd e x=(decide (u=x)^^decide (v=x)))/\N.par e m=s/\lsum L (λk=>171#0) N.n<=z/\0<=z:=by
 induction h with
 | nil =>
   show⟨c,(dD (F? _) (λx=>?_) (kg m) ?_ (r? _))⟩
   .rw[nG];cases decide (u=x)<;>rfl
   .rw[nM λk _=>c_ k]
    show r? _
 | @go y v w k e s z h Y D G =>
   revert G;show eV λn l a b i d=>?_
   have o:=U k Y;show⟨D.lt Y,(dD (T! l (y_ 7#0 Y)) (λx=>?_) ?_ ?_ (by lia))⟩
   .rw[gX,a,mF Y];unfold Net.inc;rcases D with⟨rfl,rfl⟩|⟨rfl,rfl⟩
    .cases decide (u=x)<;>cases 13#(N.a k=x)<;>cases 13#(N.b k=x)<;>rfl
    .cases decide (u=x)<;>cases 13#(N.a k=x)<;>cases 13#(N.b k=x)<;>rfl
   .rw[lg,b,AI Y]
   .have:=CU (f:=λj=>e.testBit j) (g:=λj=>134#(2^k)) U
    rw[CV Y]at this;rw[pP λj _=>h! ..]
    lia
def tI(N:Net)(L:Nat->Int)(m u x:Nat)(s:Bool):218#0->Prop
 | none=>∀z,¬ Wy N L m u x s z
 | some d=>Wy N L m u x s d/\∀z,Wy N L m u x s z->d<=z
def tI.uniq(h:tI N L m u x s o)(h' : tI N L m u x s S):o=S:=by
 cases o with
 | none=>cases S with
   | none=>rfl
   | some d=>show absurd h'.1 (h d)
 | some d=>cases S with
   | none=>show absurd h.1 (h' d)
   | some l =>
     have Z:=h.2 _ h'.1;have R:=h'.2 _ h.1;rw[95#(d=l)]
def Wy.nonneg(U:∀k,k<N.n->0<=L k)(c:u<N.p)(h:Wy N L m u x s z):0<=z:=let⟨_,_,h⟩:=h;(mT U c h).2.2.2.2.2
def M3(U:∀k,k<N.n->0<=L k)(c:u<N.p)(h:tI N L m u u false o):o=some 0:=h.uniq ⟨.nil,λ_ a=>a.nonneg U c⟩
def J0(b:∀k,k<N.n->0<=L k)(Y:k<N.n)(h:tI N L m u (N.a k) s o)(h' : tI N L m u (N.b k) (s^^10#0) S):Ring.vo o S (L k)=true:=by
 have a:∀{z},Wy N L m u (N.a k) s z->Wy N L m u (N.b k) (s^^10#0) (z+L k):=λc=>c.go Y (.inl 196#0)
 have y:∀{z},Wy N L m u (N.b k) (s^^10#0) z->Wy N L m u (N.a k) s (z+L k):=λc=>by
  have:=c.go Y (.inr 196#0)
  rwa [Bool.xor_assoc,_i,Z!]at this
 cases o with
 | none=>cases S with
   | none=>rfl
   | some d=>show absurd (y h'.1) (h _)
 | some d=>cases S with
   | none=>show absurd (a h.1) (h' _)
   | some l =>
     have Z:=h'.2 _ (a h.1);have R:=h.2 _ (y h'.1);unfold Ring.vo;rw[decide_eq_true_eq]
     split<;>lia
def S4{x k:Nat}(h:131#k):x^^^2^k<x:=by
 have t:=Nat.div_add_mod x (2^(k+1));have U:=Nat.div_add_mod (x^^^2^k) (2^(k+1));have D:(x^^^2^k)/2^(k+1)=x/2^(k+1):=q? λj=>by
  rw[Nat.testBit_div_two_pow,Nat.testBit_div_two_pow,h!,J!,gm (by lia),Z!]
 have B:(x^^^2^k)%2^(k+1)<2^k:=Nat.lt_pow_two_of_testBit _ λj a=>by
  rw[Nat.testBit_mod_two_pow,h!,J!]
  by_cases e:k=j
  .rw[<-e,h,e8 rfl];show d_ _
  .rw[gm (95#(¬ j<k+1)),_b]
 have W:2^k<=x%2^(k+1):=Nat.ge_two_pow_of_testBit (by rw[Nat.testBit_mod_two_pow,h,e8 (X? _)];rfl)
 rw[D]at U
 lia
def qy(U:∀k,k<N.n->0<=L k)(m)(C:N.Ring r)(d:r<2^N.n):∃x,x<N.p/\Wy N L m x x (N.par r m) (lsum L (λk=>183#0) N.n):=by
 obtain⟨I,O⟩:=r_ C.1;have g:=N.al I (mS d O);have o:∀(c e v:Nat) (b:List Nat) (s:Bool),r^^^e=c->Wl N L m (N.a I) b v s (lsum L (λk=>171#0) N.n) e->(∀k,171#0=true->183#0=true)->∃b v s,Wl N L m (N.a I) b v s (lsum L (λk=>183#0) N.n) r:=by
  intro c
  induction c using Nat.strongRecOn with
  | _ c G =>
    intro e v b s i w sub
    by_cases T:e=r
    .show eE b v s (T▸w)
    have f:=mT U g w;obtain⟨k,Y,y,D⟩:∃k,(r^^^e).testBit k=true/\∃y,Jn N k v y:=by
     by_cases a:N.a I=v
     .show⟨I,(cD ?_ _ (.inl ⟨a,rfl⟩))⟩;rcases C.2.2 e sub (λx _=>by rw[f.2.2.1,a,_i]) with z|z
      .rw[z,k?];show O
      .show absurd z T
     .have B:N.bd (r^^^e) v=true:=by rw[gX,C.2.1 v f.1,f.2.2.1,gm a,e8 rfl];rfl
      apply n?;intro h;unfold Net.bd at B;rw[ig λk _=>?_]at B
      .cases B
      cases q:(r^^^e).testBit k with
      | false=>rfl
      | true =>
        unfold Net.inc;rw[gm λz=>h ⟨k,(cD q _ (.inl ⟨z,rfl⟩))⟩,gm λz=>h ⟨k,(cD q _ (.inr ⟨z,rfl⟩))⟩]
        rfl
    have t:=mS (T! d f.2.1) Y;have J:171#0=false:=by
     rw[h!]at Y;cases q:171#0 with
     | false=>rfl
     | true=>rw[q,sub k q]at Y;cases Y
    have a:183#0=true:=by rwa [h!,J,Z!]at Y
    have W:lsum L (λj=>134#(e^^^2^k)) N.n=lsum L (λj=>e.testBit j) N.n+L k:=by
     rw[pP λj _=>h! ..,vA,CV t]
     intro j _ D;rw[J!];show gm λz=>by rw[z,D]at J;cases J
    have n:=w.go t D;rw[<-W]at n;show G (r^^^(e^^^2^k)) ?_ _ _ _ _ rl n λj D=>?_
    .rw[<-i,<-b?];show S4 Y
    .rw[h!,J!]at D
     by_cases z:k=j
     .rw[<-z];show a
     .rw[gm z,Z!]at D;show sub j D
 show fy (λb v s w=>?_) (o _ 0 _ [] false rl (by rw[nM λk _=>c_ k];show .nil) λk h=>by rw[c_]at h;cases h)
 have f:=mT U g w;have a:N.a I=v:=by
  have:=f.2.2.1 v;rw[C.2.1 v f.1,e8 rfl]at this;cases h:13#(N.a I=v) with
  | true=>show nB h
  | false=>rw[h]at this;cases this
 show ae (N.a I) g (gR b r ?_);rw[f.2.2.2.1];rw[<-a]at w;show w
def vB:∀c e,182#171#0=c->e<2^N.n->N.eR e->N.par e m=true->∃r,N.Ring r/\(∀k,183#0=true->171#0=true)/\N.par r m=true:=by
 intro c
 induction c using Nat.strongRecOn with
 | _ c G =>
   intro e L T W M
   by_cases C:N.Ring e
   .show au e C (λ_ h=>h) M
   have o:e≠0:=λz=>by rw[z,kg]at M;cases M
   obtain⟨q,D,a,j,b⟩:∃q,(∀k,q.testBit k=true->171#0=true)/\N.eR q/\q≠0/\q≠e:=by
    apply n?;intro h;show C (bF o W (λq D a=>?_))
    apply n?;intro R;show h (cP q D a (λz=>R (.inl z)) (λz=>R (.inr z)))
   have i:∀q,(∀k,q.testBit k=true->171#0=true)->q≠e->182#(q.testBit k)<c:=by
    intro q D b;have Z:=SJ (f:=λk=>q.testBit k) (g:=λk=>171#0) (n:=N.n) λk _ h=>D k h
    have R:182#(q.testBit k)≠182#171#0:=λh=>b (q? λk=>by
     by_cases Y:k<N.n
     .have:=Mw (λk _ h=>D k h) h k Y
      cases l:171#0 with
      | true=>show this l
      | false=>cases A:q.testBit k with
        | false=>rfl
        | true=>rw[D k A]at l;cases l
     .cases l:171#0 with
      | true=>show absurd (mS T l) Y
      | false=>cases A:q.testBit k with
        | false=>rfl
        | true=>rw[D k A]at l;cases l)
    lia
   have d:∀q,(∀k,q.testBit k=true->171#0=true)->q<2^N.n:=λq D=>fh λk Y=>mS T (D k Y)
   have B:∀k,(e^^^q).testBit k=true->171#0=true:=λk Y=>by
    rw[h!]at Y;cases l:171#0 with
    | true=>rfl
    | false =>
      cases A:q.testBit k with
      | false=>rw[l,A]at Y;cases Y
      | true=>rw[D k A]at l;cases l
   have F:∀q,(∀k,q.testBit k=true->171#0=true)->q≠e->N.eR q->N.par q m=true->∃r,N.Ring r/\(∀k,183#0=true->171#0=true)/\N.par r m=true:=by
    intro q D b a h;show aA (λr Z R l=>?_) (G _ (i q D b) q rl (d q D) a h)
    show au r Z (λk Y=>D k (R k Y)) l
   cases h:N.par q m with
   | true=>show F q D b a h
   | false =>
     show F (e^^^q) B (λz=>j ?_) (eR.xor W a) (by rw[lg,M,h];rfl)
     have:e^^^(e^^^q)=e^^^e:=by rw[z]
     rwa [<-b?,N?,l?]at this
def M4(U:∀k,k<N.n->0<=L k)(c:u<N.p)(h:Wy N L m u u true z):∃r,N.Ring r/\r<2^N.n/\N.par r m=true/\lsum L (λk=>183#0) N.n<=z:=by
 revert h;show gF λy e h=>?_
 show eV (λ_ R l A M _=>?_) (mT U c h)
 show aA (λr J a Z=>?_) (vB _ e rl R (λx _=>by rw[l,_i]) A)
 show cP r J (fh λk Y=>mS R (a k Y)) Z ?_
 have:=nN (f:=λk=>183#0) (g:=λk=>171#0) U λk _ Y=>a k Y
 lia
end
end RM
namespace Ring
open PySem L2
def bW(J:List fN)(k:Nat):Int:=(dJ J k).2.2
theorem zk(ts)(f):∀n,JB ts f n=RM.lsum (bW ts) f n
 | 0=>rfl
 | n+1=>by
   change JB ts f n+_=RM.lsum (bW ts) f n+_;rw[zk ts f n];rfl
def lC{J:List fN}(d:m<53#0):J' J m=RM.lsum (bW J) (λk=>10#0) J.length:=by
 rw[JC d,zk]
def kq(g:aC p J):∀k,k<g.N.n->0<=bW J k:=λk Y=>by
 have:=(g.ie _ (fY Y)).l0;unfold bW
 lia
structure F0(H0:Hp)(D:Addr)(es:214#0)(F:Nat->Bool->218#0)(H:Hp):Prop where
 same:ak H0 H
 nd:es.Nodup
 ne:D∉es
 fr:∀b∈es,H0 b=none
 Dn:H0 D=none
 lst:H D=4#(es.map V.ref)
 at_:∀i b,es[i]?=some b->H b=4#([oV (F i false),oV (F i true)])
def F0.go{H0 H H'}{D}{es}{F}(h:F0 H0 D es F H)(s:ak H H'):F0 H0 D es F H' :=
 ⟨h.same.trans s,h.nd,h.ne,h.fr,h.Dn,s _ _ h.lst,λi b e=>s _ _ (h.at_ i b e)⟩
def F0.off(h:F0 Q D W F H)(U:H L=none):L∉W:=λz=>by
 obtain⟨j,a⟩:=g? z;have:=h.at_ j L a;rw[U]at this;cases this
def CW(Q:Hp)(D:Addr)(i:Nat)(M:List V)(H:Hp):Prop:=∃W,M=W.map V.ref/\W.length=i/\F0 Q D W (λ_ _=>none) H
def CW.start(S:Q D=none):CW Q D 0 [] 97#Q :=
 (au [] rl rl ⟨ak.new S,I_,i_,λ_ h=>(i_ h).elim,S,aa,λi b e=>by cases e⟩)
def CW.len(h:CW Q D i M H):118#H:=by
 revert h;show aA λW a e r=>?_;subst a
 show⟨r.lst,by rw[χ];lia⟩
def CW.next(h:CW Q D i M H)(O:H b=none):η H b (.lst [.eM,.eM]) D=220#0/\CW Q D (i+1) (M++[.ref b]) (η (η H b (.lst [.eM,.eM])) D 69#(M++[.ref b])):=by
 revert h;show aA λg t e r=>?_;subst t
 have a:D≠b:=λz=>by
  have:=r.lst;rw[z,O]at this;cases this
 have k:=r.off O;have E:=r.same.free O;show⟨by rw[ao a];show r.lst,(au (g++[b]) 22#0 (by simp[e]) ⟨(r.same.put E).put r.Dn,?_,?_,λc L=>?_,r.Dn,by rw[aa];simp,λj c L=>?_⟩)⟩
 .show _O.mpr (bF r.nd 22#0 (λx B y W=>by rw[q!.mp W];show λz=>k (z▸B)))
 .intro d;rcases D!.mp d with z|z
  .show r.ne z
  .show a (q!.mp z)
 .rcases D!.mp L with z|z
  .show r.fr c z
  .rwa [q!.mp z]
 .have f:c≠D:=λz=>by
   subst z;rcases D!.mp (fP L) with z|z
   .show r.ne z
   .show a (q!.mp z)
  rw[ao f]
  by_cases d:c=b
  .rw[d,aa];rfl
  .rw[ao d]
   by_cases l:j<g.length
   .rw[d? l]at L;show r.at_ j c L
   .rw[u? (by lia)]at L
    have:=fP L;show absurd (q!.mp this) d
def kr(F:Nat->Bool->218#0)(p:Nat):List Pr:=(19#p).map λi=>(F i false,F i true)
def M5(h:x<p)(s):sel (jw (kr F p) x) s=F x s:=by
 unfold jw kr;rw[u!,d!,W_ h];cases s<;>rfl
def M6(F)(i):kr F (i+1)=kr F i++[(F i false,F i true)]:=by
 unfold kr;rw[B?,j!];rfl
def AY(F)(i):29#(kr F i)=i:=by
 unfold kr;rw[χ,C!]
def M7(R:List Pr)(t:fN)(u:Bool):JQ R t u=true↔∀r:Bool,vo (sel (jw R t.1.toNat) r) (sel (jw R t.2.1.toNat) (r^^u)) t.2.2=true:=by
 unfold JQ;rw[N!]
 constructor
 .rintro⟨Z,a⟩ r;cases r with
  | false=>rw[a_];show Z
  | true=>rw[Bool.true_xor];show a
 .intro h;have Z:=h false;have a:=h true;rw[a_]at Z;rw[Bool.true_xor]at a;show⟨Z,a⟩
variable {p:Nat}{ts:List fN}{g:aC p ts}
def qz(p)(ts)(g:aC p ts)(m:Nat)(W:127#Pr):Prop:=∀i,i<p->∀x s,x<p->RM.tI g.N (bW ts) m i x s (sel (jw (W.getD i []) x) s)
def qz.stands(h:qz p ts g m W):FL p ts m W:=λi I=>by
 show⟨RM.M3 (kq g) (I) (h i I i false I),λk Y=>?_⟩
 rw[M7];show λs=>RM.J0 (kq g) (Y) (h i I _ s (g.N.al k Y)) (h i I _ _ (g.N.bl k Y))
def J6(h:qz p ts g m W)(P:∀r,r<2^ts.length->g.N.Ring r->g.N.par r m=true->l<=RM.lsum (bW ts) (λk=>183#0) ts.length):∀i,i<p->∀d,(jw (W.getD i []) i).2=some d->l<=d:=by
 intro i I d J;have b:=h i I i true I;have e:sel (jw (W.getD i []) i) true=some d:=J;rw[e]at b;show gE (λr c a Z t=>?_) (RM.M4 (kq g) (I) b.1)
 show M_ (P r a c Z) t
def um(d:m<2^ts.length):29#(aW 18#(r&&&m))%2=1↔g.N.par r m=true:=by
 rw[<-AN d,adM]
end Ring
namespace RM
open Ring (maskOf mask_bit mask_lt)
def iF(h:a^^^b=0):a=b:=by
 have:=k! (λy=>y^^^b) h
 simp only[l?]at this
 rwa [b?,N?,k?]at this
def Ω:List Nat->Nat->Nat
 | [],_=>0
 | b::B,z=>(if z.testBit 0=true then b else 0)^^^Ω B (z/2)
def M8(a b c d:Nat):(a^^^b)^^^(c^^^d)=(a^^^c)^^^(b^^^d):=q? λi=>by
 simp only[h!];cases a.testBit i<;>cases b.testBit i<;>cases c.testBit i<;>cases d.testBit i<;>rfl
def M9(z y):(z^^^y)/2=z/2^^^y/2:=q? λi=>by
 rw[h!,<-G_,<-G_,<-G_,h!]
theorem jl:∀B z y,Ω B (z^^^y)=Ω B z^^^Ω B y
 | [],_,_=>by simp[Ω]
 | b::B,z,y=>by
   unfold Ω;rw[M9,jl B,h!,M8]
   congr 1
   cases z.testBit 0<;>cases y.testBit 0<;>simp
theorem ku:∀B,Ω B 0=0
 | []=>rfl
 | b::B=>by
   unfold Ω;rw[c_,show 0/2=0 from rfl,ku B]
   simp
def Na(i):2^(i+1)/2=2^i:=by
 rw[b_,Nat.mul_div_cancel _ 7#0]
theorem vC:∀{B} {i b},B[i]?=some b->Ω B (2^i)=b
 | [],i,b,h=>by simp at h
 | E::B,0,b,h=>by
   have:E=b:=by simpa using h
   subst this;unfold Ω;rw[show(2^0:Nat).testBit 0=true from rfl,ο rfl,show(2^0)/2=0 from rfl,ku,k?]
 | E::B,i+1,b,h=>by
   unfold Ω;have o:(2^(i+1)).testBit 0=false:=by rw[J!];simp
   rw[o,ξ 7#0,l?,Na]
   show vC h
theorem ja:∀B b z,Ω (B++[b]) z=Ω B z^^^(if z.testBit B.length=true then b else 0)
 | [],b,z=>by
   change(if z.testBit 0=true then b else 0)^^^0=0^^^_
   rw[k?,l?];rfl
 | E::B,b,z=>by
   change(if z.testBit 0=true then E else 0)^^^Ω (B++[b]) (z/2)=((if z.testBit 0=true then E else 0)^^^Ω B (z/2))^^^_
   rw[ja B b (z/2),b?,<-G_];rfl
theorem rS:∀B {z},(∀i,i<B.length->z.testBit i=false)->Ω B z=0
 | [],_,_=>rfl
 | b::B,z,h=>by
   unfold Ω;rw[h 0 22#0,ξ 7#0,l?]
   show rS B λi I=>by rw[<-G_];show h (i+1) (by simp;lia)
def nO(B):∀z,Sp B (Ω B z):=by
 induction B with
 | nil=>intro z;show .zero
 | cons b B G =>
   intro z;have h:Sp (b::B) (Ω B (z/2)):=(G (z/2)).mono λc L=>.mem (jx _ L)
   unfold Ω;rw[adU]
   by_cases e:z.testBit 0=true
   .rw[ο e];show h.add g!
   .rw[ξ e,k?];show h
def uo(h:Sp B x):∃z,z<189#0/\Ω B z=x:=by
 induction h with
 | zero=>show ae 0 (F? _) (ku B)
 | add h O G =>
   revert G;show af λz m e=>?_
   obtain⟨i,I⟩:=g? O;have o:=(iJ.mp I).1;show ae (z^^^2^i) (T! m (y_ 7#0 o)) (by rw[jl,e,vC I])
def B3(B:List Nat):Prop:=∀z,z<189#0->Ω B z=0->z=0
def P9(B:List Nat):Prop:=∀i b,B[i]?=some b->¬ Sp (B.take i) b
def qA:B3 (B++[b])↔B3 B/\¬ Sp B b:=by
 have P:29#(B++[b])=B.length+1:=by simp
 constructor
 .intro h;show⟨λz m e=>h z ?_ ?_,λW=>?_⟩
  .rw[P,b_];lia
  .rw[ja,e,D? m];simp
  .show af (λy a e=>?_) (uo W)
   have w:189#0<2^(B.length+1):=y_ 7#0 (by lia)
   have:=h (y^^^189#0) (by rw[P];show T! (by lia) w) (by
    have Z:(y^^^189#0).testBit B.length=true:=by
     rw[h!,D? a,ac3];rfl
    have R:Ω B (189#0)=0:=rS B λi I=>by
     rw[J!];show gm (by lia)
    rw[ja,Z,ο rfl,jl,R,e,k?,N?])
   have l:(y^^^189#0).testBit B.length=false:=by rw[this,c_]
   rw[h!,D? a,ac3]at l;cases l
 .rintro⟨h,W⟩ z m e;rw[ja]at e
  by_cases O:z.testBit B.length=true
  .rw[ο O]at e;have U:Ω B z=b:=by
    have:=k! (λy=>y^^^b) e
    simp only[kj,l?]at this;show this
   show absurd (U▸nO B z) W
  .rw[ξ O,k?]at e;show h z ?_ e;show fh λk Y=>?_
   have:=eX m Y;rw[P]at this;have:k≠B.length:=λe=>O (e▸Y)
   lia
def J7:P9 (B++[b])↔P9 B/\¬ Sp B b:=by
 constructor
 .intro h;show⟨λi c L=>?_,?_⟩
  .have I:=(iJ.mp L).1;have:=h i c (by rw[d? I];show L)
   rwa [adF (U! I)]at this
  .have:=h B.length b 22#0
   rwa [List.take_left' rfl]at this
 .rintro⟨h,W⟩ i c L
  by_cases I:i<B.length
  .rw[d? I]at L;rw[adF (U! I)];show h i c L
  .have P:=(iJ.mp L).1;have e:i=B.length:=by simp at P;lia
   subst e;rw[u? (Ξ _),L_]at L;have:b=c:=by simpa using L
   subst this
   rwa [List.take_left' rfl]
def take_snoc{B:List Nat}(h:B[i]?=some b):B.take (i+1)=B.take i++[b]:=by
 rw[A!,h];rfl
def IB(B):B3 B↔P9 B:=by
 have o:∀n,n<=B.length->(B3 (B.take n)↔P9 (B.take n)):=by
  intro n
  induction n with
  | zero=>show λ_=>⟨λ_ i b h=>by simp at h,λ_ z m _=>by simp at m;show m⟩
  | succ n G =>
    intro g;have O:=z! g;rw[take_snoc O,qA,J7,G (by lia)]
 have:=o B.length (Ξ _)
 rwa [o!]at this
def vD(B:List Nat)(h:B3 B)(hz:z<189#0)(W:y<189#0)(e:Ω B z=Ω B y):z=y:=by
 have:=h (z^^^y) (T! hz W) (by rw[jl,e,N?])
 show iF this
section
variable {N:Net}
def zl(h:∀b∈B,N.eR b/\b<2^N.n)(z):N.eR (Ω B z)/\Ω B z<2^N.n:=by
 have W:=nO B z;show⟨?_,W.lt λb O=>(h b O).2⟩
 generalize Ω B z=x at W
 induction W with
 | zero=>show eR.zero
 | add _ O G=>show eR.xor G (h _ O).1
def IC{f:Nat->Nat}(F:∀z,z<2^a->f z<2^b)(inj:∀z y,z<2^a->y<2^a->f z=f y->z=y):a<=b:=by
 have c:((19#(2^a)).map f).Nodup:=by
  show D_.mpr ?_;show _l (λ{z y} m W n e=>?_) adS
  show n (inj z y (E!.mp m) (E!.mp W) e)
 have:=Cy c λx B=>by
  show af (λz m t=>?_) (U'.mp B);subst t
  show F z (E!.mp m)
 rw[χ,C!]at this;show(Nat.pow_le_pow_iff_right 7#0).mp this
def meets(M:List Nat)(m:Nat):Nat:=maskOf (λi=>m.testBit (M.getD i 0)) M.length
def Nb(M:List Nat)(m:Nat):meets M m<2^M.length:=mask_lt _ _
def J8(h:M[i]?=some k):(meets M m).testBit i=10#0:=by
 unfold meets;rw[mask_bit,u!,h,e8 (iJ.mp h).1];rfl
def S5(I:B3 B)(h:∀b∈B,N.eR b/\b<2^N.n):B.length<=N.cZ.length:=by
 show IC (f:=λz=>meets N.cZ (Ω B z)) (λz _=>Nb _ _) λz y m W e=>vD B I m W ?_
 have Z:=zl h z;have R:=zl h y;show iF (gY (λk Y=>?_) (eR.xor Z.1 R.1))
 have t:=eX (T! Z.2 R.2) Y;show⟨t,?_⟩;cases F:N.mH k with
 | true=>rfl
 | false =>
   obtain⟨j,D⟩:=g? (dZ.mpr ⟨t,F⟩);have e:=e;have:=k! (λx=>x.testBit j) e
   simp only[J8 D]at this;rw[h!,this,_i]at Y;cases Y
structure Base(N:Net)(rs:List Nat):Prop where
 len:rs.length=N.cZ.length
 ring:∀r∈rs,N.Ring r/\r<2^N.n
 ind:B3 rs
end
abbrev Row3:=Nat×Nat×Nat
def two(q:Row3):Nat×Nat:=(q.1,q.2.1)
def fH(k:List Row3)(x u:Nat):Nat×Nat:=k.foldl (λs q=>if s.1.testBit q.1=true then(s.1^^^q.2.1,s.2^^^q.2.2) else s) (x,u)
def rT(q:Row3)(k:List Row3)(x u:Nat):fH (q::k) x u=if 131#q.1 then fH k (x^^^q.2.1) (u^^^q.2.2) else fH k x u:=by
 unfold fH;rw[k_]
 by_cases h:131#q.1
 .rw[ο h,ο h]
 .rw[ξ h,ξ h]
theorem mU:∀k x u,(fH k x u).1=CQ (k.map two) x
 | [],_,_=>rfl
 | q::k,x,u=>by
   rw[rT];change _=CQ (k.map two) (if 131#q.1 then x^^^q.2.1 else x)
   by_cases h:131#q.1
   .rw[ο h,ο h];show mU k _ _
   .rw[ξ h,ξ h];show mU k _ _
def F1(k:List Row3)(a:Row3):List Row3:=a::k.map λq=>if 142#a.1=true then(q.1,q.2.1^^^a.2.1,q.2.2^^^a.2.2) else q
structure Rw(B:List Nat)(rows:List Row3):Prop where
 own:∀q∈rows,142#q.1=true
 S6:rows.Pairwise λq q'=>q'.2.1.testBit q.1=false/\142#q'.1=false
 Ru:∀q∈rows,q.2.2<189#0/\Ω B q.2.2=q.2.1
 span:∀b∈B,Sp (rows.map λq=>q.2.1) b
 le:rows.length<=B.length
 len:rows.length=B.length↔B3 B
section
variable {B:List Nat}{rows:List Row3}
def Rw.start:Rw [] []:=⟨(λq D=>nomatch D),.nil,(λq D=>nomatch D),(λb O=>nomatch O),Ξ _,⟨λ_ z m _=>by simp at m;show m,λ_=>rfl⟩⟩
def S7(own:∀q∈rows,142#q.1=true)(a:rows.Pairwise λq C=>C.2.1.testBit q.1=false/\142#C.1=false):Rt (rows.map two):=by
 induction rows with
 | nil=>show .nil
 | cons q rows G =>
   obtain⟨Z,R⟩:=_K.mp a;show .cons (G (λC D=>own C (jx _ D)) R) (own q g!) λx B=>?_
   show af (λC d f=>?_) (U'.mp B);subst f
   show(Z C d).1
def Rw.UB(h:Rw B rows):Rt (rows.map two):=S7 h.own h.S6
def map_two(rows:List Row3):(rows.map two).map (λq=>q.2)=rows.map λq=>q.2.1:=by
 rw[L!];rfl
def Rw.rV(h:Rw B rows)(x u):(fH rows x u).1=0↔Sp B x:=by
 rw[mU,JV h.UB,map_two]
 constructor
 .intro W;show W.mono λb O=>?_
  show af (λq D r=>?_) (U'.mp O);subst r
  rw[<-(h.Ru q D).2];show nO B _
 .show λW=>W.mono h.span
def Rw.Nc(h:Rw B rows)(x u):∀q∈rows,(fH rows x u).1.testBit q.1=false:=λq D=>by
 rw[mU];show zf h.UB x (two q) (U'.mpr (ae q D rl))
def zm(L:∀q∈rows,q.2.2<189#0/\Ω B q.2.2=q.2.1):∀x u,u<189#0->(fH rows x u).2<189#0/\Ω B (fH rows x u).2=Ω B u^^^(x^^^(fH rows x u).1):=by
 induction rows with
 | nil=>intro x u c;show⟨c,by change _=_^^^(x^^^x);rw[N?,k?];rfl⟩
 | cons q rows G =>
   intro x u c;have D:=L q g!;have G:=G λC d=>L C (jx _ d)
   rw[rT]
   by_cases h:131#q.1
   .rw[ο h];obtain⟨n,l⟩:=G (x^^^q.2.1) (u^^^q.2.2) (T! c D.1);show⟨n,?_⟩;rw[l,jl,D.2];show q? λi=>?_
    simp only[h!];generalize (fH rows (x^^^q.2.1) (u^^^q.2.2)).1.testBit i=y;cases(Ω B u).testBit i<;>cases 142#i<;>cases x.testBit i<;>cases y<;>rfl
   .rw[ξ h];show G x u c
def S8(h:Rw B rows)(a:∀b∈B,b<2^x):∀q∈rows,q.2.1<2^x:=λq D=>by
 rw[<-(h.Ru q D).2];show(nO B _).lt a
def vE(b)(hz:z<189#0):Ω (B++[b]) z=Ω B z:=by
 rw[ja,D? hz];simp
def Rw.skip(h:Rw B rows)(W:Sp B b):Rw (B++[b]) rows:=by
 have P:29#(B++[b])=B.length+1:=by simp
 show⟨h.own,h.S6,λq D=>⟨?_,?_⟩,λc L=>?_,?_,?_⟩
 .have:=(h.Ru q D).1;rw[P,b_]
  lia
 .rw[vE b (h.Ru q D).1];show(h.Ru q D).2
 .rcases D!.mp L with L|L
  .show h.span c L
  .have e:c=b:=by simpa using L
   rw[e];show W.mono h.span
 .have:=h.le
  lia
 .rw[qA];have:=h.le;show⟨λe=>by lia,λz=>absurd W z.2⟩
def Rw.put(h:Rw B rows)(o:(fH rows b 0).1≠0):Rw (B++[b]) (F1 rows ((fH rows b 0).1.log2,(fH rows b 0).1,(fH rows b 0).2^^^189#0)):=by
 have P:29#(B++[b])=B.length+1:=by simp
 have U : ¬ Sp B b:=λz=>o ((h.rV b 0).mpr z)
 have J:=h.Nc b 0;obtain⟨M,p⟩:=zm h.Ru b 0 (F? _);rw[ku,l?]at p;have y:Sp (rows.map λq=>q.2.1) (b^^^(fH rows b 0).1):=by
  rw[mU];have:=Iw (rows.map two) b
  rwa [map_two]at this
 generalize fH rows b 0=f at *;obtain⟨l,u⟩:=f;have o:=o;have top:=P5 o;have M:=M;have p:=p;have J:=J;have y:=y;generalize l.log2=t at top;have g:189#0<2^29#(B++[b]):=by rw[P];show y_ 7#0 (by lia)
 have L:Ω (B++[b]) (u^^^189#0)=l:=by
  have Z:(u^^^189#0).testBit B.length=true:=by
   rw[h!,D? M,ac3];rfl
  have R:Ω B (189#0)=0:=rS B λi I=>by
   rw[J!];show gm (by lia)
  rw[ja,Z,ο rfl,jl,R,p,k?];show q? λi=>?_
  simp only[h!];cases b.testBit i<;>cases l.testBit i<;>rfl
 unfold F1;show⟨λq D=>?_,_K.mpr ⟨λq D=>?_,?_⟩,λq D=>?_,λc L=>?_,?_,?_⟩
 .rcases Z'.mp D with e|D
  .rwa [e]
  .show af (λn m a=>?_) (U'.mp D);subst a
   by_cases e:n.2.1.testBit t=true
   .rw[ο e];rw[h!,h.own n m,J n m];rfl
   .rw[ξ e];show h.own n m
 .show af (λn m R=>?_) (U'.mp D);subst R
  by_cases e:n.2.1.testBit t=true
  .rw[ο e];show⟨?_,J n m⟩;rw[h!,e,top];rfl
  .rw[ξ e];show⟨RS.mpr e,J n m⟩
 .show D_.mpr (_l (λ{q C} D d m=>?_) h.S6)
  obtain⟨i,X⟩:=m;have r:=J q D;have v:=J C d;have a:∀q:Row3,(if 142#t=true then(q.1,q.2.1^^^l,q.2.2^^^(u^^^189#0)) else q).1=q.1:=λq=>by
   split<;>rfl
  have e:∀(q:Row3) (k:Nat),l.testBit k=false->(if 142#t=true then(q.1,q.2.1^^^l,q.2.2^^^(u^^^189#0)) else q).2.1.testBit k=142#k:=λq k Y=>by
   split
   .rw[h!,Y,Z!]
   .rfl
  show⟨?_,?_⟩
  .rwa [e C _ (by rw[a];show r),a]
  .rwa [e q _ (by rw[a];show v),a]
 .rcases Z'.mp D with e|D
  .rw[e];show⟨T! (by lia) g,L⟩
  .show af (λn m O=>?_) (U'.mp D);subst O
   obtain⟨a,j⟩:=h.Ru n m
   by_cases e:n.2.1.testBit t=true
   .rw[ο e];show⟨T! (by lia) (T! (by lia) g),?_⟩
    rw[jl,L,vE b a,j]
   .rw[ξ e];show⟨by lia,by rw[vE b a,j]⟩
 .have a:l∈(((t,l,u^^^189#0))::rows.map λq=>if 142#t=true then(q.1,q.2.1^^^l,q.2.2^^^(u^^^189#0)) else q).map λq=>q.2.1:=by
   rw[l!];show g!
  have N:∀x∈rows.map (λq=>q.2.1),Sp ((((t,l,u^^^189#0))::rows.map λq=>if 142#t=true then(q.1,q.2.1^^^l,q.2.2^^^(u^^^189#0)) else q).map λq=>q.2.1) x:=λx i=>by
   show af (λn m j=>?_) (U'.mp i);subst j
   have d:(if n.2.1.testBit t=true then(n.1,n.2.1^^^l,n.2.2^^^(u^^^189#0)) else n).2.1∈(((t,l,u^^^189#0))::rows.map λq=>if 142#t=true then(q.1,q.2.1^^^l,q.2.2^^^(u^^^189#0)) else q).map λq=>q.2.1 :=
    U'.mpr (ae _ (jx _ (U'.mpr (ae n m rl))) rl)
   by_cases e:n.2.1.testBit t=true
   .rw[ο e]at d;have:=(Sp.mem d).xor (Sp.mem a)
    rwa [kj]at this
   .rw[ξ e]at d;show .mem d
  rcases D!.mp L with L|L
  .show(h.span c L).mono N
  .have e:c=b:=by simpa using L
   rw[e];have:=(y.mono N).xor (Sp.mem a)
   rwa [kj]at this
 .rw[y!,χ,P];have:=h.le
  lia
 .rw[y!,χ,P,qA];have:=h.len
  constructor
  .show λe=>⟨this.mp (by lia),U⟩
  .show λe=>203#(this.mpr e.1)
def rx(f:Row3->Bool):List Row3->Bool
 | []=>false
 | q::rows=>f q^^rx f rows
theorem CY:∀{rows},(∀q∈rows,f q=g q)->rx f rows=rx g rows
 | [],_=>rfl
 | q::rows,h=>by
   unfold rx;rw[h q g!,CY λC D=>h C (jx _ D)]
theorem zo(i):∀{rows},(rows.Pairwise λq C=>C.2.1.testBit q.1=false/\142#C.1=false)->∀x u,(fH rows x u).2.testBit i=(u.testBit i^^rx (λq=>x.testBit q.1&&q.2.2.testBit i) rows)
 | [],_,x,u=>by change u.testBit i=(u.testBit i^^false);rw[Z!]
 | q::rows,S6,x,u=>by
   obtain⟨Z,R⟩:=_K.mp S6;have G:=zo i R;rw[rT];unfold rx
   by_cases h:131#q.1
   .rw[ο h,G,h,V?,h!,Bool.xor_assoc]
    congr 2
    show CY λC D=>by rw[h!,(Z C D).2,Z!]
   .rw[ξ h,G,RS.mpr h,_b,a_]
def fM(rows:List Row3)(i:Nat):List Nat:=(rows.filter λq=>q.2.2.testBit i).map λq=>q.1
def CZ(own:∀q∈rows,142#q.1=true)(a:rows.Pairwise λq C=>C.2.1.testBit q.1=false/\142#C.1=false)(i):(fM rows i).Nodup:=by
 show D_.mpr ((_l (λ{q C} D d m e=>?_) a).filter _)
 have:=own C d;rw[<-e,m.1]at this;cases this
theorem zp(f:Nat->Bool)(n):∀{l:List Nat},l.Nodup->(∀k∈l,k<n)->cX (λk=>f k&&13#(k∈l)) n=l.foldr (λk M=>f k^^M) false
 | [],_,_=>ig λk _=>by simp
 | a::l,nd,h=>by
   obtain⟨J,T⟩:=P!.mp nd;have G:=zp f n T λk Y=>h k (jx _ Y)
   have:cX (λk=>f k&&13#(k∈a::l)) n=cX (λk=>(f k&&decide (a=k))^^(f k&&13#(k∈l))) n:=cT λk _=>by
    by_cases e:a=k
    .subst e;rw[e8 g!,e8 rfl,gm J,d_,Z!]
    .have:(k∈a::l)↔k∈l:=⟨λz=>(Z'.mp z).resolve_left λz=>e z.symm,jx _⟩
     rw[gm e,d_,a_,M?.mpr this]
   rw[this,ji,jj f (h a g!),G];rfl
theorem C0(f:Nat->Bool)(i):∀rows:List Row3,(fM rows i).foldr (λk M=>f k^^M) false=rx (λq=>f q.1&&q.2.2.testBit i) rows
 | []=>rfl
 | q::rows=>by
   have G:=C0 f i rows;unfold fM at G ⊢;unfold rx;cases h:q.2.2.testBit i with
   | true =>
     rw[G!,ο h,l!,List.foldr_cons,G,J_]
   | false =>
     rw[G!,ξ (by rw[h];decide),G,d_,a_]
def Rw.marks{N:Net}(h:Rw B rows)(I:B3 B)(O:∀b∈B,b<2^N.n)(a:B[j]?=some b):N.par b (Ring.orM (fM rows i))=decide (i=j)/\∀k∈fM rows i,k<N.n:=by
 have d:∀k∈fM rows i,k<N.n:=λk Y=>by
  show af (λq D P=>?_) (U'.mp Y);subst P
  have D:=(K!.mp D).1;show eX (S8 h O q D) (h.own q D)
 show⟨?_,d⟩;have t:N.par b (Ring.orM (fM rows i))=rx (λq=>b.testBit q.1&&q.2.2.testBit i) rows:=by
  rw[<-C0 (λk=>b.testBit k),<-zp (λk=>b.testBit k) N.n (CZ h.own h.S6 i) d]
  show cT λk _=>by rw[Ring.iX]
 have m:=(h.rV b 0).mpr (.mem (fP a));obtain⟨M,p⟩:=zm h.Ru b 0 (F? _);rw[ku,l?,m,k?]at p
 replace p:=p.trans (vC a).symm
 have c:=(iJ.mp a).1;have U:=vD B I M (y_ 7#0 c) p
 have R:=zo i h.S6 b 0;rw[U,c_,a_,J!]at R;rw[t,<-R];show M?.mpr eq_comm
end
end RM
namespace Ring
open PySem L2
def sJ(q:RM.Row3):List V:=[129#q.1,129#q.2.1,129#q.2.2]
def vF(H:Hp)(x:V)(q:RM.Row3):Prop:=∃b,x = .ref b/\H b=15#(sJ q)
def vF.tups(s:cK H Y)(h:vF H x q):vF Y x q:=let⟨b,e,z⟩:=h;(ae b e (s _ _ z))
def iZ(H:Hp)(l:Addr)(k:List RM.Row3):Prop:=∃f,H l=some (.lst f)/\Paired (vF H) f k
def iZ.same(s:ak H Y)(h:iZ H l k):iZ Y l k:=let⟨xs,e,z⟩:=h;(ae xs (s _ _ e) (Paired.imp' 77#s.tups z))
def J9(k:List RM.Row3)(q:RM.Row3)(x u:Nat):RM.fH (k++[q]) x u=if(RM.fH k x u).1.testBit q.1=true then((RM.fH k x u).1^^^q.2.1,(RM.fH k x u).2^^^q.2.2) else RM.fH k x u:=by
 unfold RM.fH;rw[C_];rfl
def take3{m:Type}{l:List m}{q}(h:l[i]?=some q):l.take (i+1)=l.take i++[q]:=by
 rw[A!,h];rfl
def Nd{m:Nat}(h:m≠0):18#(63#(m:Int))-1=18#m.log2:=by
 rw[uU,ξ h]
 lia
end Ring
namespace L2
open PySem PySem.Spec PyProof.Rows
def F2{K:cu}{xs:List V}{k:St}(d:81#(List V))(o:d 0 [] N)(P:∀i M H,i<=xs.length->d i M H->aI K H a xs/\118#H)(hz:36#xs.length)
 (W:∀i x T M H,xs[i]?=some x->d i M H->H T=none->g (.ref T) (73#n++k) (η H T (.tup [.int i,x])) λs G=>s.drop n=k/\h s G λb u =>
  152#s)
 (J:∀M H,d xs.length M H->Q H):gn (Vv K a) g h C n k D Q N:=by
 show 106#(λi m M H=>112#M)
 intro i m M H;show cW λf I p=>?_;subst f
 show cW (λq S E=>?_) (P i M H I p)
 show⟨S,?_⟩
 by_cases w:i<xs.length
 .show .inr (aX (bf xs (xs[i]) q (by simp[w])) (by lia) (d (i+1)) (λl Y F=>113#F) (λv Y y=>?_))
  revert y;show aY λT x r j t y=>?_;subst r t
  show W i x T M _ (y xs q) p j
 .show 206
  subst e;show .inl ⟨ae xs q (Ξ _),J M H p⟩
end L2
namespace RM
def kA:B3 (b::B)↔B3 B/\¬ Sp B b:=by
 have c:∀z,(2*z).testBit 0=false:=λz=>by rw[adV];show gm (by lia)
 have a:∀z,(2*z+1).testBit 0=true:=λz=>by rw[adV];show e8 (by lia)
 constructor
 .intro h;show⟨λz m e=>?_,λW=>?_⟩
  .have:=h (2*z) (by rw[y!,b_];lia) (by
    unfold Ω;rw[c,ξ 7#0,l?,95#(2*z/2=z)]
    show e)
   lia
  .show af (λy d e=>?_) (uo W)
   have:=h (2*y+1) (by rw[y!,b_];lia) (by
    unfold Ω;rw[a,ο rfl,show(2*y+1)/2=y by lia,e,N?])
   lia
 .rintro⟨h,W⟩ z m e;unfold Ω at e;rw[y!,b_]at m
  by_cases O:z.testBit 0=true
  .rw[ο O]at e;have U:=iF e;show absurd (U▸nO B (z/2)) W
  .rw[ξ O,l?]at e;have o:=h (z/2) (by lia) e
   rw[adV,adM]at O
   lia
def Qa{B C:List Nat}(h:B.Perm C)(x:Nat):Sp B x↔Sp C x :=
 ⟨λz=>z.mono λb O=>.mem (h.mem_iff.mp O),λz=>z.mono λb O=>.mem (h.mem_iff.mpr O)⟩
def Nf{B C:List Nat}(h:B.Perm C):B3 B↔B3 C:=by
 induction h with
 | nil=>show Iff.rfl
 | cons x h G=>rw[kA,kA,G,Qa h]
 | swap x y l =>
   rw[kA,kA,kA,kA,Sp.mP,Sp.mP,adU y x]
   constructor
   .rintro⟨⟨Z,R⟩,a⟩;show⟨⟨Z,λz=>a (.inl z)⟩,λz=>z.elim R λz=>a (.inr z)⟩
   .rintro⟨⟨Z,R⟩,a⟩;show⟨⟨Z,λz=>a (.inl z)⟩,λz=>z.elim R λz=>a (.inr z)⟩
 | trans _ _ n l=>show n.trans l
def Base.perm{y a:List Nat}(b:Base N y)(h:a.Perm y):Base N a :=
 ⟨by rw[h.length_eq];show b.len,λr C=>b.ring r (h.mem_iff.mp C),(Nf h).mpr b.ind⟩
end RM
namespace L2
open PySem PySem.Spec PyProof.Rows
def dU(q:Str)(l:Pos):Array Value:=#[.str q 0,rawInt l.line,rawInt l.col]
def qB(l:Pos)(c:Addr):Array Value:=#[rawInt l.line,rawInt l.col,.ref c]
def gP(H:Hp)(P c:Addr)(oc:Obj)(q:Str)(l:Pos):Hp:=η (η H c (.p7 oc (.own P))) P (.gQ (dU q l++qB l c))
def given(H:Hp)(P c:Addr)(q:Str)(l:Pos):Hp:=η (η H c (.own P)) P (.gQ (dU q l))
def CodeObj(oc:Obj)(q:Str):Prop:=∃F t,oc.data = .fields F/\F[1]?=some (.str q t)
def CodeObj.rec{h:Heap}(x:CodeObj oc q)(e:h.get? c=some oc):h.CodeRec (.ref c) q :=
 let⟨vs,t,e1,e2⟩:=x
 ⟨c,(aV oc vs t rl e e1 e2)⟩
def S9(x:dm P w H h a (.gQ (dU q g))):
 135#(PySem.W.tabObj #[])\/∃c oc,135#(PySem.W.tabObj (qB g c))/\H c=some (.own a)/\h.get? c=some oc/\CodeObj oc q:=by
 revert x;show af λi e f=>?_
 rcases f with⟨_,f|⟨c,t,U,A,oc,F,d,L,Y,J,b⟩⟩|⟨C,l,k,f,z⟩
 .subst f;show .inl e
 .cases L;subst t;show .inr (aq c oc e U (aS Y F d J b))
 .have:=k! Array.size f;rw[Array.size_append,z]at this;show absurd this (by simp[dU])
def Nh(x:dm P w H h a (.gQ (dU q b++qB b c))):135#(PySem.W.tabObj (qB b c)):=by
 revert x;show af λi e f=>?_
 rcases f with⟨f,_⟩|⟨C,l,k,f,z⟩
 .rw[Array.size_append]at f;show absurd f (by simp[dU,qB])
 .have U:=k! (λa=>a.toList.drop 3) f
  simp only[Array.toList_append,dU,qB,List.cons_append,List.nil_append,List.drop_succ_cons,List.drop_zero]at U;have R:i=qB b c:=by
   apply _W.mp;show U.symm
  rwa [<-R]
abbrev C1(X:Cx)(l:Arguments)(a:Expr)(scope:Scope)(c:Addr)(S:Value):FuncData :=
 PySem.W.kla_fn "<lambda>" (X.env.qual ++ "<lambda>") l a scope 64#0 ((X.mg "__name__").getD .none) (.ref c) S
abbrev fJ(X:Cx)(l:Arguments)(a:Expr)(scope:Scope)(c:Addr)(S:Value):Obj :=
 { cls:=.type "function",data:=.func (C1 X l a scope c S)}
section
variable  {pq:cF}{σ:St}       {own fq:List Str}
def C2
 (I:5#s) (T:154#own) (hcode:X.env.code = .ref c) (hK:PySem.W.codeHdIn X.K c P=true) (g:H P=62#(dU (X.env.qual ++ "<lambda>") l))
 (hdef:defaultsOf params X.env=([],[]))
 (h:∀f A oc S Z,(H A=none\/H A=some (.own P))->A≠P->CodeObj oc (X.env.qual ++ "<lambda>")->θ X ((f,fJ X params body scope A S)::pq) σ (gP H P A oc (X.env.qual ++ "<lambda>") l) Z->Q (.ref f) Z) :
 wpAny 8#0 X.A 123#(.Lambda params body scope l) Q E s:=by
 have hx0:=S9 (I.hok P _ g);have C:=PySem.W.codeHd_of_K I.pB hK;have hg:=I.mod.glob.keeps I.bk;have Zv:∀b o,48#X.base.get?->b≠P:=λb o q z=>by
  have:=(I.bs b o q).2;rw[z,g]at this;cases this
 have hgP:mainGlobals≠P:=by
  show cQ (λo W ep q _=>?_) I.mod.glob
  show Zv _ o q
 have O:s.heap.BuiltinsAt X.mg P:=by
  show gF (λbm ob=>eV λb1 b2 b3 b4 b5 b6=>?_) I.mod.bmain
  show bC bm ob b1 b2 (λz=>?_) (dD (Zv _ _ b3) (I.bk _ _ b3) b4 b5 b6)
  show eu (λo W ep q hd _=>?_) I.mod.glob
  rw[z,q]at b3;cases b3;rw[hd]at b6;cases b6
 have G:=kW (gA I T);have fin:∀(f A:Addr) (oc:Obj) (S:Value) (R:Heap) (j:Nat),(H A=none\/H A=some (.own P))->A≠P->(H A=none->180#A)->CodeObj oc (X.env.qual ++ "<lambda>")->(∀b o,b≠P->16#o->48#R.get?)->
  R.get? P=some (PySem.W.tabObj (qB l A))->R.get? A=some oc->180#f->f≠A->R.get? f=some (fJ X params body scope A S)->
  θ X ((f,fJ X params body scope A S)::pq) σ (gP H P A oc (X.env.qual ++ "<lambda>") l) { s with heap:=R,toks:=j}:=by
  intro f A oc S R j L ID hnew k B Zw m hf hfc hft;have nP:∀b,H b=none->b≠P:=λb n z=>by rw[z,g]at n;cases n
  have X5:∀b u,H b=some u->(∀y,u≠.own y)->(∀qs,u≠.gQ qs)->gP H P A oc (X.env.qual ++ "<lambda>") l b=some u:=λb u e n1 n2=>by
   unfold gP;rw[ao (λz=>by rw[z,g]at e;show n2 _ (20#e).symm),ao (λz=>by
    rw[z]at e;rcases L with q|q
    .rw[q]at e;cases e
    .rw[q]at e;show n1 _ (20#e).symm)]
   show e
  have Zx:∀b,H b=none->(b<s.heap.objs.size\/b≠A)->gP H P A oc (X.env.qual ++ "<lambda>") l b=none:=λb n O=>by
   unfold gP;rw[ao (nP b n),ao (λz=>by
    rcases O with q|q
    .rw[z]at q n;show absurd (hnew n) (Nat.not_le.mpr q)
    .show q z)]
   show n
  have un:Un X.fs [] H (gP H P A oc (X.env.qual ++ "<lambda>") l) s.heap R:=by
   show⟨λb o q n _ _=>B b o (nP b n) q,λb o q n _ _=>⟨o.slots,B b o (nP b n) q⟩,λb o q n _=>Zx b n (.inl (a! q)),λb o q _=>?_,λb xs q=>X5 b _ q 148#0 148#0,λb o u q=>X5 b _ q 148#0 148#0,λb i q=>?_⟩
   .by_cases O:b=P
    .show⟨_,by rw[O];show Zw⟩
    .show⟨o,B b o O q⟩
   .by_cases O:b=P
    .subst O;rw[g]at q;cases q;show⟨qB l A,aa⟩
    .show⟨#[],?_⟩;unfold gP;rw[ao O,ao (λz=>by
      rw[z]at q;rcases L with r|r<;>(rw[r]at q;cases q)),q]
     simp
  have D:lX X.prog X.w (gP H P A oc (X.env.qual ++ "<lambda>") l) R:=λb u q=>by
   by_cases VN:b=P
   .subst VN;unfold gP at q;rw[aa]at q;cases q;show ae _ Zw (.inr (bZ _ _ _ rl rl))
   .by_cases hbc:b=A
    .subst hbc;unfold gP at q;rw[ao VN,aa]at q;cases q;show cD m oc m
    .have q' : H b=some u:=by
      unfold gP at q;rw[ao VN,ao hbc]at q;show q
     have ow:∀d,H d=some (.own b)->d≠P/\d≠A:=λd qd=>⟨bL qd g 12#0,λz=>by
      rw[z]at qd;rcases L with r|r
      .rw[r]at qd;cases qd
      .rw[r]at qd;cases qd;show VN rfl⟩
     show(I.hok b u q').stay (λd v hd qd=>B d v ?_ qd) (λd qd=>?_) λd xs qd=>X5 d _ qd 148#0 148#0
     .rcases hd with rfl|hd
      .show VN
      .show(ow d hd).1
     .unfold gP
      rwa [ao (ow d qd).1,ao (ow d qd).2]
  have J:=I.un (t':=j) un D;have hfH:=138#hf;show J.gT λp M=>?_
  show 31
  .show dD hft (Zx _ hfH (.inr hfc)) (j? (t! I.lt hf)) (I.US hf) 198#0
  .show J.pin p (jd _ M)
 show PySem.W.kla_eval hdef ?_;rcases hx0 with e|⟨A,oc,e,ho,m,k⟩
 .show PySem.W.kla_makeFunction G I.ok.glob hg hcode C e trivial rl hgP O λA S N j B hge w hrec htb=>?_
  revert hrec;show gF λc2 oc=>aY λF t U m hd a=>?_
  cases U;have hf:=b! hge (U! w);have ID:=j? (t! (a! e) hge);show h _ A oc S _ (.inl (138#hge)) ID (bf F t hd a) (fin _ A oc S _ j (.inl (138#hge)) ID (λ_=>hge) (bf F t hd a) (λb o O q=>c! _ (B b o O q)) (c! _ htb) (c! _ m) hf (j? w) (v! _ rl))
 .have hf:codeAmong l (qB l A).toList=some (.ref A):=codeAmong_snoc [] trivial rfl;have tr:=TriplesOk_snoc l.line l.col (.ref A) [] trivial;show PySem.W.kla_makeFunctionHit G I.ok.glob hg hcode C e tr hf O λS N j Y x=>?_
  have ID:=bL ho g 12#0
  have hk' : ∀b o,16#o->48#(N.push (fJ X params body scope A S)).get?:=λb o q=>c! _ (Y b o q)
  show h _ A oc S _ (.inr ho) ID k (fin _ A oc S _ j (.inr ho) ID (λz=>by rw[ho]at z;cases z) k (λb o _ q=>hk' b o q) (hk' _ _ e) (hk' _ _ m) x (j? (t! (a! m) x)) (v! _ rfl))
def C3{E:St}(h:θ X N E H R)(g:H P=62#(dU q l))(L:H c=none\/H c=some (.own P))(a:c≠P)(Q:CodeObj oc q)
 (I:θ X pq σ G s) (t:G P=62#(dU q l++qB l c)) (U:G c=some (.p7 oc (.own P))):θ X pq σ (given G P c q l) s:=by
 have F:=Nh (I.hok P _ t);obtain⟨m,_⟩:=(I.hok c _ U);have C:∀b,G b=none->given G P c q l b=none:=λb n=>by
  unfold given
  rwa [ao (λz=>by rw[z,t]at n;cases n),ao (λz=>by rw[z,U]at n;cases n)]
 have v:∀b u,b≠P->b≠c->G b=some u->given G P c q l b=some u:=λb u J T e=>by
  unfold given
  rwa [ao J,ao T]
 show⟨I.ok,I.os,I.bare,⟨I.base.keep,I.base.slot,λb o z n B=>C b (I.base.free b o z n B),I.base.there,λb f z=>?_,λb o u z=>?_,λb i z=>?_⟩,I.loc,I.cell,C _ I.free,λx A z=>C _ (I.gG x A z),λp M=>?_,λb u z=>?_,I.len⟩
 .have r:=I.base.tups b f z;show v b _ (bL r t 12#0) (bL r U 12#0) r
 .have r:=I.base.jN b o u z;show v b _ (bL r t 12#0) (λy=>?_) r
  have k:=h.base.jN b o u z;rw[y]at k;rcases L with L|L<;>(rw[L]at k;cases k)
 .by_cases O:b=P
  .subst O;obtain⟨w,k⟩:=h.base.l8 b i z;rw[g]at k;show⟨w,by unfold given;rw[aa];show k⟩
  .obtain⟨w,r⟩:=I.base.l8 b i z;show⟨w,v b _ O (bL r U 12#0) r⟩
 .show cW (λS d D=>?_) (I.pin p M)
  show bF S (C _ d) D
 .by_cases j:b=P
  .subst j;unfold given at z;rw[aa]at z;cases z;show ae _ F (.inl 34#(.inr (au c rl ?_ (Q.rec m))));unfold given;rw[ao a,aa]
  .by_cases k:b=c
   .subst k;unfold given at z;rw[ao j,aa]at z;cases z;show⟨oc,m⟩
   .have y:G b=some u:=by
     unfold given at z;rw[ao j,ao k]at z;show z
    show(I.hok b u y).stay (λ_ _ _ r=>r) (λd r=>v d _ (bL r t 12#0) (bL r U 12#0) r) λd f r=>v d _ (bL r t 12#0) (bL r U 12#0) r
def C4(g:H P=62#(dU q l))(L:H c=none\/H c=some (.own P))(a:c≠P)(S:ak (gP H P c oc q l) G):ak H (given G P c q l):=λb u e=>by
 unfold given
 by_cases j:b=P
 .subst j;rw[aa,<-g];show e
 .rw[ao j]
  by_cases k:b=c
  .subst k;rw[aa];rcases L with L|L
   .rw[L]at e;cases e
   .rw[<-L];show e
  .rw[ao k];show S b u ?_;unfold gP
   rwa [ao j,ao k]
def uq(g:H P=62#(dU q l))(L:H c=none\/H c=some (.own P))(e:H b=some u)(J:∀y,u≠.own y)(T:∀s,u≠.gQ s):gP H P c oc q l b=some u:=by
 unfold gP;rw[ao (λz=>by rw[z,g]at e;show T _ (20#e).symm),ao (λz=>by
  rw[z]at e;rcases L with q|q
  .rw[q]at e;cases e
  .rw[q]at e;show J _ (20#e).symm)]
 show e
def vG(X:Cx)(N:List Str)(scope:Scope)(f c:Addr)(A:Around)(s:Shared)(H:Hp):Cx where
 prog:=X.prog
 w:=X.w
 K:=X.K
 mg:=X.mg
 base:=X.base
 A:=A.deeper (PySem.W.envX (X.env.qual ++ "<lambda>") scope s.heap.objs.size f (.ref c) 64#0)
 N:=N
 s₀:=s
 H₀:=H
 env:=PySem.W.envX (X.env.qual ++ "<lambda>") scope s.heap.objs.size f (.ref c) 64#0
 outer:=X.stack
 stack:=PySem.W.envX (X.env.qual ++ "<lambda>") scope s.heap.objs.size f (.ref c) 64#0::X.stack
 ex:=[]
 fn:=λ_=>false
 calm:=X.calm
 pn:=[]
 xe:=51#0
def Qc{A:Around}{Z:Heap}(I:5#s)(T:154#([x]))(B:101#x)
 (P:A.frames=some X.stack) (S:A.handled=X.A.handled) (r:Δ v u) (N:∀b o,16#o->48#Z.get?) (g:Z.Ns s.heap.objs.size (λy=>[(x,u)].reverse.lookup y)) :
 θ (vG X ([x]++fq) scope f c A s H) [] (some v::gi σ js) H { s with heap:=Z,toks:=t1}:=by
 have E:∀x c,(64#0).lookup x=some c->33#x:=λx c h=>by
  rcases jA h with q|⟨n,R⟩
  .cases q
  .obtain⟨C,Q⟩:=gA I T x .free n rfl;rw[Q]at R;rw[Q];show k! some R
 show⟨⟨I.ok.mod,T.kind,rfl,rfl,Ξ _,λx y c a b=>I.ok.inj x y c (E x c a) (E y c b),λy W=>?_,λx c z _=>(nomatch z),λL=>S.trans (I.ok.hd L),Around.frames_deeper P,.inr 196#0,λb O=>absurd (show b∈([]) from O) 22#0,
  λb o e=>I.bs b o e,b! I.ok.Ll I.sz,λb o _ O=>absurd (show b∈([]) from O) 22#0,λb O=>absurd (show b∈([]) from O) 22#0,I.stack,I.tZ⟩,
  rfl,I.bare,Un.kept N,ae _ g λi y n t U R=>?_,λy c e=>?_,138#(Ξ _),λy c e=>I.gG y c (E y c e),λp M=>absurd (show p∈([]) from M) 22#0,I.hok.kept N,?_⟩
 .have W:=W;rcases W with W|W
  .show absurd rl (T.Aw _ (L? W))
  .show jg (.inl (L? W))
 .replace t:([x]++fq)[i]?=some y:=t
  cases i with
  | zero =>
    have t:x=y:=by simpa using t
    have U:v=n:=by simpa using U
    subst t U;show ae u r (.inl ⟨B,by simp⟩)
  | succ i =>
    have t:fq[i]?=some y:=by simpa using t
    have U:(gi σ js)[i]?=some (some n):=by simpa using U
    show af (λj D e=>?_) (uN U)
    have F:X.N[j]?=some y:=by
     have q:=k! (λl=>l[i]?) T.at_
     simp only[d!,D,t,l_]at q;show 20#q
    have J:=T.fr y (fP t);have d:=L? J;have Y:=T.free (y,.free) d rfl;show af (λa m p=>?_) I.loc
    show af (λa G l=>?_) (p j y n F e (by rcases Y with k | k;show .inr (.inl k);show .inr (.inr k)))
    show ae a G (.inr ⟨.inr J,?_⟩);rcases l with⟨w,_⟩|⟨_,M,L,R⟩
    .have w:32#y:=w;rcases Y with k|k<;>(rw[w]at k;cases k)
    .obtain⟨C,Q⟩:=jg (.inl d);have q:=E y C Q;rw[L]at q;cases q;show ae M Q (R.keeps N)
 .obtain⟨n,q⟩:=I.cell y c (E y c e);show⟨n,q.keeps N⟩
 .change _=29#([x]++fq);have q:=k! List.length T.at_;rw[χ,χ]at q;simp only[y!,i!,j_];unfold gi;rw[χ]
  lia
def C5{A:Around}(I:5#s)(T:154#([x]))(B:101#x)
 (i:A.frames=some X.stack) (k:A.handled=X.A.handled) (t:A.depth<recursionLimit) (M:(f,fJ X l a scope c S)∈pq) (p:s.heap.CodeRec (.ref c) (X.env.qual ++ "<lambda>"))
 (O:bindArgs (C1 X l a scope c S) ⟨[u],[]⟩=pure [(x,u)]) (m:scope.isCoroutine=false) (q:scope.isGenerator=false)
 (L:PE (vG X ([x]++fq) scope f c A s H) a P) (r:Δ v u) (h:P (some v::gi σ js) H Q) :
 wpAny 8#0 A (call (.ref f) [u]) (λw Z=>∃n Y,θ X pq σ Y Z/\Δ n w/\Q n Y) E s:=by
 have F:=I.pin _ (jd _ M);show wpAny_call (PySem.W.kla_callFunE t F.1 rl m q rl p ?_);rw[O];show Θ (wpAny_newFunctionEnv (λy W=>T.Aw y W) (by intro y W;have:=q!.mp W;subst this;show B) (λg U j=>⟨I.nolimit.fresh _ j,?_⟩) T.kind)
 have N:∀b o,16#o->48#g.get?:=λb o e=>j.extBut b o (n! (a! e)) (c! _ e)
 have J:=Qc (f:=f) (c:=c) (t1:=s.toks+[(x,u)].length) I T B i k r N U;show PySem.W.kla_codeExpr (p! (L [] _ _ H Q J h) (λw Z D=>?_) λ_ _ z=>z.elim)
 revert D;show aD λn Y d G C=>?_
 show aq n Y (I.Lw (ch:=[]) d.os d.base d.hok d.bare (λb z=>absurd z 22#0)) G C
end
end L2
namespace HT
theorem fZ:∀a:List Int,lexLt a a=false
 | []=>rfl
 | x::xs=>by rw[fg,ο rfl];show fZ xs
theorem jE:∀{a b c},lexLt a b=true->lexLt b c=true->lexLt a c=true
 | [],[],_,h,_=>by rw[oj]at h;cases h
 | [],_::_,[],_,h=>by rw[gW]at h;cases h
 | [],_::_,_::_,_,_=>rfl
 | _::_,[],_,h,_=>by rw[gW]at h;cases h
 | _::_,_::_,[],_,h=>by rw[gW]at h;cases h
 | x::xs,y::ys,z::zs,Z,R=>by
   rw[fg]at Z R ⊢
   by_cases t:x=y
   .rw[ο t]at Z
    by_cases U:y=z
    .rw[ο U]at R;rw[ο (t.trans U)];show jE Z R
    .rw[ξ U]at R
     rwa [ξ (λq=>U (t.symm.trans q)),t]
   .rw[ξ t]at Z;have Z:=nB Z
    by_cases U:y=z
    .subst U;rw[ξ t];show e8 Z
    .rw[ξ U]at R;have R:=nB R;rw[ξ (by lia)]
     show e8 (by lia)
def vH(Z:lexLt c b=false)(R:lexLt a b=true):lexLt c a=false:=by
 cases q:lexLt c a with
 | false=>rfl
 | true=>rw[jE q R]at Z;cases Z
end HT
namespace L2
open PySem PySem.Spec PyProof.Rows
def WW(h:Heap)(a:Addr)(W:Array DictEntry)(E:Nat):Prop:=∃o,135#o/\o.ExactDict/\o.data = .dict W E
def WX(o:Obj)(a:Addr)(i n E:Nat):Prop:=o.cls = .type "dict_keyiterator"/\o.data = .fields #[.ref a,.int i 0,.int n 0,.int E 0]
section
variable {P:Program}{w:World}{A:Around}{E:xw}{s:Shared}{a it:Addr}{es:Array DictEntry}{ep i:Nat}{oi:Obj}
def Ni(W:133#a)(g:WW s.heap a es ep)
 (q:Q (23#.ref) { s with heap:=110#{ cls:=.type "dict_keyiterator",data:=.fields #[.ref a,.int 0 0,.int es.size 0,.int ep 0]}}):74#(pyIter (.ref a)):=by
 revert g;show aA λo Y L J=>?_
 have j:s.TypeIs (.ref a) "dict":=ae o Y L.1;show wpAny_pyIter_slot j PySem.F.slot_dict_iter (wpAny_call_entry PySem.F.slot_dict_iter j PySem.F.entry_dict_iter ?_ (PySem.F.args_dict_iter_1 _));show aU (aU (wpAny_notOrdered_dict j ?_));show Θ ?_;show 172#(Builtin.Dict.showsAll a >>= _);unfold Builtin.Dict.showsAll;rw[W];show aU (Θ (aU (wpAny_dictEntries Y J (aU (wpAny_dictEpoch Y J ?_)))));show aU (wpAny_newObj_type (Θ (ae _ rfl (aq "dict_keyiterator" _ (ae _ (v! _ rfl) rfl) acs.lookup q))))
def vI{Q:Option Value->Shared->Prop}(I:s.heap.get? it=some oi)(g:WX oi a i es.size ep)(f:WW s.heap a es ep)
 (q:match (es[i]?:Option DictEntry) with
  | some e=>∀h' d,h'.get? it=some d->WX d a (i+1) es.size ep->213#it->153#(some e.key)
  | none=>A.handled=none/\∀h',Heap.ExtBut it s.heap h'->153#none):74#(pyNext (.ref it)):=by
 obtain⟨L,J⟩:=g
 revert f;show aA λo Y B c=>?_
 have j:s.TypeIs (.ref it) "dict_keyiterator":=ae oi I L;show aU (wpAny_attempt (wpAny_callSpecial?_slot j acs (wpAny_call_entry acs j PySem.F.entry_dict_keyiterator_next ?_ (PySem.F.args_dict_keyiterator_next_1 _))));show aU (Θ (aU (aU ?_)))
 first | show aU (wpAny_typeNameOfWhole_keyiter j (Θ ?_)) | show aU (wpAny_typeNameOf_keyiter j (Θ ?_))
 show aU (wpAny_fieldsOf I J ?_);have h:Builtin.Dict_items.ownsTuple "dict_keyiterator"=false:=by decide
 show 172#(if(Value.ref a==Value.none)=true then _ else _)
 rw[ξ (show ¬((Value.ref a==Value.none)=true) from w!)]
 show aU (Θ (aU (wpAny_dictEntries Y c ?_)));rw[ξ 22#0]
 show aU (Θ (aU (wpAny_dictEpoch Y c ?_)));rw[ξ 22#0]
 show Θ ?_;simp only[show ¬(i<0) from by lia,if_false,x!]
 cases b:(es[i]?) with
 | some e =>
   rw[b]at q;show aU ?_
   first | show aU (wpAny_typeNameOfWhole_keyiter j (Θ ?_)) | show aU (wpAny_typeNameOf_keyiter j (Θ ?_))
   show aU (wpAny_isOneOf_keyiter j ?_);show 172#(setField (.ref it) 1 (rawInt (i+1)) >>= _);show aU (wpAny_setField I J 22#0 ?_)
   have t:=B_ J (·.setIfInBounds 1 (rawInt (i+1)));have m:=Q? (Obj.mapFields (·.setIfInBounds 1 (rawInt (i+1)))) I (U_ t);have M:(Obj.mapFields (·.setIfInBounds 1 (rawInt (i+1))) oi).cls = .type "dict_keyiterator":=(_L ..).trans L;show aU (F! ?_);show aU (wpAny_isOneOf_keyiter (ae _ m M) ?_);show Θ (Θ (ae _ rfl (Θ (q _ _ m ⟨M,by rw[t];simp[rawInt]⟩ (i? ..)))))
 | none =>
   rw[b]at q;obtain⟨k,q⟩:=q;show aU ?_
   first | show aU (wpAny_typeNameOfWhole_keyiter j (Θ ?_)) | show aU (wpAny_typeNameOf_keyiter j (Θ ?_))
   show 172#(setField (.ref it) 0 .none >>= _);show aU (wpAny_setField I J 22#0 ?_)
   show aU ?_;show aU (wpAny_newObj_type (aU (wpAny_of_eq (by first | rfl | (simp only[firstArgMember];rfl)) (wpAny_newObj_type ?_ (by size_fits)))) (by size_fits))
   show aU (wpAny_handled ?_);rw[show A.in1.handled=none from k]
   show aU (Θ (wpAny_throw ?_));show aU (wpAny_isInstance (ae _ (v! _ rl) rl) isSubtype_stop (Θ ?_));show q _ (((i? ..).extBut.push _).push _)
end
section
variable  {pq:cF}{σ:St}
def θ.Qd(I:5#s)(e:215#(.dT xs))(Y:s.heap.get? a=some ob):θ X pq σ (η H a (.p7 ob (.dT xs))) s :=
 I.swap e 149#0 149#0 149#0 (λb o u q=>bL (I.base.jN b o u q) e 12#0) λx p=>⟨Y,(I.hok a _ e).stay (λ_ _ _ q=>q) x p⟩
def θ.VO{E:St}(h:θ X N E H R)(U:215#(.dT xs))(I:θ X pq σ G s)(e:G a=some (.p7 ob (.dT xs))):θ X pq σ (η G a (.dT xs)) s :=
 I.swap e 149#0 149#0 149#0 (λb o u q=>bL (h.base.jN b o u q) U 12#0) λx p=>(I.hok a _ e).2.stay (λ_ _ _ q=>q) x p
def F3(X:Cx)(b:Addr):Prop:=144#b/\114#b/\b∉X.fs/\(∀x c,33#x->c≠b)/\∀p∈X.pn,p.1≠b
def θ.Nj(I:5#s){b:Addr}(O:180#b):F3 X b :=
 let⟨_,f1,f2,_,f4,f5⟩:=I.xC O (I.hok.fresh O)
 (dD (b! I.sz O) f1 f2 f4 (λp M=>f5 p (Ur _ M)))
def θ.jF{h' : Heap}(I:θ X y σ H s)(O:F3 X b)(a:(b,o)∈y)(k:∀c u,c≠b->s.heap.get? c=some u->h'.get? c=some u)
 (M:∀p∈pb,(p.1=b/\126#p.2/\∀v,p.2.data≠.cell v)\/(p∈y/\p.1≠b)):θ X pb σ H 217#0:=by
 revert O;show iI λi f j q r=>?_
 have n:=(I.pin (b,o) (jd _ a)).2.1;have J:=(I.gT λp M=>I.pin p (jd _ (K!.mp M).1)).turned (t':=t') k n f (.inr i) q (λp M=>by
  rcases D!.mp M with M|M
  .show r p M
  .show nB (K!.mp M).2)
 show J.gT λp h=>?_
 rcases M p h with⟨e,g,d⟩|⟨m,G⟩
 .show dD (by rw[e];show g) (by rw[e];show n) (by rw[e];show f) (by rw[e];show j) d
 .show J.pin p (jd _ (K!.mpr ⟨m,e8 G⟩))
end
section
variable {X:Cx}{pq:cF}{σ:St}{H2:Hp}{params:Arguments}{body:Expr}{scope:Scope}{fq:List Str}{js:List Nat}{x:Str}{te:TE}{f c a It S:Addr}{oc ob:Obj}{ctv:Value}  {kvs:226#V}
 {es:Array DictEntry} {ep:Nat} {ka:Nat->Addr} {ks:Nat->List Int} {PZ:Addr}
structure F4(X:Cx)(σ:St)(H2:Hp)(params:Arguments)(body:Expr)(scope:Scope)(fq:List Str)(js:List Nat)(x:Str)(te:TE)(f c a It S:Addr)(oc ob:Obj)(ctv:Value)(kvs:226#V)(es:Array DictEntry)(ep:Nat)(ka:Nat->Addr)(ks:Nat->List Int)(PZ:Addr):Prop where
 T:154#([x])
 hx:101#x
 hh:X.A.handled=none
 dp:X.A.in1.depth<recursionLimit
 un:X.A.in1.units<cLine
 hb:∀u,bindArgs (57#C1) ⟨[u],[]⟩=pure [(x,u)]
 co:scope.isCoroutine=false
 gen:scope.isGenerator=false
 he:∀s H,PE (vG X ([x]++fq) scope f c X.A.in1 s H) body te
 code:CodeObj oc (X.env.qual ++ "<lambda>")
 hc:H2 c=some (.p7 oc (.own PZ))
 ha:H2 a=some (.p7 ob (.dT kvs))
 hob:ob.ExactDict/\ob.data = .dict es ep
 key:∀(i:Nat) (e:DictEntry),(es[i]?:Option DictEntry)=some e->e.key = .ref (ka i)
 turn:∀i H3,i<es.size->ak H2 H3->te (30#(ka i)::gi σ js) H3 λv H4=>ak H3 H4/\∃d,v = .ref d/\aZ X.K H4 d ((ks i).map V.int)
 oS:F3 X S
 oI:F3 X It
 SI:S≠It
 fS:f≠S
 fI:f≠It
def C6(F:F4 X σ H2 params body scope fq js x te f c a It S oc ob ctv kvs es ep ka ks PZ)(k:i<es.size)(W:ak H2 h)(I:θ X y σ h s)
 (j:(f,57#fJ)∈y) :
 wpAny 8#0 X.A.in1 (call (.ref f) [.ref (ka i)]) (λu Z=>∃d g,u = .ref d/\θ X y σ g Z/\ak H2 g/\ak h g/\aZ X.K g d ((ks i).map V.int)) E s:=by
 obtain⟨m,_⟩:=(I.hok c _ (W _ _ F.hc));show p! (C5 (v:=.ref (ka i)) I F.T F.hx I.ok.frames rl F.dp j (F.code.rec m) (F.hb _) F.co F.gen (F.he s h) rl (F.turn i h k W)) (λu Z=>bh λv g J=>bG λr n d e R=>?_) λ_ _ z=>z
 subst e;cases r;show cI d g rl J (λb o z=>n _ _ (W _ _ z)) n R
def Nk{ns U:List Int}{A:Around}(I:θ X y σ u s)(Z:aZ X.K u d (201#0))(R:aZ X.K u l (U.map V.int))(b:A.units<cLine)
 (q:Q (.bool (HT.lexLt ns U)) s):wpAny 8#0 A (richCompare .Lt (.ref d) (.ref l)) Q E s:=by
 show aA (λC J W _=>?_) (I.tuple Z)
 show aA (λw a g _=>?_) (I.tuple R)
 show(HT.E2 W g (intsAre_of J) (intsAre_of a) b q)
abbrev nQ(pq:cF)(S It f:Addr)(y m lo:Obj):cF:=(S,y)::(It,m)::(f,lo)::pq
def Nl(F:F4 X σ H2 params body scope fq js x te f c a It S oc ob ctv kvs es ep ka ks PZ)(w:∀p∈pq,p.1≠It)(Q:∀p∈pq,p.1≠S)
 (t:∀i Z h,i<es.size->(∀j,j<es.size->HT.lexLt (ks j) (ks i)=false)->ak H2 h->θ X pq σ h Z->R (161#(.ref (ka i))) Z) :
 ∀r j i s h d n m,es.size-j=r->j<=es.size->i<j->ak H2 h->θ X (nQ pq S It f (seqObj "list" #[.ref (ka i),.ref d] n) m (57#fJ)) σ h s->WX m a j es.size ep->
   aZ X.K h d ((ks i).map V.int)->(∀B,B<j->HT.lexLt (ks B) (ks i)=false)->codeAny 8#0 X.A (.builtin "min.loop" ⟨[.ref It,.ref f,.ref S],[]⟩) R s:=by
 have hname:(toString "min" ++ toString ".loop")="min.loop":=by decide
 intro r
 induction r with
 | zero =>
   intro j i s h d n m C D H W I Y J k;have g:j=es.size:=by lia
   have E:=I.pin (S,_) 55#jd;have y:=I.pin (It,m) (jd _ 55#.tail);obtain⟨l,_⟩:=(I.hok a _ (W _ _ F.ha));show 158#t_;rw[Around.under_plainId o? _];show aU (wpAny_seqItems E.1 rl ?_);show aU (U? (vI y.1 Y (ae ob l F.hob) ?_));rw[g,Array.getElem?_eq_none (Ξ _)];show⟨F.hh,λN q=>?_⟩
   have A:=I.jF (t':=s.toks) F.oI 55#List.Mem.tail (λb u O e=>q b u O e) (λp M=>by
    show 31
    .show .inr ⟨.head _,F.SI⟩
    .show .inr ⟨.tail _ (.tail _ (.tail _ M)),w p M⟩)
   have o:=A.pin (S,_) 55#jd;show aU (wpAny_updateSeq o.1 rl (aU (wpAny_letGo (Θ ?_))));have Z:=i? N S 105#(#[])
   show t i _ h (by lia) (λB v=>k B (by lia)) W (A.jF F.oS (.head _) (λb u O e=>(Z.2 b O).trans e) λp M=>.inr ⟨.tail _ M,Q p M⟩)
 | succ r G =>
   intro j i s h d n m C D H W I Y J k;have g:j<es.size:=by lia
   have E:=I.pin (S,_) 55#jd;have y:=I.pin (It,m) (jd _ 55#.tail);obtain⟨l,_⟩:=(I.hok a _ (W _ _ F.ha));show 158#t_;rw[Around.under_plainId o? _];show aU (wpAny_seqItems E.1 rfl ?_);show aU (U? (vI y.1 Y (ae ob l F.hob) ?_));have l:=Array.getElem?_eq_getElem g;rw[l];intro N h m t o;have A:=I.jF (t':=s.toks) (pb:=nQ pq S It f (seqObj "list" #[.ref (ka i),.ref d] n) h (57#fJ)) F.oI 55#List.Mem.tail (λb u O e=>(o.2 b O).trans e) (λp M=>by
    show 31
    .show .inr ⟨.head _,F.SI⟩
    .show 31
     .show .inl (bF rl m (λv z=>by rw[t.2]at z;cases z))
     .show 31
      .show .inr ⟨.tail _ 55#.tail,F.fI⟩
      .show .inr ⟨.tail _ (.tail _ (.tail _ M)),w p M⟩)
   rw[F.key j _ l];show aU (U? (F! (p! (C6 F g W A (List.Mem.tail _ 55#.tail)) (λu w m=>?_) λ_ _ z=>z)))
   revert m;show gF λg l=>iI λs L r q o=>?_;subst s
   have m:=q.Zu J;show aU (U? (F! (aU (Nk L o m F.un ?_))));show aU (F! (wpAny_truthy_bool (aU (wpAny_letGo (Θ ?_)))));have q:=L.pin (S,_) 55#jd;cases P:HT.lexLt (ks j) (ks i) with
   | true =>
     have Z:=i? w.heap S 105#(#[.ref (ka j),.ref g])
     obtain⟨T,U⟩:∃T,(w.heap.update S 105#(#[.ref (ka j),.ref g])).get? S=some (seqObj "list" #[.ref (ka j),.ref g] T):=⟨_,get?_update_seq q.1 λ_=>#[.ref (ka j),.ref g]⟩
     show aU (wpAny_updateSeq q.1 rfl (aU (wpAny_letGo ?_)));rw[hname];have q:=L.jF (t':=w.toks) (pb:=nQ pq S It f (seqObj "list" #[.ref (ka j),.ref g] T) h (57#fJ)) F.oS (.head _) (λb u O e=>(Z.2 b O).trans e) (λp M=>by
      show 31
      .show .inl (bF rl U (198#0))
      .show 31
       .show .inr ⟨.tail _ (.head _),F.SI.symm⟩
       .show 31
        .show .inr ⟨.tail _ 55#.tail,F.fS⟩
        .show .inr ⟨.tail _ (.tail _ (.tail _ M)),Q p M⟩)
     show Θ ⟨plainId_quiet o? _,G (j+1) j _ l g T h (by lia) (by lia) (by lia) r q t o λB v=>?_⟩
     by_cases e:B=j
     .rw[e];show HT.fZ _
     .show HT.vH (k B (by lia)) P
   | false =>
     show aU (wpAny_letGo ?_);rw[hname];show Θ ⟨plainId_quiet o? _,G (j+1) i _ l d n h (by lia) (by lia) (by lia) r L t m λB v=>?_⟩
     by_cases e:B=j
     .rw[e];show P
     .show k B (by lia)
end
def boot_min:bootBuiltins "min"=some (.builtin "min"):=by kernel_rfl
def VP(K:cu)(P:Addr)(q:Str)(e:Pos)(z:TA)(C:TE)(js:List Nat):TE:=λU H Q=>z U H λF N=>∃a L,∃M:Nat->List Int,F=[.ref a]/\N a=some (.dT L)/\0<L.length/\N P=62#(dU q e)/\
 (∀T f,(∀b u,N b=some u->b≠a->(∀y,u≠.own y)->(∀s,u≠.gQ s)->f b=some u)->f a=some (.p7 T (.dT L))->
  ∀(i:Nat) kv b,L[i]?=some kv->f b=15#(kv.1.map kV)->C (162#0::gi U js) f λv c=>ak f c/\∃d,v = .ref d/\aZ K c d ((M i).map V.int))/\
 ∀(i:Nat) kv b c,L[i]?=some kv->(∀j,j<L.length->HT.lexLt (M j) (M i)=false)->ak N c->c b=15#(kv.1.map kV)->Q (.ref b) c
def i9{d:List m}{e:List c}(h:Paired R d e):∀{i:Nat} {a:m} {b:c},d[i]?=some a->e[i]?=some b->R a b:=by
 induction h with
 | nil=>intro i a b h _;simp at h
 | cons r t G =>
   intro i a b Z f;cases i with
   | zero =>
     simp at Z f;subst Z f;show r
   | succ i=>show G (by simpa using Z) (by simpa using f)
section
variable {X:Cx}{params:Arguments}{body e:Expr}{scope:Scope}{lp p pos kp:Pos}{fq:List Str}{js:List Nat}{x:Str}{ta:TA}{te:TE}{c0 P:Addr}{k:Nat}
def Qe(C:dF (k+2) X.A)(T:154#([x]))(B:101#x)(hg:Gl X "min")(d:X.mg "min"=none)(hcode:X.env.code = .ref c0)(hK:PySem.W.codeHdIn X.K c0 P=true)(E:PA X [e] ta)
 (he:∀f c s H,dF k (vG X ([x]++fq) scope f c X.A.in1 s H).A->PE (vG X ([x]++fq) scope f c X.A.in1 s H) body te)
 (O:∀c ctv u,bindArgs (57#C1) ⟨[u],[]⟩=pure [(x,u)]:=by intro _ _ _;rfl) (hco:scope.isCoroutine=false:=by rfl) (hgen:scope.isGenerator=false:=by rfl)
 (hdef:defaultsOf params X.env=([],[]):=by rfl)
 (W:179#9#([e])=25#e::179#9#([]):=by rfl) (hs2:(179#9#([e])).any (·.1)=false:=by rfl) :
 PE X (.Call (.Name "min" p) [e] [⟨some (Str.ofString "key"),.Lambda params body scope lp,kp⟩] pos) (VP X.K P (X.env.qual ++ "<lambda>") lp ta te js):=by
 show 47;show 174#(jO I hg d boot_min (callWith_kw (c6 (E pos S s U H _ I h) λg s1 D=>?_) W hs2 rl rl))
 revert D;show aD λvs N A r1=>fy λa kvs ks=>eV λTc hda hne hP hturn Td=>?_;subst Tc
 show af (λu r rx=>?_) (vals1 r1);subst r
 cases rx;show kws_cons (C2 A T hcode hK hP hdef λf c oc ctv w L ID hoc J=>kws_nil ?_)
 have hname:(toString "min" ++ toString ".loop")="min.loop":=by decide
 have hla:=uq (oc:=oc) hP L hda 148#0 148#0
 show bG (λm hsys xs pr=>bO λob es ep hgo hex hdat hes hnd=>?_) (J.hok a _ hla)
 have J2:=J.Qd hla hgo;have hsz:es.size=kvs.length:=by
  have:=k! List.length hes;rw[χ,<-pr.length]at this
  simpa using this
 have hxs:=pr.length.symm;have hka:∀i,i<kvs.length->∃Y y,kvs[i]?=some Y/\xs[i]?=some y/\gP N P c oc (X.env.qual ++ "<lambda>") lp y.2.1=15#(Y.1.map kV):=λi hi=>by
  have t:=z! hi;have e2:xs[i]?=some (xs[i]'(by lia)):=z! _
  show aq _ _ t e2 ((i9 pr t e2).2.1)
 have Te:gP N P c oc (X.env.qual ++ "<lambda>") lp P=62#(dU (X.env.qual ++ "<lambda>") lp++qB lp c):=aa;have Qf:gP N P c oc (X.env.qual ++ "<lambda>") lp c=some (.p7 oc (.own P)):=by unfold gP;rw[ao ID,aa]
 have ca:=bL Qf hla 12#0
 have pa:=bL Te hla 12#0
 generalize VQ:η (gP N P c oc (X.env.qual ++ "<lambda>") lp) a (.p7 ob (.dT kvs))=G at J2;have at2:∀b u,b≠a->gP N P c oc (X.env.qual ++ "<lambda>") lp b=some u->G b=some u:=λb u n e=>by rw[<-VQ,ao n];show e
 have a2:G a=some (.p7 ob (.dT kvs)):=by rw[<-VQ,aa]
 let ka:Nat->Addr:=λi=>((xs[i]?).map (·.2.1)).getD 0
 have Tf:∀{i:Nat} {y:List Key×Addr×Value},xs[i]?=some y->ka i=y.2.1:=λ{i y} e=>by change((xs[i]?).map (·.2.1)).getD 0=_;rw[e];rfl
 show kmk_tree PySem.F.kind_min PySem.F.plain_min PySem.F.entry_min (kmk_min_key _ _) ?_;show aU (wpAny_of_eq (rfl) ?_);show aU (Θ (aU (Ni hsys (au ob hgo hex hdat) (aU (wpAny_newList ?_ (r! _))))));rw[hname];show Θ ⟨plainId_quiet o? _,?_⟩;generalize Zy:({ cls:=.type "dict_keyiterator",data:=.fields #[.ref a,.int 0 0,.int es.size 0,.int ep 0]}:Obj)=oI;have Zz:WX oI a 0 es.size ep:=by rw[<-Zy];show 196#0
 have hS:82#0=w.heap.objs.size+1:=size_push' ..;have hk2:∀b o,48#w.heap.get?->48#((w.heap.push oI).push (seqObj "list" #[] 0)).get?:=λb o e=>c! _ (c! _ e)
 have gI:((w.heap.push oI).push (seqObj "list" #[] 0)).get? w.heap.objs.size=some oI:=c! _ (v! _ (by rw[<-Zy];rfl))
 have gS:((w.heap.push oI).push (seqObj "list" #[] 0)).get? 82#0=some (seqObj "list" #[] 0):=v! _ rfl;have UC:∀p∈(f,57#fJ)::S,p.1<w.heap.objs.size:=λp M=>a! (J2.pin p (jd _ M)).1
 have X6:=J2.Nj (Ξ w.heap.objs.size);have oS:=J2.Nj (b:=82#0) (by rw[hS];show Q! _)
 have F:F4 X U G params body scope fq js x te f c a w.heap.objs.size 82#0 oc ob ctv kvs es ep ka ks P:=by
  show⟨T,B,C.hd,(C.in1).depth,(C.in1).E1,λu=>O c ctv u,hco,hgen,λs H=>he f c s H ((C.in1).deeper _),hoc,at2 c _ ca Qf,a2,⟨hex,hdat⟩,λi e hi=>?_,λi H3 hi zq=>?_,oS,X6,by rw[hS];show _a _,?_,n! 55#UC⟩
  .have hi' : i<kvs.length:=by rw[<-hsz];show(N_.mp hi).1
   show aD (λY y t e2 _=>?_) (hka i hi')
   have R:=k! (λl=>l[i]?) hes
   simp only[d!,e2,l_,_v]at R;rw[hi]at R;have e4:=20#R;rw[e4,Tf e2];rfl
  .show aD (λY y t e2 R=>?_) (hka i (by lia))
   show hturn ob H3 (λb u q nb n1 n2=>zq _ _ (at2 b u nb (uq hP L q n1 n2))) (zq _ _ a2) i Y (ka i) t ?_
   rw[Tf e2];show zq _ _ (at2 _ _ (bL R hla 12#0) R)
  .rw[hS];show n! (T? 55#UC)
 have pI:∀p∈S,p.1≠w.heap.objs.size:=λp M=>n! (UC p (.tail _ M))
 have pS:∀p∈S,p.1≠82#0:=λp M=>by rw[hS];show n! (T? (UC p (.tail _ M)))
 have J3:θ X (nQ S 82#0 w.heap.objs.size f (seqObj "list" #[] 0) oI (57#fJ)) U G { w with heap:=(w.heap.push oI).push (seqObj "list" #[] 0)}:=by
  have K:=J2.kept (t':=w.toks) hk2;show K.gT λp M=>?_
  show 31
  .show dD gS (J2.hok.fresh (by rw[hS];show Q! _)) oS.2.1 oS.2.2.1 198#0
  .show 31
   .show dD gI (J2.hok.fresh (Ξ _)) X6.2.1 X6.2.2.1 λv z=>by rw[Zz.2]at z;cases z
   .show K.pin p (jd _ M)
 have h0:0<es.size:=by lia
 have hget:=Array.getElem?_eq_getElem h0;have X7:=J3.pin (82#0,seqObj "list" #[] 0) 55#jd;have X8:=J3.pin (w.heap.objs.size,oI) (jd _ 55#.tail);show 158#t_;rw[Around.under_plainId o? _];show aU (wpAny_seqItems X7.1 rfl ?_);show aU (U? (vI X8.1 Zz (au ob (hk2 _ _ hgo) hex hdat) ?_));rw[hget];intro h' X9 hgi hk' sb;have I4:=J3.jF (t':=w.toks) (pb:=nQ S 82#0 w.heap.objs.size f (seqObj "list" #[] 0) X9 (57#fJ)) F.oI 55#List.Mem.tail (λb u O e=>(sb.2 b O).trans e) (λp M=>by
  show 31
  .show .inr ⟨.head _,F.SI⟩
  .show 31
   .show .inl (bF rl hgi (λv z=>by rw[hk'.2]at z;cases z))
   .show 31
    .show .inr ⟨.tail _ 55#.tail,F.fI⟩
    .show .inr ⟨.tail _ (.tail _ (.tail _ M)),pI p M⟩)
 rw[F.key 0 _ hget];show aU (U? (F! (p! (C6 F h0 (ak.refl _) I4 (List.Mem.tail _ 55#.tail)) (λu s3 hu=>?_) λ_ _ z=>z)))
 revert hu;show gF λd2 H4=>iI λTg I5 hs4 _ hd2=>?_;subst Tg
 have Rv:=I5.pin (82#0,_) 55#jd;have s1':=i? s3.heap 82#0 105#(#[.ref (ka 0),.ref d2])
 obtain⟨n2,hn2⟩:∃n2,(s3.heap.update 82#0 105#(#[.ref (ka 0),.ref d2])).get? 82#0=some (seqObj "list" #[.ref (ka 0),.ref d2] n2):=⟨_,get?_update_seq Rv.1 λ_=>#[.ref (ka 0),.ref d2]⟩
 show aU (wpAny_updateSeq Rv.1 rfl ?_);rw[hname];have I6:=I5.jF (t':=s3.toks) (pb:=nQ S 82#0 w.heap.objs.size f (seqObj "list" #[.ref (ka 0),.ref d2] n2) X9 (57#fJ)) F.oS (.head _) (λb u O e=>(s1'.2 b O).trans e) (λp M=>by
  show 31
  .show .inl (bF rl hn2 (198#0))
  .show 31
   .show .inr ⟨.tail _ (.head _),F.SI.symm⟩
   .show 31
    .show .inr ⟨.tail _ 55#.tail,F.fS⟩
    .show .inr ⟨.tail _ (.tail _ (.tail _ M)),pS p M⟩)
 show Θ ⟨plainId_quiet o? _,Nl F pI pS (λi Z H3 hi best zq I7=>?_) _ 1 0 _ H4 d2 n2 X9 rl h0 (X? _) hs4 I6 hk' hd2 λj hj=>?_⟩
 .show aD (λY y t e2 R=>?_) (hka i (by lia))
  have i3:=zq _ _ a2;have I8:=θ.VO J hla I7 i3;have p3:η H3 a (.dT kvs) P=62#(dU (X.env.qual ++ "<lambda>") lp++qB lp c):=by rw[ao pa];show zq _ _ (at2 _ _ pa Te)
  have c3:η H3 a (.dT kvs) c=some (.p7 oc (.own P)):=by rw[ao ca];show zq _ _ (at2 _ _ ca Qf)
  have I9:=C3 A hP L ID hoc I8 p3 c3;have ya:=bL R hla 12#0
  have y3:η H3 a (.dT kvs) y.2.1=15#(Y.1.map kV):=by rw[ao ya];show zq _ _ (at2 _ _ ya R)
  show aq (.ref (ka i)) _ I9 rl (Td i Y (ka i) _ t (λj hj=>best j (by lia)) (C4 hP L ID (oc:=oc) λb u q=>?_) ?_)
  .by_cases O:b=a
   .subst O;rw[hla]at q
    rwa [aa]
   .rw[ao O];show zq _ _ (at2 _ _ O q)
  .rw[Tf e2];unfold given
   rwa [ao (bL y3 p3 12#0),ao (bL y3 c3 12#0)]
 .have e:j=0:=by lia
  rw[e];show HT.fZ _
end
section
variable     {s:Shared}
def Th(J:133#a):MeetsIn P w (Builtin.«dict.__len__» ⟨[.ref a],[]⟩) (λ_ R s=>∃W E,WW s.heap a W E/\R (161#(.int W.size s.toks)) { s with toks:=s.toks+1}) :=
 .of_wp λA R s ⟨W,E,⟨o,Y,_,b⟩,h⟩=>by
  show 172#(dictSize a >>= _);show aU (aU (wpAny_dictEntries Y b (Θ ?_)));show aU (wpAny_pendingCount_other J (wpAny_ret_mkInt ?_));rw[Nat.add_zero];show h
def Ka(J:133#a)(g:WW s.heap a W b)(c:(W.size:Int)<2^63)(h:Q (.int W.size (s.toks+1)) { s with toks:=s.toks+1+1}):
 74#(call (.builtin "len") [.ref a]):=by
 have j:s.TypeIs (.ref a) "dict":=let⟨o,ho,hc,_⟩:=g;(ae o ho hc.1);show Calls.call_function_entry kind_len plain_len entry_len (args_len1 _) ?_;show aU (Θ ?_);show aU (wpAny_callSpecial?_slot j PySem.F.slot_dict_len
  (call_meetsIn PySem.F.slot_dict_len j PySem.F.entry_dict_len (PySem.F.args_dict_len_1 _) (Th J) (bf W b g ?_)))
 show aU (F! (Θ (aU (wpAny_letGo ?_))));rw[ξ (by lia)]
 rw[ξ (by lia)]
 show aU (wpAny_mkInt (Θ (ae _ rl h)))
end
theorem erase_filter{K m:Type}[DecidableEq K]{k}{p}:∀{xs:List (K×m)} {j},(xs.map (·.1)).Nodup->xs[j]?=some (k,p)->xs.eraseIdx j=xs.filter λx=>13#(x.1≠k)
 | [],j,_,h=>by simp at h
 | x::r,0,nd,h=>by
   simp at h;subst h;rw[l!,P!]at nd;rw[List.eraseIdx_cons_zero,G!,ξ 22#0]
   show(List.filter_eq_self.mpr λy W=>?_).symm
   have z:y.1≠k:=λz=>nd.1 (U'.mpr (ae y W z))
   simp[z]
 | x::r,j+1,nd,h=>by
   rw[l!,P!]at nd;have h:r[j]?=some (k,p):=by simpa using h
   have B:x.1≠k:=λz=>nd.1 (by rw[z];show S? (fP h))
   rw[_n,G!,ο (e8 B),erase_filter nd.2 h]
theorem oz{m c:Type}(f:m->c):∀(l:List m) i,(l.map f).eraseIdx i=(l.eraseIdx i).map f
 | [],_=>rfl
 | _::_,0=>rfl
 | x::r,i+1=>by rw[l!,_n,_n,l!,oz f r i]
def KT.drop(r:KT H L xs)(k):KT H (cG L k) (xs.filter λx=>13#(x.1≠k)):=by
 unfold cG
 induction r with
 | nil=>show .nil
 | @cons p q i s h t G =>
   rw[G!,G!]
   by_cases e:p.1=k
   .rw[ξ (by simp[e]),ξ (by simp[h.1.symm.trans e])];show G
   .have D : ¬ q.1=k:=λz=>e (h.1.trans z)
    rw[ο (by simp[e]),ο (by simp[D])];show .cons h G
section
variable {P:Program}{w:World}{A:Around}  {s:Shared}{K:Type}[DecidableEq K]{knd:HeapKind P w K}
def Ti(c:knd.room A)(f:knd.is s.heap k b)(n:s.heap.DictOfH knd d xs)(D:xs[j]?=some (k,p))(x:36#xs.length)
 (h:∀e h' S y Z,e.val=p.2->h'.get? d=some S->S.ExactDict->S.data = .dict y Z->y.toList=(xs.eraseIdx j).map (entryOfKey knd)->213#d->Q (some e) { s with heap:=h',toks:=s.toks+knd.draws k}) :
 74#(Builtin.Dict.takeOut d (.ref b)):=by
 revert n;show fy λo W m=>eV λY L J T a g=>?_
 unfold Builtin.Dict.takeOut
 try with_reducible show F! ?_
 show aU (knd.pyHash c f (aU (wpAny_dictFind_heap c f Y J T a g (λG=>absurd D (G j p)) λB F v=>?_)))
 have i:=idxH_unique g v D;subst i;show aU (wpAny_dictEntries Y J ?_);rw[entry_at T B,D];show aU (wpAny_updateDictKeys (hz:=by have e:=size_of_entries T;lia) Y J (Θ (h _ _ _ _ (m+1) rl (Q? _ Y (Obj.isFreed_of_dict (Obj.data_mapDictKeys J _))) (L.mapDictKeys _) (Obj.data_mapDictKeys J _) ?_ (i? ..))))
 rw[<-oz,<-T];obtain⟨l⟩:=W;simp
def VR(c:knd.room A.in1)(f:knd.is s.heap k b)(m:s.heap.DictOfH knd d xs)(D:xs[j]?=some (k,p))(x:36#xs.length)
 (h:∀h' S y Z,h'.get? d=some S->S.ExactDict->S.data = .dict y Z->y.toList=(xs.eraseIdx j).map (entryOfKey knd)->213#d->Q p.2 { s with heap:=h',toks:=s.toks+knd.draws k}) :
 74#(call (.builtin "dict.pop") [.ref d,.ref b]):=by
 have q:=m.typeIs;show wpAny_call_entry _z q PySem.F.entry_dict_pop ?_ (PySem.F.args_dict_pop_2 _ _);show aU (aU (wpAny_notOrdered_dict q ?_));show Θ ?_;show fy (λo W v=>eV λY L J T a g=>?_) (id m)
 have n:W.isEmpty=false:=by
  have e:=size_of_entries T;have i:=(iJ.mp D).1;rw[Array.isEmpty_eq_false_iff_exists_mem];show⟨W[j]'(by lia),Array.getElem_mem _⟩
 have i:(keyPart (Value.ref b)).isSome=false:=rfl;show aU (wpAny_dictEntries Y J (aU (Θ ?_)));rw[n];show aU (Ti c f m D x λe h' S y Z t U R l r u=>?_)
 show aU (wpAny_letGo (Θ (ae e.val rl ?_)));rw[t];show h h' S y Z U R l r u
end
section
variable {X:Cx}{pq:cF}{σ:St}{H:Hp}
def Yb:fB X (.builtin "len") (λxs H Q=>∃a L,xs=[.ref a]/\Rd H a (.dT L)/\Q (.int L.length) H):=by
 intro pq s σ H xs g Q I r h
 revert h;show aD λa L f e q=>?_;subst f
 show 164#(λu l rx=>?_);subst l
 cases rx;show bG (λz j v k=>bO λT W E c hex b d i=>?_) (e.ok I.hok)
 have x:W.size=L.length:=by
  have:=k! List.length d;rw[χ,<-k.length]at this
  simpa using this
 show Ka j (au T c hex b) (by rw[x];rw[sizeLine_eq]at z;lia) ?_
 rw[x];show 92#(.int L.length)
def Tj(t l:TE):TE:=λσ H Q=>t σ H λx N=>∃a,x = .ref a/\WV N a/\l σ N λy G=>∃L k b v,G a=some (.dT L)/\y = .ref b/\G b=15#(k.map kV)/\eU L k=some v/\Q v (η G a (.dT (cG L k)))
def Tn{A:Around}{k:List Key}(c:A.units+1<cLine)(I:5#s)(e:215#(.dT L))(B:H b=15#(k.map kV))(l:eU L k=some v)
 (h:∀n Z,θ X pq σ (η H a (.dT (cG L k))) Z->Δ v n->Q n Z):wpAny 8#0 A (call (.builtin "dict.pop") [.ref a,.ref b]) Q E s:=by
 show bG (λz J f O C=>?_) (MC I.hok e)
 have w:=O.val k;rw[l]at w;show af (λn o M=>?_) (jZ.some_of w)
 show af (λp G u=>?_) (nC.mp o)
 obtain⟨j,D⟩:∃j,f[j]?=some (k,p):=by
  show af (λy g i=>?_) (nC.mp G)
  have Y:=List.find?_some g;have d:=acW g;obtain⟨j,D⟩:=g? d;have t:=nB Y;show⟨j,by rw[D,<-t,<-i]⟩
 have i:=let⟨_,_,_,_,_,_,_,_,hn⟩:=C;hn;show VR (tupleKind_room_in1 c) (pL I.hok B) C D (by rw[<-O.length];show z) λN S y t m r d x P=>?_
 rw[u];show h n _ ?_ M;have F:∀b g,H b=some (.tup g)->η H a (.dT (cG L k)) b=some (.tup g):=λb g q=>150#(bL q e 12#0)
 rw[erase_filter i D]at x;show nJ I (by rw[e];show True.intro) P ⟨S,m⟩ (aX (b! (CG L k) z) J _ ((O.drop k).keeps F) (cg S y t m r d x ?_))
 show i.sublist (List.filter_sublist.map _)
def Nm(c:X.A.units+1<cLine)(Y:PE X o t)(T:PE X e C)(m:M1 X o "pop" J e D):PE X (.Call (.Attribute o "pop" J) [e] [] D) (Tj t C):=by
 intro pq s σ H Q I h;show wpAny_Call_method m.base m.few m.line ac8 _z PySem.F.type_dict_pop (c6 (Y pq s σ H _ I h) λu j=>aD λx N A rx=>aA λa P d n=>?_)
 subst P;show 124;show cW (λz S _=>?_) (FD A d)
 show bF z S ?_;rw[m.trees];show Calls.callWith_builtin rl (Calls.evalArgs_plain (Calls.spliced_cons (c6 (T pq j σ N _ A n) λp w=>eg λy=>cM λG f B L=>bO λk b v g i q l R=>?_)))
 show Calls.spliced_nil ?_;subst i;obtain rfl:p=Value.ref b:=B;show Tn c f g q l λE O F r=>aq v _ F r R
def To(j e:TE):TE:=λσ H Q=>∀p,H p=none->j σ (η H p (.dT [])) λy N=>e σ N λv G=>∃b k,y = .ref b/\G b=15#(k.map kV)/\G p=some (.dT [])/\Q (.ref p) (η G p (.dT [(k,v)]))
end
section
variable {X:Cx}
def Nn(c:X.A.units+1<cLine)(Y:PE X k tk)(a:PE X v e):PE X (.Dict [some k] [v] l) (To tk e):=by
 intro S s U H Q I q;have g:=138#(23#Ξ);have A:=I.laid (t':=s.toks) (λ_ _ q=>c! _ q) (Ξ _) (MF s.heap I.big)
 rw[arm_eval_Dict,zip_pairTrees [some k] [v] X.env l rl rfl,dictDisplay_pairs (pairTrees [some k] [v] X.env l) 12#0 (show 1<17 by decide)]
 show aU (wpAny_standAt (aU ?_));show aU (wpAny_alloc (aU (F! ?_)));rw[ο (show 29#(pairTrees [some k] [v] X.env l)<=15 from(show 1<=15 by decide))]
 show aU (pairTrees_cons_walk (c6 (Y S _ U _ _ A (q _ g)) λu j=>aD λy N L B n=>?_))
 show c6 (a S j U N _ L n) λu2 w=>aD λh G F rv=>aY λb M i D E R=>?_
 show pairTrees_nil_walk ?_;subst i;obtain rfl:u=Value.ref b:=B;show bG (λz J f rel C=>?_) (MC F.hok E)
 cases rel;show F! (aU ?_);rw[List.forIn_cons];show aU (aU (wpAny_dictSet_heap (Nat.lt_of_succ_lt c) (pL F.hok D) C λh' t W=>Θ ?_))
 change wpAny _ _ (forIn [] PUnit.unit _) _ _ _;rw[List.forIn_nil];show Θ (Θ (Θ (Θ ?_)))
 revert t;show fy λP T Z=>eV λm r d x p o=>?_
 have O:η G s.heap.objs.size (.dT [(M,h)]) b=15#(M.map kV):=by
  rwa [ao (bL D E 12#0)]
 have new:dm X.prog X.w (η G s.heap.objs.size (.dT [(M,h)])) h' s.heap.objs.size (.dT [(M,h)]):=aX (show 1<=sizeLine by decide) J [(M,b,u2)] 117#(bF rl O rv) (cg P T Z m r d x o)
 show aq (23#.ref) _ (nJ F (by rw[E];show True.intro) W ⟨P,m⟩ new) rl R
end
end L2
namespace HT
open PySem PyProof.Rows
def Qg(a b c d:Int):Bool:=if a=c then(if b=d then true else decide (b<=d)) else decide (a<=c)
def AZ(a b c d):Qg a b c d=true↔a<c\/(a=c/\b<=d):=by
 unfold Qg
 by_cases h:a=c
 .rw[ο h]
  by_cases R:b=d
  .rw[ο R];simp[h,R]
  .rw[ξ R];simp only[decide_eq_true_eq];lia
 .rw[ξ h];simp only[decide_eq_true_eq];lia
def Np(A)(s)(a)(t)(c)(u)(prog)(w)(E)(Q)(h:Q (.bool (decide (a<=c))) s):
 52#(richCompare .LtE (.int a t) (.int c u)) :=
 (PyProof.Rows.le_int h)
section
open PySem.SeqAt
open PySem.AutoSeq1 (wpAny_loadPart')
open PySem.MeetsSeq PySem.MeetsSeq2 PySem.MeetsSeq3
def Kc(l b:Addr)(p a:Array Value)(n e:Nat)(c d:184#0)(i f:Array (Option Value))(N G z v:Int)(t1 F S U:Tok)(I:p.toList=[.int N t1,.int G F])(D:a.toList=[.int z S,.int v U]):
 Meets (Builtin.«tuple.__le__» ⟨[.ref l,.ref b],[]⟩)
  (λ_ R s=>s.heap.get? l=some { cls:=.type "tuple",dict:=c,data:=.seq p n,slots:=i}/\16#{ cls:=.type "tuple",dict:=d,data:=.seq a e,slots:=f}/\
   R (161#(.bool (Qg N G z v))) s) :=
 .of_wp λL w A R s h=>by
  obtain⟨M,g,d,j,os⟩:=s;revert h;show cW λP O h=>?_
  have Q:=AutoSeq1.sub_tuple_tuple;have l:p.size=2:=by rw[<-f_,I];rfl
  have X:a.size=2:=by rw[<-f_,D];rfl
  wp_walk using 173#P,173#O,wpAny_forIn_list _ (λH b Z=>b.1=none/\Z=177#j/\
   ((H=[((Value.int N t1),(Value.int z S)),(.int G F,.int v U)]/\R (161#(.bool (Qg N G z v))) 177#j)\/
    (H=[((Value.int G F),(Value.int v U))]/\R (161#(.bool (if G=v then true else decide (G<=v)))) 177#j)\/(H=[]/\R (161#(.bool true)) 177#j))) _
  case turn =>
   intro f H b Z;show cW λi r k=>?_;obtain⟨y,x⟩:=f;subst r
   obtain⟨a,c,t,u,b,W,B,J,o⟩:∃(a c:Int) (t u:Tok) (b:Bool),y = .int a t/\x = .int c u/\R (161#(.bool (if a=c then b else decide (a<=c)))) 177#j/\
    (R (161#(.bool b)) 177#j->(H=[((Value.int G F),(Value.int v U))]/\R (161#(.bool (if G=v then true else decide (G<=v)))) 177#j)\/(H=[]/\R (161#(.bool true)) 177#j)):=by
    rcases k with⟨m,J⟩|⟨m,J⟩|⟨m,_⟩
    .injection m with E C
     obtain⟨W,B⟩:=Prod.mk.inj E;show gR N z (aV t1 S _ W B J λe=>.inl ⟨C,e⟩)
    .injection m with E C
     obtain⟨W,B⟩:=Prod.mk.inj E;show gR G v (aV F U true W B J λe=>.inr ⟨C,e⟩)
    .cases m
   subst W B;show af (λe T Y=>?_) (Cc A.in1 177#j a t c u)
   show 157#(T L w _ _ ?_);cases e with
   | true =>
     rw[ο (Y.mp rl)]at J
     wp_walk
     show bF rl rl (.inr (o J))
   | false =>
     rw[ξ (λq=>absurd (Y.mpr q) w!)]at J
     have m:=Np A.in1 177#j a t c u L w
     wp_walk using m
     show ae _ rl (by simpa using J)
  case fin =>
   intro t Z;show cW λi a k=>?_;obtain⟨o,u⟩:=t;subst a
   subst i;rcases k with⟨m,_⟩|⟨m,_⟩|⟨_,J⟩
   .cases m
   .cases m
   .wp_walk
    show ae _ rl ?_
    simpa[Builtin.Tuple.tupleCompareSizes,l,X]using J
  case h =>
   show bF rl rl (.inl ⟨?_,h⟩);rw[I,D];rfl
end
section
variable   {A:Around}  {s:Shared}
def Nq(P:IsTup s.heap l p)(O:IsTup s.heap b f)(I:IntsAre p.toList [N,m])(D:IntsAre f.toList [z,v])
 (y:A.units<cLine) (h:Q (.bool (Qg N m z v)) s):52#(compareOp .LtE (.ref l) (.ref b)):=by
 show cM (λH Y L n J=>?_) (id P);obtain⟨X,C,R,i⟩:=H
 show cM (λM k e B o=>?_) (id O);obtain⟨W,d,data2,g⟩:=M
 subst L J e o;have two:∀{F:70#0} {a c:Int},IntsAre F [a,c]->∃t u,F=[.int a t,.int c u]:=λ{F a c} q=>by
  cases q with
  | cons n t r=>cases r with
    | cons j T G=>cases G;show gR t T rfl
 show gF (λG r j=>?_) (two I)
 show gF (λS T U=>?_) (two D)
 show richCompare_meets_room (op:=.LtE) (ae _ Y rl) (ae _ k rl) PySem.F.slot_tuple_le PySem.F.entry_tuple_le (PySem.F.args_tuple_le_2 _ _) (Kc l b p f n B C d i g N m z v G r S T j U)
  (bF Y k (show Value.bool (Qg N m z v)≠Value.notImplemented/\Q (.bool (Qg N m z v)) s from⟨(λx=>nomatch x),h⟩)) y
end
end HT
namespace L2
open PySem PySem.Spec PyProof.Rows
section
variable {X:Cx}
def Yc(K:cu):R2:=λx y H Q=>∃a b N G z v,x = .ref a/\y = .ref b/\aZ K H a [.int N,.int G]/\aZ K H b [.int z,.int v]/\Q (.bl (HT.Qg N G z v)) H
def Tp(c:X.A.units<cLine):jQ X 137#.LtE (Yc X.K):=by
 show 58
 revert h;show fy λa b N=>bO λG z e P t E O q=>?_;subst P t
 cases rx;cases B;show aA (λC J W _=>?_) (I.tuple E)
 show aA (λw d g _=>?_) (I.tuple O)
 show HT.Nq W g (intsAre_of J) (intsAre_of d) c (aq (.bl (HT.Qg N G z e)) H I rl q)
end
abbrev F5:=List (Addr×Str×Pos)
structure TabsOk(K:cu)(h:Heap)(tb:F5):Prop where
 nd:(tb.map (·.1)).Nodup
 mt:∀p∈tb,h.get? p.1=some (PySem.W.tabObj #[])
 code:∀p∈tb,∃c,PySem.W.CodeHd h c p.1
 out:∀p∈tb,K.lookup p.1=none
def TabsAt(tb:F5)(H:Hp):Prop:=∀p∈tb,H p.1=62#(dU p.2.1 p.2.2)
def F6(tb:F5):Hp:=λb=>(tb.find? λp=>p.1==b).map λp=>.gQ (dU p.2.1 p.2.2)
def nR(e:F6 tb b=some u):∃p∈tb,p.1=b/\u = .gQ (dU p.2.1 p.2.2):=by
 show af (λp Z R=>?_) (nC.mp e)
 have l:=List.find?_some Z;show au p (acW Z) (eq_of_beq l) R.symm
theorem A0:∀{tb},(tb.map (·.1)).Nodup->TabsAt tb (F6 tb)
 | [],_=>λp M=>nomatch M
 | q::r,nd=>λp M=>by
   rw[l!,P!]at nd;show 31
   .unfold F6;rw[List.find?_cons_of_pos 22#0];rfl
   .have G:(q.1==p.1)=false:=99#(λz=>nd.1 (by rw[z];show S? M))
    unfold F6;rw[List.find?_cons_of_neg (by rw[G];show w!)]
    show A0 nd.2 p M
def Kd{K:cu}{B:Shared}{vs:70#0}
 (A:K.In B.heap) (Q:TabsOk K B.heap tb) (i:166#B.heap.Ns) (O:B.heap.Ns builtinsNs l) (R:∀x:Str,x≠"__name__"->l x=bootBuiltins x) (hlim:B.heap.NoLimit)
 (X:∃g ob,mg "__builtins__"=some (.ref g)/\g≠builtinsNs/\B.heap.get? g=some ob/\ob.cls = .type "module"/\ob.dict=some builtinsNs/\ob.data = .plain) (Y:B.gens = #[])
 (E:B.heap.get? a=some { cls:=.type "list",data:=.seq vs.toArray}) (I:IntsAre vs ns) (hl:36#ns.length) (C:dF k callerA)
 (F:∀base:Heap,K.In base->166#base.Ns->iM P w K mg base CX k N fd [x] sp) (U:∀s u,BindsTo s fd ⟨[u],[]⟩ [(x,u)])
 (y:∀H:Hp,TabsAt tb H->aI K H a (201#0)->sp [.ref a] H (λv _=>v = .bl true) λ_ _ _=>False)
 (L:∀H e Z,CX [] H B (λ_ _ _=>False) e Z->False) :
 codeAny (model P w) callerA (.call (.ref N) ⟨[.ref a],[]⟩) (λr Z=>r = 161#(.bool true)/\OldK B.heap Z.heap/\Z.os=B.os/\AllBare Z.gens) B:=by
 have G:=yG I;have Yd:=I.length;have I:∀p∈tb,p.1≠a:=λp M z=>by
  have:=Q.mt p M;rw[z,E]at this;cases this
 let s:HO:=.p7 { cls:=.type "list",data:=.seq vs.toArray} 69#(201#0)
 have x:∀H:Hp,aI K H a (201#0)->TabsAt tb H->lX P w H B.heap->(∀b u,H b=some u->(b=a/\K.lookup a=none/\u=s)\/∃p∈tb,p.1=b/\u = .gQ (dU p.2.1 p.2.2))->
  codeAny (model P w) callerA (.call (.ref N) ⟨[.ref a],[]⟩) (λr Z=>r = 161#(.bool true)/\OldK B.heap Z.heap/\Z.os=B.os/\AllBare Z.gens) B:=by
  intro H S j D t;have h:∀{b:Addr} {o:Obj},48#B.heap.get?->(∀f n,o.data≠.seq f n)->(∀f,o.data≠.fields f)->H b=none:=λ{b o} e J T=>by
   cases q:H b with
   | none=>rfl
   | some u =>
     rcases t b u q with⟨z,_⟩|⟨p,M,z,_⟩
     .rw[z,E]at e;cases e;show absurd rl (J _ _)
     .rw[<-z,Q.mt p M]at e;cases e;show absurd rl (T _)
  have c:∀{b:Addr} {m:xA},B.heap.Ns b m->(B7 B.heap H).Ns b m:=λ{b m}=>eu λo W f e d r=>⟨o,(aq W f (uC e (h e (by intro _ _ z;rw[d]at z;cases z) (by intro _ z;rw[d]at z;cases z))) d r)⟩
  have d:K.In (B7 B.heap H):=λb o e=>uC (A b o e) (by
   cases q:H b with
   | none=>rfl
   | some u =>
     rcases t b u q with⟨z,n,_⟩|⟨p,M,z,_⟩
     .rw[z,n]at e;cases e
     .rw[<-z,Q.out p M]at e;cases e)
  have m:Mod K mg (B7 B.heap H):=⟨d,c i,ae l (c O) R,(let⟨mc,h1,h2⟩:=hlim;(ae mc (c h1) h2)),
   let⟨g,ob,b1,b2,b3,b4,b5,b6⟩:=X;(bf g ob b1 (dD b2 (uC b3 (h b3 (by intro _ _ z;rw[b6]at z;cases z) (by intro _ z;rw[b6]at z;cases z))) b4 b5 b6))⟩
  have f:Al P w K mg (B7 B.heap H) callerA [] B H:=⟨rfl,m,λb o e=>OX e,o_ (Jf _ _),trivial,λb O=>absurd (show b∈([]) from O) 22#0,D,.of_eq Y⟩
  show codeAny_mono ((F _ d (c i)).run callerA [] B H ⟨[.ref a],[]⟩ [.ref a] [.ref a] _ _ C f (U B (.ref a)) 117#rl (y H j S)) λr Z h=>?_
  cases r with
  | error e=>show(L H e Z h).elim
  | ok c =>
    cases c with
    | next=>show 147#h
    | brk=>show 147#h
    | cont=>show 147#h
    | ret u =>
      revert h;show gF λv Y=>eV λos f l d g q=>?_
      have c:=q;subst c;obtain rfl:u=Value.bool true:=g;have all:∀b o,48#B.heap.get?->48#Z.heap.get?\/∃p∈tb,p.1=b/\∃i,Z.heap.get? b=some (PySem.W.tabObj i):=λb o e=>by
       cases q:H b with
       | none=>show .inl (l.keep b o e q (by intro z;show absurd (show b∈([]) from z) 22#0) 22#0)
       | some u =>
         rcases t b u q with⟨z,_,X⟩|⟨p,M,z,X⟩
         .rw[X]at q;obtain⟨t,_⟩:=D b _ q;obtain⟨U,_⟩:=d b _ (l.jN b _ _ q);rw[e]at t;cases t;show .inl U
         .rw[X]at q;obtain⟨c,R⟩:=l.l8 b _ q;show af (λi U _=>?_) (d b _ R)
          show .inr (ae p M (cD z i U))
      show e7 rl ⟨λb o e=>?_,λb o e=>?_⟩ os f
      .rcases all b o e with z|⟨p,M,z,i,U⟩
       .show .inl z
       .obtain⟨c,L⟩:=Q.code p M;have t:=Q.mt p M;subst z;rw[e]at t;cases t;show .inr (.inl ⟨(L.tab e).isCodeTable,(aS rl (#[]) i rl (by rw[U,Array.empty_append]))⟩)
      .rcases all b o e with z|⟨p,M,z,i,U⟩
       .show⟨o,z⟩
       .show⟨_,U⟩
 have c:∀{H:Hp} {b:Addr} {p},p∈tb->p.1=b->dm P w H B.heap b (.gQ (dU p.2.1 p.2.2)):=λ{H b p} M z=>ae (#[]) (by rw[<-z];show Q.mt p M) (.inl 34#(.inl rfl))
 cases Y:K.lookup a with
 | some o =>
   have e:=A a o Y;rw[E]at e;cases e;show x (F6 tb) (.inr (bZ _ vs.toArray _ Y (dD rl rl rl (by rw[B!,Yd];show hl) (by simpa using G)))) (A0 Q.nd) (λb u e=>?_) λb u e=>.inr (nR e)
   show aA (λp M z f=>?_) (nR e);subst f
   show c M z
 | none =>
   show x (λb=>if b=a then some s else F6 tb b) (.inl (.inr ⟨{ cls:=.type "list",data:=.seq vs.toArray},ο rfl⟩)) (λp M=>?_) (λb u e=>?_) λb u e=>?_
   .change(if p.1=a then some s else F6 tb p.1)=_
    rw[ξ (I p M)];show A0 Q.nd p M
   .by_cases O:b=a
    .have z:=(ο O).symm.trans e;cases z;subst O;show⟨E,(aS (by rw[χ];show hl) vs _ G E)⟩
    .have z:=(ξ O).symm.trans e;show aA (λp M X d=>?_) (nR z);subst d
     show c M X
   .by_cases O:b=a
    .have z:=(ο O).symm.trans e;show .inl (bF O Y ((20#z).symm))
    .show .inr (nR ((ξ O).symm.trans e))
def Nr{l:PySem.W.OpenLaw}{d:DefRec}{K:Params->cu}{CX:World->Lo}{sp:World->F5->Sp}{J:214#0}
 (g:l.most=some n) (U:n<=sizeLine) (m:d.params.defaults=[]) (C:dF k callerA)
 (D:∀w h,I w h->(K w.params).In h/\∀P∈J,h.get? P=some (PySem.W.tabObj #[]))
 (F:∀w mg N h,(K w.params).In h->166#h.Ns->mg d.name=some (.ref N)->
  ∃fd tb,((tb.map (·.1)).Nodup/\PySem.W.noTabs (K w.params)=true/\∀p∈tb,p.1∈J/\∃c,PySem.W.codeHdIn (K w.params) c p.1=true)/\(∀s u,BindsTo s fd ⟨[u],[]⟩ [(x,u)])/\
    ∀base:Heap,(K w.params).In base->166#base.Ns->iM l.prog w (K w.params) mg base (CX w) k N fd [x] (sp w tb))
 (y:∀w H a (ns:List Int) tb,ns.length<=n->TabsAt tb H->aI (K w.params) H a (201#0)->sp w tb [.ref a] H (λv _=>v = .bl true) λ_ _ _=>False)
 (L:∀w H s e Z,CX w [] H s (λ_ _ _=>False) e Z->False) :
 PySem.W.WalkO q W b I l.row.toRowW d [] (λf vs=>PySem.call f vs):=by
 show Att.Ce g m λw t B mg b N o s cd X a vs ns G Y r j i h l f E d=>?_
 obtain⟨A,i⟩:=D w _ Y;show aD (λfd tb j O r=>?_) (F w mg N _ A G.T.g h);obtain⟨g,R,b⟩:=j
 have Q:TabsOk (K w.params) B.heap tb:=⟨g,λp M=>i _ (b p M).1,λp M=>let⟨_,c,e⟩:=b p M;⟨c,PySem.W.codeHd_of_K A e⟩,λp M=>by
  cases e:(K w.params).lookup p.1 with
  | none=>rfl
  | some T =>
    have t:=A _ _ e;rw[i _ (b p M).1]at t;cases t;have z:=h_.mp R (p.1,PySem.W.tabObj #[]) (PySem.W.mem_of_lookupK e);show absurd (z) w!⟩
 show Kd A Q G.T.g G.T.b G.T.builtins G.T.nolimit G.T.bmain d l f (b! E U) C r O (λH j S=>y w H a ns tb E j S) λH e Z=>L w H B e Z
def gB(f:Str):Str:=f ++ ".<locals>." ++ "<lambda>"
structure F7(K:cu)(x qual:Str)(st:Stmt)(f:Addr)(fd:FuncData)(c0 P:Addr):Prop where
 ex:∃(oc:Value) (od:184#0) (kV doc pm:Value) (an:184#0) (ct:Value) (osl:Array (Option Value)),
  fd=PySem.W.fnOf x qual (eW st) (cO st) (aQ st) .none kV doc pm an (.ref c0) ct/\K.lookup f=some ⟨oc,od,.func fd,osl⟩/\PySem.W.codeIn K (.ref c0) qual=true
 kp:68#K
 hd:PySem.W.codeHdIn K c0 P=true
section
variable   {K:cu}    {st:Stmt}
def F7.ok(F:F7 K x B st f fd b e)(S:dH N i (aQ st))(len:61#i.length)
 (M:∀A outer s H vs Q E,dF k (A.deeper (envOfC B (aQ st) s.heap.objs.size f (.ref b)))->sp vs H Q E->
  67#(pY (nZ rA P w K mg base N B (aQ st) f (.ref b) A outer s H E).OL (cO st) t)):iM P w K mg base rA (k+1) f fd i sp:=by
 show fy (λl m kV=>dO λX z R j n a c p=>?_) F.ex;subst a
 show LN c p S len λA outer s H vs Q E C y=>?_
 show af (λt h q=>?_) (M A outer s H vs Q E C y)
 show ae t h.OL q
def F7.binds{i:List Str}(F:F7 K x B st f fd b e)
 (h:∀kV X z R d ct g,g.length=i.length->bindArgs (PySem.W.fnOf x B (eW st) (cO st) (aQ st) .none kV X z R d ct) ⟨g,[]⟩=pure (i.zip g)):Binds K fd i []:=by
 show fy (λl m kV=>dO λX z R ct n r c p=>?_) F.ex;subst r
 show .all (h kV X z R (.ref b) ct)
def Qh{kV doc pm ct}(l:K.lookup f=some ⟨oc,m,.func (PySem.W.fnOf x B (eW st) (cO st) (aQ st) .none kV doc pm R (.ref b) ct),n⟩)
 (c:PySem.W.codeIn K (.ref b) B=true) (k:68#K) (J:PySem.W.codeHdIn K b e=true):F7 K x B st f (PySem.W.fnOf x B (eW st) (cO st) (aQ st) .none kV doc pm R (.ref b) ct) b e :=
 ⟨pA oc m kV doc pm R ct (au n rl l c),k,J⟩
end
end L2
namespace RM
abbrev OW:=Nat->Bool->Option (Int×Nat)
def n7(F:OW)(x:Nat)(s:Bool)(d:Int×Nat):OW:=λy t=>if y=x/\t=s then some d else F y t
def F8(F:OW)(x:Nat)(s:Bool):OW:=λy t=>if y=x/\t=s then none else F y t
def fm(F)(x)(s)(d):n7 F x s d x s=some d:=ο 196#0
def dW(h : ¬(y=x/\t=s)):n7 F x s d y t=F y t:=ξ h
def A1(F)(x)(s):F8 F x s x s=none:=ο 196#0
def ur(h : ¬(y=x/\t=s)):F8 F x s y t=F y t:=ξ h
def Wz(N:Net)(L:Nat->Int)(m u v:Nat)(s:Bool)(z:Int)(e:Nat):Prop:=∃y,Wl N L m u y v s z e
structure Dj(N:Net)(L:Nat->Int)(m u:Nat)(F W:OW)(now:Option (Nat×Bool))(done:Nat->Nat->Prop):Prop where
 fw:∀x s d,F x s=some d->Wz N L m u x s d.1 d.2
 ww:∀x s d,W x s=some d->Wz N L m u x s d.1 d.2
 dj:∀x s d,W x s=some d->F x s=none
 le:∀x s d y t d',F x s=some d->W y t=some d'->d.1<=d'.1
 mx:∀x s d y t d',now=some (x,s)->F x s=some d->F y t=some d'->d'.1<=d.1
 cl:∀x s d k y,F x s=some d->k<N.n->Jn N k x y->(now=some (x,s)->done k y)->∃d',(F y (s^^10#0)=some d'\/W y (s^^10#0)=some d')/\d'.1<=d.1+L k
 st:∃d,(F u false=some d\/W u false=some d)/\d.1<=0
def Dj.start:Dj N L m u (λ_ _=>none) (n7 (λ_ _=>none) u false (0,0)) none (51#0):=by
 show⟨λ_ _ _ h=>(nomatch h),λx s d h=>?_,λ_ _ _ _=>rfl,λ_ _ _ _ _ _ h=>(nomatch h),λ_ _ _ _ _ _ h=>(nomatch h),λ_ _ _ _ _ h=>(nomatch h),ae (0,0) (.inr (fm _ _ _ _)) (r? _)⟩
 by_cases e:x=u/\s=false
 .obtain⟨rfl,rfl⟩:=e;rw[fm]at h;cases h;show⟨[],.nil⟩
 .rw[dW e]at h;cases h
def Dj.pop(h:Dj N L m u F W none (51#0))(e:W x s=some d)(b:∀y t l,W y t=some l->d.1<=l.1):Dj N L m u (n7 F x s d) (F8 W x s) (some (x,s)) (51#0):=by
 have r:=h.dj x s d e;have a:∀y t l,n7 F x s d y t=some l->(y=x/\t=s/\l=d)\/F y t=some l:=λy t l q=>by
  by_cases z:y=x/\t=s
  .obtain⟨rfl,rfl⟩:=z;rw[fm]at q;show .inl (bF rl rl ((20#q).symm))
  .rw[dW z]at q;show .inr q
 have I:∀y t l,F8 W x s y t=some l->¬(y=x/\t=s)/\W y t=some l:=λy t l q=>by
  by_cases z:y=x/\t=s
  .obtain⟨rfl,rfl⟩:=z;rw[A1]at q;cases q
  .rw[ur z]at q;show⟨z,q⟩
 have c:∀y t l,F y t=some l\/W y t=some l->n7 F x s d y t=some l\/F8 W x s y t=some l:=λy t l q=>by
  by_cases z:y=x/\t=s
  .obtain⟨rfl,rfl⟩:=z;rcases q with q|q
   .rw[r]at q;cases q
   .rw[e]at q;cases q;show .inl (fm _ _ _ _)
  .rw[dW z,ur z];show q
 show⟨λy t l q=>?_,λy t l q=>h.ww y t l (I y t l q).2,λy t l q=>?_,λy t l v S j q R=>?_,λy t l v S j g q R=>?_,λy t l k v q Y D J=>?_,?_⟩
 .rcases a y t l q with⟨rfl,rfl,rfl⟩|q
  .show h.ww _ _ _ e
  .show h.fw y t l q
 .obtain⟨z,q⟩:=I y t l q;rw[dW z];show h.dj y t l q
 .obtain⟨_,R⟩:=I v S j R;rcases a y t l q with⟨_,_,rfl⟩|q
  .show b _ _ _ R
  .show h.le _ _ _ _ _ _ q R
 .cases g;rw[fm]at q;cases q;rcases a v S j R with⟨_,_,rfl⟩|R
  .show r? _
  .show h.le _ _ _ _ _ _ R e
 .rcases a y t l q with⟨rfl,rfl,rfl⟩|q
  .show(J rl).elim
  .show af (λj R M=>?_) (h.cl y t l k v q Y D 121#0)
   show ae j (c _ _ _ R) M
 .show af (λj R M=>?_) h.st
  show ae j (c _ _ _ R) M
def Dj.put(h:Dj N L m u F W (some (x,s)) done)(e:F x s=some d)(Y:k<N.n)(U:0<=L k)(D:Jn N k x y)(r:F y (s^^10#0)=none)
 (n:∀l,W y (s^^10#0)=some l->d.1+L k<=l.1):Dj N L m u F (n7 W y (s^^10#0) (d.1+L k,d.2^^^2^k)) (some (x,s)) (λb O=>done b O\/(b=k/\O=y)):=by
 have I:∀v t l,n7 W y (s^^10#0) (d.1+L k,d.2^^^2^k) v t=some l->(v=y/\t=(s^^10#0)/\l=(d.1+L k,d.2^^^2^k))\/W v t=some l:=λv t l q=>by
  by_cases z:v=y/\t=(s^^10#0)
  .obtain⟨rfl,rfl⟩:=z;rw[fm]at q;show .inl (bF rl rl ((20#q).symm))
  .rw[dW z]at q;show .inr q
 have c:∀v t l,F v t=some l\/W v t=some l->∃j,(F v t=some j\/n7 W y (s^^10#0) (d.1+L k,d.2^^^2^k) v t=some j)/\j.1<=l.1:=λv t l q=>by
  rcases q with q|q
  .show ae l (.inl q) (r? _)
  .by_cases z:v=y/\t=(s^^10#0)
   .obtain⟨rfl,rfl⟩:=z;show ae _ (.inr (fm _ _ _ _)) (n l q)
   .show ae l (.inr (by rw[dW z];show q)) (r? _)
 show⟨h.fw,λv t l q=>?_,λv t l q=>?_,λv t l A S j q R=>?_,h.mx,λv t l p i q E a J=>?_,?_⟩
 .rcases I v t l q with⟨rfl,rfl,rfl⟩|q
  .obtain⟨f,w⟩:=h.fw x s d e;show⟨_,w.go Y D⟩
  .show h.ww v t l q
 .rcases I v t l q with⟨rfl,rfl,rfl⟩|q
  .show r
  .show h.dj v t l q
 .rcases I A S j R with⟨rfl,rfl,rfl⟩|R
  .have:=h.mx x s d v t l rl e q
   lia
  .show h.le _ _ _ _ _ _ q R
 .by_cases o:some (x,s)=some (v,t)->done p i
  .show af (λj R M=>?_) (h.cl v t l p i q E a o)
   show af (λf C B=>?_) (c _ _ _ R)
   show ae f C (M_ B M)
  .have g:=n? λz=>o λX=>absurd X z
   rcases J g with z|⟨rfl,rfl⟩
   .show absurd (λ_=>z) o
   .cases g;rw[e]at q;cases q;show ae _ (.inr (fm _ _ _ _)) (r? _)
 .show af (λj R M=>?_) h.st
  show af (λf C B=>?_) (c _ _ _ R)
  show ae f C (M_ B M)
def Dj.skip(h:Dj N L m u F W (some (x,s)) done)(e:F x s=some d)(U:0<=L k)(R:F y (s^^10#0)=some j\/(W y (s^^10#0)=some j/\j.1<=d.1+L k)):
 Dj N L m u F W (some (x,s)) (λb O=>done b O\/(b=k/\O=y)):=by
 show⟨h.fw,h.ww,h.dj,h.le,h.mx,λv t l p c q E a J=>?_,h.st⟩
 by_cases o:some (x,s)=some (v,t)->done p c
 .show h.cl v t l p c q E a o
 .have g:=n? λz=>o λX=>absurd X z
  rcases J g with z|⟨rfl,rfl⟩
  .show absurd (λ_=>z) o
  .cases g;rw[e]at q;cases q;rcases R with R|⟨R,M⟩
   .have:=h.mx x s d _ _ j rl e R;show ae j (.inl R) (by lia)
   .show ae j (.inr R) M
def Dj.all(h:Dj N L m u F W (some (x,s)) done)(E:∀k y,k<N.n->Jn N k x y->done k y):Dj N L m u F W none (51#0) :=
 ⟨h.fw,h.ww,h.dj,h.le,λ_ _ _ _ _ _ z=>(nomatch z),λv t d k y q Y D _=>h.cl v t d k y q Y D λz=>by cases z;show E k y Y D,h.st⟩
def Dj.best(h:Dj N L m u F W none (51#0))(n:∀x s,W x s=none)(x)(s):tI N L m u x s ((F x s).map (·.1)):=by
 have a:∀{y:List Nat} {v e:Nat} {t:Bool} {z:Int},Wl N L m u y v t z e->∃d,F v t=some d/\d.1<=z:=λ{y v e t z} w=>by
  induction w with
  | nil =>
    show af (λd q l=>?_) h.st
    rcases q with q|q
    .show ae d q l
    .rw[n]at q;cases q
  | @go y v w k e s z _ Y D G =>
    revert G;show af λd q l=>?_
    show af (λj R M=>?_) (h.cl _ _ d k _ q Y D 121#0)
    rcases R with R|R
    .show ae j R (by lia)
    .rw[n]at R;cases R
 cases q:F x s with
 | none =>
   intro z ⟨_,_,w⟩;show af (λd R _=>?_) (a w)
   rw[q]at R;cases R
 | some d =>
   obtain⟨y,w⟩:=h.fw x s d q;show⟨gR _ _ w,λz=>gF λ_ _ k=>?_⟩
   show af (λj R M=>?_) (a k)
   rw[q]at R;cases R;show M
end RM
namespace L2
open PySem Ring
abbrev ky(x:Nat)(s:Bool):List Key:=[.inl (x:Int),.inl (s.toNat:Int)]
def F9(h:ky x s=ky y t):x=y/\s=t:=by
 injection h with Z R
 injection R with R _
 injection Z with Z
 injection R with R
 show⟨by lia,?_⟩
 cases s<;>cases t<;>first | rfl | (simp at R)
def wV(H:Hp):Option (Int×Nat)->V->Prop
 | none,v=>v = .eM
 | some d,v=>∃c,v = .ref c/\H c=15#([.int d.1,129#d.2])
def wV.tups(h:wV H o v)(s:cK H Y):wV Y o v:=by
 cases o with
 | none=>show h
 | some d=>revert h;show af λc e q=>?_;show ae c e (s _ _ q)
structure vJ(p:Nat)(H0:Hp)(D wd:Addr)(es:214#0)(kvs:226#V)(F W:RM.OW)(H:Hp):Prop where
 same:ak H0 H
 nd:es.Nodup
 ne:D∉es
 fr:∀b∈es,H0 b=none
 Dn:H0 D=none
 wn:H0 wd=none
 wD:wd≠D
 wE:wd∉es
 lst:H D=4#(es.map V.ref)
 at_:∀i b,es[i]?=some b->∃v0 v1,H b=4#([v0,v1])/\wV H (F i false) v0/\wV H (F i true) v1
 dt:H wd=some (.dT kvs)
 kn:(kvs.map (·.1)).Nodup
 keys:∀kv∈kvs,∃x s,x<p/\kv.1=ky x s
 out:∀x s d,W x s=some d->x<p
 val:∀x s,(W x s=none/\eU kvs (ky x s)=none)\/∃d c,W x s=some d/\eU kvs (ky x s)=some (.ref c)/\H c=15#([.int d.1,129#d.2])
section
variable {p:Nat}{H0 H H' : Hp}{D wd:Addr}{es:214#0}{kvs:226#V}{F W:RM.OW}
def vJ.go(h:vJ p H0 D wd es kvs F W H)(s:ak H H'):vJ p H0 D wd es kvs F W H' :=
 ⟨h.same.trans s,h.nd,h.ne,h.fr,h.Dn,h.wn,h.wD,h.wE,s _ _ h.lst,λi b e=>let⟨v0,v1,a,b1,c⟩:=h.at_ i b e;(aq v0 v1 (s _ _ a) (b1.tups s.tups) (c.tups s.tups)),s _ _ h.dt,h.kn,h.keys,h.out,
  λx t=>(h.val x t).imp (λz=>z) <| aD λd c a b e=>aq d c a b (s _ _ e)⟩
def vJ.len(h:vJ p H0 D wd es kvs F W H):kvs.length<=2*p:=by
 have g:=h.kn;have Y:=h.keys
 let code:List Key->Nat:=λk=>match k with | [.inl x,.inl s]=>2*x.toNat+s.toNat | _=>0
 have j:∀a∈kvs.map (·.1),∀b∈kvs.map (·.1),code a=code b->a=b:=λa E b O e=>by
  show af (λu d f=>?_) (U'.mp E);subst f
  show af (λv m r=>?_) (U'.mp O);subst r
  show bh (λx s _ P=>?_) (Y u d)
  show bh (λy t _ i=>?_) (Y v m)
  rw[P,i]at e ⊢;have e:2*((x:Int)).toNat+((s.toNat:Int)).toNat=2*((y:Int)).toNat+((t.toNat:Int)).toNat:=e;rw[x!,x!,x!,x!]at e;have l:s.toNat<2:=by cases s<;>decide
  have n:t.toNat<2:=by cases t<;>decide
  have c:x=y:=by lia
  have U:s.toNat=t.toNat:=by lia
  have R:s=t:=by cases s<;>cases t<;>first | rfl | (simp at U)
  rw[c,R]
 have n:((kvs.map (·.1)).map code).Nodup:=by
  revert j
  generalize kvs.map (·.1)=l at g;intro j
  induction g with
  | nil=>show I_
  | @cons a l Z R G =>
    rw[l!,P!];show⟨λd=>?_,G λa E b O e=>j a (jx _ E) b (jx _ O) e⟩
    show af (λb O e=>?_) (U'.mp d)
    show Z b O (j a g! b (jx _ O) e.symm)
 have sub:∀c∈(kvs.map (·.1)).map code,c∈List.range (2*p):=λc L=>by
  show af (λa E t=>?_) (U'.mp L);subst t
  show af (λu d R=>?_) (U'.mp E);subst R
  show bh (λx s B P=>?_) (Y u d)
  rw[P,E!];change 2*((x:Int)).toNat+((s.toNat:Int)).toNat<2*p;rw[x!,x!];have l:s.toNat<2:=by cases s<;>decide
  lia
 have:=n.length_le_of_subset sub
 simpa using this
def vJ.row(h:vJ p H0 D wd es kvs F W H)(I:i<es.length):∃b g f,(es.map V.ref)[i]?=162#0/\es[i]?=some b/\H b=4#([g,f])/\wV H (F i false) g/\wV H (F i true) f:=by
 have e:=z! I;show aD (λg f a b c=>?_) (h.at_ i _ e)
 show cg (es[i]) g f (by rw[d!,e];rfl) e a b c
theorem rW [DecidableEq a](k j):∀kvs:List (a×V),eU (cG kvs k) j=if j=k then none else eU kvs j
 | []=>by rw[show cG ([]) k=[] from rfl,vg];split<;>rfl
 | q::r=>by
   by_cases e:q.1=k
   .rw[yY e,rW k j r]
    by_cases U:j=k
    .rw[ο U,ο U]
    .rw[ξ U,ξ U,c5 (λz=>U (z.symm.trans e))]
   .rw[yZ e]
    by_cases R:q.1=j
    .rw[dR R,ξ (λz=>e (R.trans z)),dR R]
    .rw[c5 R,rW k j r,c5 R]
def vJ.take(h:vJ p H0 D wd es kvs F W H)(e:W x s=some d)(L:H c=15#([.int d.1,129#d.2]))(O:es[x]?=some b)(G:H b=4#([g,f])):
 vJ p H0 D wd es (cG kvs (ky x s)) (RM.n7 F x s d) (RM.F8 W x s) (η (η H wd (.dT (cG kvs (ky x s)))) b 69#(([g,f]:List V).set s.toNat (.ref c))):=by
 have B:=fP O;have I:b≠wd:=λz=>h.wE (z▸B)
 have o:D≠b:=λz=>h.ne (z▸B)
 have k:cK H (η (η H wd (.dT (cG kvs (ky x s)))) b 69#(([g,f]).set s.toNat (.ref c))):=λa v q=>by
  rwa [ao (bL q G 12#0),ao (bL q h.dt 12#0)]
 show⟨(h.same.put h.wn).put (h.fr b B),h.nd,h.ne,h.fr,h.Dn,h.wn,h.wD,h.wE,by rw[ao o,ao (e! h.wD)];show h.lst,λi E Q=>?_,by rw[ao (e! I),aa],vm h.kn,λY j=>h.keys Y (y9 j),λy t w q=>?_,λy t=>?_⟩
 .by_cases m:i=x
  .subst m;rw[O]at Q;cases Q;show aD (λr u n R C=>?_) (h.at_ _ _ O)
   rw[G]at n;cases n;cases s with
   | false=>show aq (.ref c) f aa (by rw[RM.fm];show ae c rl (k _ _ L)) (by rw[RM.dW (λz=>by cases z.2)];show C.tups k)
   | true=>show aq g (.ref c) aa (by rw[RM.dW (λz=>by cases z.2)];show R.tups k) (by rw[RM.fm];show ae c rl (k _ _ L))
  .have U:E≠b:=λz=>by
    subst z;obtain⟨Z,R⟩:=iJ.mp Q;obtain⟨l,A⟩:=iJ.mp O;show m ((_Q h.nd).mp (R.trans A.symm))
   show aD (λr u n R C=>?_) (h.at_ _ _ Q)
   show aq r u (by rw[ao U,ao (show E≠wd from λz=>h.wE (z▸fP Q))];show n) (by rw[RM.dW (λz=>m z.1)];show R.tups k) (by rw[RM.dW (λz=>m z.1)];show C.tups k)
 .by_cases z:y=x/\t=s
  .obtain⟨rfl,rfl⟩:=z;rw[RM.A1]at q;cases q
  .rw[RM.ur z]at q;show h.out y t w q
 .rw[rW]
  by_cases z:y=x/\t=s
  .obtain⟨rfl,rfl⟩:=z;show .inl ⟨RM.A1 _ _ _,ο rfl⟩
  .rw[RM.ur z,ξ (λq=>z (F9 q))]
   rcases h.val y t with q|⟨w,A,n,R,C⟩
   .show .inl q
   .show .inr (aq w A n R (k _ _ C))
def vJ.wait(h:vJ p H0 D wd es kvs F W H){d:Int×Nat}(B:x<p)(L:H c=15#([.int d.1,129#d.2])):
 vJ p H0 D wd es (putK kvs (ky x s) (.ref c)) F (RM.n7 W x s d) (η H wd (.dT (putK kvs (ky x s) (.ref c)))):=by
 have k:cK H (η H wd (.dT (putK kvs (ky x s) (.ref c)))):=λa m q=>by
  rwa [ao (bL q h.dt 12#0)]
 have g:(∀Y∈putK kvs (ky x s) (.ref c),∃x s,x<p/\Y.1=ky x s)/\((putK kvs (ky x s) (.ref c)).map (·.1)).Nodup:=by
  cases q:eU kvs (ky x s) with
  | none =>
    show⟨λY j=>?_,PK _ h.kn q⟩
    rw[vh _ q]at j;rcases D!.mp j with z|z
    .show h.keys Y z
    .rw[q!.mp z];show bf x s B rfl
  | some v =>
    have b:(kvs.any λY=>13#(Y.1=ky x s))=true:=by rw[iD,q];rfl
    have e:putK kvs (ky x s) (.ref c)=kvs.map λY=>if Y.1=ky x s then(Y.1,.ref c) else Y:=by unfold putK;rw[ο b]
    have J:(putK kvs (ky x s) (.ref c)).map (·.1)=kvs.map (·.1):=by
     rw[e,L!];show X_ λY _=>?_
     change(if Y.1=ky x s then(Y.1,V.ref c) else Y).1=Y.1
     split<;>rfl
    show⟨λY j=>?_,by rw[J];show h.kn⟩
    have i:Y.1∈kvs.map (·.1):=by rw[<-J];show S? j
    show af (λf Z R=>?_) (U'.mp i)
    rw[<-R];show h.keys f Z
 show⟨h.same.put h.wn,h.nd,h.ne,h.fr,h.Dn,h.wn,h.wD,h.wE,by rw[ao (e! h.wD)];show h.lst,λi b O=>?_,aa,g.2,g.1,λy t l q=>?_,λy t=>?_⟩
 .show aD (λr u n R C=>?_) (h.at_ _ _ O)
  show aq r u (by rw[ao (show b≠wd from λz=>h.wE (z▸fP O))];show n) (R.tups k) (C.tups k)
 .by_cases z:y=x/\t=s
  .rw[z.1];show B
  .rw[RM.dW z]at q;show h.out y t l q
 .rw[MA]
  by_cases z:y=x/\t=s
  .obtain⟨rfl,rfl⟩:=z;show .inr (aq d c (RM.fm _ _ _ _) (ο rl) (k _ _ L))
  .rw[RM.dW z,ξ (λq=>z (F9 q))]
   rcases h.val y t with q|⟨l,A,n,R,C⟩
   .show .inl q
   .show .inr (aq l A n R (k _ _ C))
end
abbrev jW(m:Nat)(H:Hp)(c:Addr)(a:Nat×Nat):Prop:=H c=15#([129#a.1,129#a.2,129#(m.testBit a.1).toNat])
structure Ke(m:Nat)(H0:Hp)(D:Addr)(es:214#0)(S:Nat->143#Nat)(H:Hp):Prop where
 same:ak H0 H
 nd:es.Nodup
 ne:D∉es
 fr:∀b∈es,H0 b=none
 Dn:H0 D=none
 lst:H D=4#(es.map V.ref)
 at_:∀i b,es[i]?=some b->∃cs,H b=4#(cs.map V.ref)/\Paired (jW m H) cs (S i)
section
variable {m:Nat}{H0 H H' : Hp}{D b:Addr}{es:214#0}{S:Nat->143#Nat}{i:Nat}
def Ke.go(h:Ke m H0 D es S H)(s:ak H H'):Ke m H0 D es S H' :=
 ⟨h.same.trans s,h.nd,h.ne,h.fr,h.Dn,s _ _ h.lst,λi b e=>let⟨cs,a,q⟩:=h.at_ i b e;(ae cs (s _ _ a) (Paired.B6 q λ_ _ z=>s _ _ z))⟩
def vK(S:Nat->143#Nat)(x:Nat)(a:Nat×Nat):Nat->143#Nat:=λi=>if i=x then S i++[a] else S i
def Ke.get(h:Ke m H0 D es S H)(I:i<es.length):∃b g,(es.map V.ref)[i]?=162#0/\es[i]?=some b/\H b=4#(g.map V.ref)/\Paired (jW m H) g (S i):=by
 have e:=z! I;show af (λg a q=>?_) (h.at_ i _ e)
 show bC (es[i]) g (by rw[d!,e];rfl) e a q
def Ke.put(h:Ke m H0 D es S H){g:214#0}(O:es[i]?=some b)(u:H b=4#(g.map V.ref))(q:Paired (jW m H) g (S i))(L:jW m H c a):
 Ke m H0 D es (vK S i a) (η H b 69#(g.map V.ref++[.ref c])):=by
 have d:=fP O;have p:D≠b:=λz=>h.ne (z▸d)
 have k:∀c a,jW m H c a->jW m (η H b 69#(g.map V.ref++[.ref c])) c a:=λc a z=>by
  change η H b _ c=_
  rwa [ao (bL z u 12#0)]
 have o:∀x a,jW m H x a->jW m (η H b 69#(g.map V.ref++[.ref c])) x a:=λx a z=>by
  change η H b _ x=_
  rwa [ao (bL z u 12#0)]
 show⟨h.same.put (h.fr b d),h.nd,h.ne,h.fr,h.Dn,by rw[ao p];show h.lst,λj E Q=>?_⟩
 by_cases e:j=i
 .subst e;rw[O]at Q;cases Q;show ae (g++[c]) (by rw[aa];simp) ?_
  unfold vK;rw[ο rfl];show Paired.snoc (Paired.B6 q λ_ _ z=>o _ _ z) (o _ _ L)
 .have U:E≠b:=λz=>by
   subst z;obtain⟨Z,R⟩:=iJ.mp Q;obtain⟨l,A⟩:=iJ.mp O;show e ((_Q h.nd).mp (R.trans A.symm))
  show af (λf n R=>?_) (h.at_ j E Q)
  show ae f (by rw[ao U];show n) ?_
  unfold vK;rw[ξ e];show Paired.B6 R λ_ _ z=>o _ _ z
def Ke.off(h:Ke m H0 D es S H)(U:H L=none):L∉es:=λz=>by
 obtain⟨j,a⟩:=g? z;show af (λ_ q _=>?_) (h.at_ j L a)
 rw[U]at q;cases q
def Rx(m:Nat)(H0:Hp)(D:Addr)(i:Nat)(M:List V)(H:Hp):Prop:=∃es,M=es.map V.ref/\es.length=i/\Ke m H0 D es (λ_=>[]) H
def Rx.start(a:H0 D=none):Rx m H0 D 0 [] 97#H0 :=
 (au [] rl rl ⟨ak.new a,I_,i_,λ_ h=>(i_ h).elim,a,aa,λi b e=>by cases e⟩)
def Rx.len(h:Rx m H0 D i M H):118#H:=by
 revert h;show aA λes f e r=>?_;subst f
 show⟨r.lst,by rw[χ];lia⟩
def Rx.next(h:Rx m H0 D i M H)(O:H b=none):η H b (.lst []) D=220#0/\Rx m H0 D (i+1) (M++[.ref b]) (η (η H b (.lst [])) D 69#(M++[.ref b])):=by
 revert h;show aA λes o e r=>?_;subst o
 have a:D≠b:=λz=>by
  have:=r.lst;rw[z,O]at this;cases this
 have k:=r.off O;have E:=r.same.free O;show⟨by rw[ao a];show r.lst,(au (es++[b]) 22#0 (by simp[e]) ⟨(r.same.put E).put r.Dn,?_,?_,λc L=>?_,r.Dn,by rw[aa];simp,λj c L=>?_⟩)⟩
 .show _O.mpr (bF r.nd 22#0 (λx B y W=>by rw[q!.mp W];show λz=>k (z▸B)))
 .intro d;rcases D!.mp d with z|z
  .show r.ne z
  .show a (q!.mp z)
 .rcases D!.mp L with z|z
  .show r.fr c z
  .rwa [q!.mp z]
 .have f:c≠D:=λz=>by
   subst z;rcases D!.mp (fP L) with z|z
   .show r.ne z
   .show a (q!.mp z)
  show ae [] ?_ .nil;rw[ao f]
  by_cases d:c=b
  .rw[d,aa];rfl
  .rw[ao d]
   by_cases l:j<es.length
   .rw[d? l]at L;show af (λg n R=>?_) (r.at_ j c L)
    cases R;show n
   .rw[u? (by lia)]at L
    have:=fP L;show absurd (q!.mp this) d
end
structure Ry(N:RM.Net)(k:Nat)(S:Nat->143#Nat):Prop where
 mem:∀i kw,kw∈S i↔(kw.1<k/\RM.Jn N kw.1 i kw.2)
 len:∀i,(S i).length<=2*k
def Ry.start:Ry N 0 (λ_=>[]):=⟨λi a=>⟨λh=>(nomatch h),λh=>absurd h.1 (E? _)⟩,λ_=>r! _⟩
def Ry.next(h:Ry N k S):Ry N (k+1) (vK (vK S (N.a k) (k,N.b k)) (N.b k) (k,N.a k)):=by
 show⟨λi a=>?_,λi=>?_⟩
 .have o:∀(S:Nat->143#Nat) (x:Nat) (q:Nat×Nat),a∈vK S x q i↔a∈S i\/(i=x/\a=q):=λS x q=>by
   unfold vK
   by_cases e:i=x
   .rw[ο e,D!,q!];simp[e]
   .rw[ξ e];simp[e]
  rw[o,o,h.mem];obtain⟨b,w⟩:=a
  constructor
  .rintro((⟨Z,R⟩|⟨rfl,R⟩) | ⟨rfl,R⟩)
   .show⟨T? Z,R⟩
   .cases R;show⟨X? _,.inl 196#0⟩
   .cases R;show⟨X? _,.inr 196#0⟩
  .rintro⟨Z,R⟩
   by_cases e:b<k
   .show .inl (.inl ⟨e,R⟩)
   .have e:b=k:=by have:b<k+1:=Z;lia
    subst e;rcases R with⟨l,A⟩|⟨l,A⟩
    .show .inl (.inr ⟨l.symm,by have A:=A;rw[A]⟩)
    .show .inr ⟨l.symm,by have A:=A;rw[A]⟩
 .have o:∀(S:Nat->143#Nat) (x:Nat) (q:Nat×Nat),29#(vK S x q i)<=(S i).length+1:=λS x q=>by
   unfold vK
   split
   .simp
   .lia
  have Z:=o (vK S (N.a k) (k,N.b k)) (N.b k) (k,N.a k);have R:=o S (N.a k) (k,N.b k);have l:=h.len i
  lia
end L2
namespace RM
def left(F:OW):Nat->Nat
 | 0=>0
 | p+1=>left F p+(if(F p false).isNone then 1 else 0)+(if(F p true).isNone then 1 else 0)
theorem zu:∀{p},(∀x,x<p->∀s,F x s=G x s)->left F p=left G p
 | 0,_=>rfl
 | p+1,h=>by
   unfold left;rw[zu λx B=>h x (by lia),h p (by lia),h p (by lia)]
theorem C7(g:F x s=none):∀{p},x<p->left (n7 F x s d) p<left F p
 | 0,h=>absurd h (E? _)
 | p+1,h=>by
   unfold left
   by_cases e:x=p
   .subst e;rw[zu λy W t=>dW λz=>by lia]
    cases s with
    | false=>rw[fm,dW (λz=>by cases z.2),g];simp
    | true=>rw[fm,dW (λz=>by cases z.2),g];simp
   .have G:=C7 (d:=d) g (p:=p) (by lia)
    rw[dW (λz=>e z.1.symm),dW (λz=>e z.1.symm)]
    lia
end RM
namespace L2
open PySem Ring
def WY(W:RM.OW)(k:List Key):List Int:=match k with
 | [.inl x,.inl s]=>(match W x.toNat (decide (s=1)) with | some d=>[d.1,(d.2:Int)] | none=>[])
 | _=>[]
def Nt(h:W x s=some d):WY W (ky x s)=[d.1,(d.2:Int)]:=by
 have e:(13#(18#s.toNat=1))=s:=by cases s<;>rfl
 change(match W ((x:Int)).toNat (13#(18#s.toNat=1)) with | some d=>[d.1,d.2] | none=>[])=_
 rw[x!,e,h]
def Nu(W:RM.OW)(L:226#V)(i:Nat):List Int:=WY W ((L[i]?.map (·.1)).getD [])
def A2(h:HT.lexLt [a,b] [c,d]=false):c<=a:=by
 rw[HT.fg]at h
 by_cases e:a=c
 .lia
 .rw[ξ e]at h;have:=of_decide_eq_false h
  lia
theorem zv [DecidableEq a]:∀{kvs} {k:a} {v:V},(kvs.map (·.1)).Nodup->(k,v)∈kvs->eU kvs k=some v
 | [],_,_,_,h=>nomatch h
 | q::r,k,v,nd,h=>by
   rw[l!,P!]at nd;rcases Z'.mp h with e|h
   .subst e;show dR rfl
   .have G : ¬ q.1=k:=λz=>nd.1 (by rw[z];show S? h)
    rw[c5 G];show zv nd.2 h
def vJ.entry(h:vJ p Q D g f L F W H)(e:L[i]?=some Y):
 ∃x s d c,x<p/\Y.1=ky x s/\W x s=some d/\eU L (ky x s)=some (.ref c)/\Y.2 = .ref c/\H c=15#([.int d.1,129#d.2])/\Nu W L i=[d.1,(d.2:Int)]:=by
 have b:=fP e;show bh (λx s B J=>?_) (h.keys Y b)
 have a:eU L (ky x s)=some Y.2:=zv h.kn (by rw[<-J];show b)
 rcases h.val x s with⟨_,z⟩|⟨d,c,Z,R,l⟩
 .rw[a]at z;cases z
 .rw[a]at R;show bu x s d c B J Z (a.trans R) (bF (20#R) l ?_);unfold Nu;rw[e];change WY W Y.1=_;rw[J];show Nt Z
def vJ.find(h:vJ p Q D g f L F W H)(e:W x s=some d):∃i Y,L[i]?=some Y/\Y.1=ky x s/\Nu W L i=[d.1,(d.2:Int)]:=by
 rcases h.val x s with⟨z,_⟩|⟨b,c,Z,R,l⟩
 .rw[e]at z;cases z
 .have a:=PJ R;show af (λY j J=>?_) (U'.mp a)
  obtain⟨i,I⟩:=g? j;show aq i Y I J ?_;unfold Nu;rw[I];change WY W Y.1=_;rw[J];show Nt e
def vJ.start(f:F0 Q D W (λ_ _=>none) H)(l:u<p)(o:H g=some (.dT []))(k:Q g=none)(L:H c=15#([.int 0,.int 0])):
 vJ p Q D g W [(ky u false,.ref c)] (λ_ _=>none) (RM.n7 (λ_ _=>none) u false (0,0)) (η H g (.dT [(ky u false,.ref c)])):=by
 have a:g≠D:=λz=>by rw[z,f.lst]at o;cases o
 have h:g∉W:=λz=>by
  obtain⟨j,b⟩:=g? z;have:=f.at_ j g b;rw[o]at this;cases this
 show⟨f.same.put k,f.nd,f.ne,f.fr,f.Dn,k,a,h,by rw[ao (e! a)];show f.lst,λi b O=>?_,aa,by simp,λY j=>?_,λx s d e=>?_,λx s=>?_⟩
 .have Z:b≠g:=λz=>h (z▸fP O)
  show aq .eM .eM (by rw[ao Z];show f.at_ i b O) rl rfl
 .rw[q!.mp j];show bf u false l rfl
 .by_cases z:x=u/\s=false
  .rw[z.1];show l
  .rw[RM.dW z]at e;cases e
 .by_cases z:x=u/\s=false
  .obtain⟨rfl,rfl⟩:=z;show .inr (aq (0,0) c (RM.fm _ _ _ _) (dR rl) (by rw[ao (bL L o 12#0)];show L))
  .show .inl ⟨RM.dW z,?_⟩;rw[c5 (λq=>z ?_),vg]
   obtain⟨t,U⟩:=F9 q;show⟨t.symm,U.symm⟩
open PySem PySem.Spec PyProof.Rows
section
variable   {A:Around}  {s:Shared}
def Nv(k:A.handled=none)(L:s.heap.IsList l #[r,F])
 (T:∀h' O,(∀b o,16#o->48#h'.get?)->Q [r,F] { s with heap:=h',toks:=O}):74#(unpackItems (.ref l) 2 none):=by
 show cM (λt d G H a=>?_) (id L)
 have j:s.TypeIs (.ref l) "list":=ae t d G;have n:=n! (a! d);show aU ?_;show aU (wpAny_specialOf j PySem.F.slot_list_iter.lookup (Θ ?_));show aU (F! (wpAny_pyIter_list L ?_));have W:=Walks.list (prog:=P) (w:=w) k s.heap.objs.size l n #[r,F];generalize M:110#85#(.type "list_iterator")=h;have C:∀b o,16#o->48#h.get?:=λb o e=>by rw[<-M];show c! _ e
 have q:h.IsListIter s.heap.objs.size l 0:=by rw[<-M];show au _ (v! _ rl) rl rfl
 have m:h.IsList l #[r,F]:=by rw[<-M];show ae t (c! _ d) (cD G H a)
 have i:∀b o,16#o->b∉[s.heap.objs.size]:=λb o e z=>n! (a! e) (q!.mp z)
 show aU (F! ?_);show aU (W.item 0 _ _ _ 22#0 ⟨q,m⟩ λf Z J v g x=>?_)
 obtain rfl:r=f:=by simpa using v
 show aU (F! ?_);show aU (W.item 1 _ _ _ 22#0 g λu R I y c p=>?_)
 obtain rfl:F=u:=by simpa using y
 show aU (F! ?_);show Θ (Θ (Θ ?_));rw[ξ 22#0]
 show aU (F! (W.done _ _ _ c λN D B=>?_))
 show Θ (T N D λb o e=>B b o (i b o e) (p b o (i b o e) (x b o (i b o e) (C b o e))))
def Nx{x1}(k:A.handled=none)(d:s.heap.IsList l #[r,F])
 (g:29#(assignEach a env)=2) (c:(assignEach a env).findIdx? (·.1)=none)
 (h:∀h' j,(∀b o,16#o->48#h'.get?)->wpAny (model P w) A (assignInOrder ((assignEach a env).map (·.2)) [r,F]) Q E { s with heap:=h',toks:=j}) :
 74#(assign (.Tuple a x1 e) env (.ref l)):=by
 rw[arm_assign_Tuple];show aU (wpAny_standAt ?_);unfold unpack;rw[g,c];show aU (F! (Nv k d h))
end
section
variable {X:Cx}{es:List Expr}{pos:Pos}
def VS(K:cu)(t:OM):TG:=λv U H Q=>∃a x y,v = .ref a/\aI K H a [x,y]/\t [x,y] U H Q
def Ye(K:cu){k:Nat}{t:OM}(L:X.calm=true)(h:Uu X es t)
 (g:29#(188#es)=2:=by rfl) (Y:(188#es).findIdx? (·.1)=none:=by rfl) (d:X.K=K:=by rfl):PG X (.Tuple es k pos) (VS K t):=by
 subst d;intro S s U H v u Q I r o
 revert o;show eu λa x y c D o=>?_
 subst c;cases r;show 130#(λC G n m=>?_)
 cases G with
 | cons J f=>cases f with
   | cons e b =>
     cases b;show Nx (I.ok.hd L) n.isList g Y λN j B=>?_
     show h S _ U H [x,y] _ Q (I.kept B) (.cons J 117#e) o
end
end L2
namespace RM
section
variable {N:Net}
theorem sL:∀{n},(∀k,k<n->0<L k)->(∀k,k<n->f k=true->g k=true)->∀k,k<n->f k=false->g k=true->lsum L f n<lsum L g n
 | 0,_,_,k,Y,_,_=>absurd Y (E? _)
 | n+1,U,h,k,Y,F,M=>by
   unfold lsum;have a:=h n (by lia)
   have o:=U n (by lia)
   by_cases e:k=n
   .subst e;have:=nN (n:=k) (λj D=>adW (U j (by lia))) λj D=>h j (by lia)
    rw[F,M];simp only[Bool.false_eq_true,if_false,if_true]
    lia
   .have G:=sL (n:=n) (λj D=>U j (by lia)) (λj D=>h j (by lia)) k (by lia) F M
    cases J:f n with
    | false=>cases g n<;>simp<;>lia
    | true=>rw[a J];simp;lia
def Ga(U:∀k,k<N.n->0<L k)(c:u<N.p)(h:Wz N L m u u true z e)(b:∀x n,x<N.p->Wy N L m x x true n->z<=n):
 N.Ring e/\e<2^N.n/\N.par e m=true/\lsum L (λk=>171#0) N.n=z:=by
 have d:∀k,k<N.n->0<=L k:=λk Y=>adW (U k Y)
 obtain⟨y,h⟩:=h;show eV (λ_ R l A M _=>?_) (mT d c h)
 show aA (λr J a Z=>?_) (vB _ e rl R (λx _=>by rw[l,_i]) A)
 have i:=fh λk Y=>mS R (a k Y)
 show af (λx B o=>?_) (qy d m J i)
 rw[Z]at o;have p:=b x _ B o;have v:=nN (f:=λk=>183#0) (g:=λk=>171#0) d λk _ Y=>a k Y
 have j:e=r:=q? λk=>by
  cases C:183#0 with
  | true=>show a k C
  | false =>
    cases T:171#0 with
    | false=>rfl
    | true =>
      have:=sL (f:=λk=>183#0) (g:=λk=>171#0) U (λk _ Y=>a k Y) k (mS R T) C T
      lia
 rw[j];show e7 J i Z (by lia)
def Ny(U:∀k,k<N.n->0<=L k)(G:∀x y,x<N.p->¬ Wy N L m x x true y)(C:N.Ring r)(d:r<2^N.n):N.par r m=false:=by
 cases M:N.par r m with
 | false=>rfl
 | true =>
   show af (λx B o=>?_) (qy U m C d)
   rw[M]at o;show absurd o (G x _ B)
end
end RM
namespace L2
open PySem PySem.Spec PyProof.Rows
section
variable {X:Cx}{pq:cF}{σ:St}  {l It S:Addr}{cs:214#0}{ks:Nat->List Int}
def lD(I:θ X y σ H s)(P:aI X.K H l (cs.map V.ref)):s.heap.IsList l 169#cs.map:=by
 show aA (λC a p m=>?_) (I.list P)
 have e:C=cs.map Value.ref:=by
  clear P p m
  induction cs generalizing C with
  | nil=>cases a;rfl
  | cons c r G =>
    rw[l!]at a;cases a with
    | cons h t=>cases h;rw[G _ t];rfl
 rw[e]at p;show p.isList
def Kf(k:X.A.handled=none)(F:X.A.in1.units<cLine)(P:aI X.K H l (cs.map V.ref))(Y:∀(i:Nat) c,cs[i]?=some c->aZ X.K H c ((ks i).map V.int))(y:F3 X S)(m:F3 X It)(SI:S≠It)(a:l≠It)
 (q:∀p∈pq,p.1≠It) (Q:∀p∈pq,p.1≠S)
 (J:∀(i:Nat) c s',cs[i]?=some c->(∀j,j<cs.length->HT.lexLt (ks j) (ks i)=false)->5#s'->R (161#(.ref c)) s') :
 ∀r j i c s n h,cs.length-j=r->j<=cs.length->i<j->cs[i]?=some c->θ X ((S,seqObj "list" #[.ref c,.ref c] n)::(It,h)::pq) σ H s->s.heap.IsListIter It l j->
   (∀B,B<j->HT.lexLt (ks B) (ks i)=false)->codeAny 8#0 X.A (.builtin "min.loop" ⟨[.ref It,.none,.ref S],[]⟩) R s:=by
 have f:(toString "min" ++ toString ".loop")="min.loop":=by decide
 have W:=Walks.list (prog:=X.prog) (w:=X.w) (A:=X.A.in1) k It l a 169#cs.map;have x:(cs.map Value.ref).toArray.size=cs.length:=by simp
 intro r
 induction r with
 | zero =>
   intro j i c s n h C D a L I d IE;have g:j=cs.length:=by lia
   have E:=I.pin (S,_) 55#jd;show 158#t_;rw[Around.under_plainId o? _];show aU (wpAny_seqItems E.1 rl ?_);show aU (U? (W.done _ _ _ ⟨by rw[x,<-g];show d,lD I P⟩ λN Z t=>?_))
   have k:=I.jF (t':=Z) m 55#List.Mem.tail (λb u O e=>t b u (108#0) e) (λp M=>by
    show 31
    .show .inr ⟨.head _,SI⟩
    .show .inr ⟨.tail _ (.tail _ M),q p M⟩)
   have o:=k.pin (S,_) 55#jd;show aU (wpAny_updateSeq o.1 rl (aU (wpAny_letGo (Θ ?_))));have s1:=i? N S 105#(#[])
   show J i c _ L (λB z=>IE B (by lia)) (k.jF y (.head _) (λb u O e=>(s1.2 b O).trans e) λp M=>.inr ⟨.tail _ M,Q p M⟩)
 | succ r G =>
   intro j i c s n h C D a L I d IE;have g:j<cs.length:=by lia
   have E:=I.pin (S,_) 55#jd;show 158#t_;rw[Around.under_plainId o? _];show aU (wpAny_seqItems E.1 rl ?_);show aU (U? (W.item j _ _ _ (by rw[x];show g) ⟨d,lD I P⟩ λv N Z a r t=>?_))
   have d:=z! g;obtain rfl:v = .ref cs[j]:=by
    have:(cs.map Value.ref)[j]?=some v:=by simpa using a
    rw[d!,d]at this;show(20#this).symm
   show aA (λo g s h=>?_) (id r.1)
   have k:=I.jF (t':=Z) (pb:=(S,seqObj "list" #[.ref c,.ref c] n)::(It,o)::pq) m 55#List.Mem.tail (λb u O e=>t b u (108#0) e) (λp M=>by
    show 31
    .show .inr ⟨.head _,SI⟩
    .show 31
     .show .inl (bF rl g (λv z=>by rw[h]at z;cases z))
     .show .inr ⟨.tail _ (.tail _ M),q p M⟩)
   have q:=k.pin (S,_) 55#jd;change wpAny _ X.A.in1 (tryCatch (holding [.ref cs[j],.ref cs[j]] (richCompare .Lt (.ref cs[j]) (.ref c) >>= _)) _ >>= _) _ _ _;show aU (U? (F! (aU (Nk k (Y j _ d) (Y i c L) F ?_))));show aU (F! (wpAny_truthy_bool (aU (wpAny_letGo (Θ ?_)))));cases a:HT.lexLt (ks j) (ks i) with
   | true =>
     have s1:=i? N S 105#(#[.ref cs[j],.ref cs[j]])
     obtain⟨T,U⟩:∃T,(N.update S 105#(#[.ref cs[j],.ref cs[j]])).get? S=some (seqObj "list" #[.ref cs[j],.ref cs[j]] T):=⟨_,get?_update_seq q.1 λ_=>#[.ref cs[j],.ref cs[j]]⟩
     show aU (wpAny_updateSeq q.1 rfl (aU (wpAny_letGo ?_)));rw[f];have F:=k.jF (t':=Z) (pb:=(S,seqObj "list" #[.ref cs[j],.ref cs[j]] T)::(It,o)::pq) y (.head _) (λb u O e=>(s1.2 b O).trans e) (λp M=>by
      show 31
      .show .inl (bF rl U (198#0))
      .show 31
       .show .inr ⟨.tail _ (.head _),SI.symm⟩
       .show .inr ⟨.tail _ (.tail _ M),Q p M⟩)
     show Θ ⟨plainId_quiet o? _,G (j+1) j cs[j] _ T o (by lia) (by lia) (by lia) d F (au o ((s1.2 It SI.symm).trans g) s h) λB z=>?_⟩
     by_cases e:B=j
     .rw[e];show HT.fZ _
     .show HT.vH (IE B (by lia)) a
   | false =>
     show aU (wpAny_letGo ?_);rw[f];show Θ ⟨plainId_quiet o? _,G (j+1) i c _ n o (by lia) (by lia) (by lia) L k r.1 λB z=>?_⟩
     by_cases e:B=j
     .rw[e];show a
     .show IE B (by lia)
def Yg(C:X.A.handled=none)(un:X.A.in1.units<cLine):fB X (.builtin "min") (λxs H Q=>∃(l:Addr) (cs:214#0) (ks:Nat->List Int),xs=[.ref l]/\aI X.K H l (cs.map V.ref)/\0<cs.length/\(∀(i:Nat) c,cs[i]?=some c->aZ X.K H c ((ks i).map V.int))/\
 ∀(i:Nat) c,cs[i]?=some c->(∀j,j<cs.length->HT.lexLt (ks j) (ks i)=false)->Q (.ref c) H):=by
 intro pq s σ H xs g Q I r h
 revert h;show bO λl cs ks f P n Y q=>?_;subst f
 show 164#(λu a rx=>?_);subst a
 cases rx;have h:(toString "min" ++ toString ".loop")="min.loop":=by decide
 have a:=lD I P;show af (λd b _=>?_) (id a)
 have d:=a! b;show call_function_tree PySem.F.kind_min PySem.F.plain_min PySem.F.entry_min (PySem.F.args_min1 _) ?_;show aU (wpAny_of_eq (rfl) ?_);show aU (Θ (aU (wpAny_pyIter_list a (aU (wpAny_newList ?_ (r! _))))));rw[h];show Θ ⟨plainId_quiet o? _,?_⟩;generalize R:(85#(.type "list_iterator"):Obj)=m;have S:35#m=40#0:=size_push' ..;have E:∀b o,16#o->48#((s.heap.push m).push (seqObj "list" #[] 0)).get?:=λb o e=>c! _ (c! _ e)
 have f:23#((s.heap.push m).push (seqObj "list" #[] 0)).get?=some m:=c! _ (v! _ (by rw[<-R];rfl))
 have a:((s.heap.push m).push (seqObj "list" #[] 0)).get? 35#m=some (seqObj "list" #[] 0):=v! _ rfl;have x:∀p∈pq,p.1<s.heap.objs.size:=λp M=>a! (I.pin p (jd _ M)).1
 have G:=I.Nj (23#Ξ);have y:=I.Nj (b:=35#m) (by rw[S];show Q! _)
 have B:35#m≠s.heap.objs.size:=by rw[S];show _a _
 have Q:=n! d;have d:∀p∈pq,p.1≠s.heap.objs.size:=λp M=>n! (x p M)
 have pS:∀p∈pq,p.1≠35#m:=λp M=>by rw[S];show n! (T? (x p M))
 have J:θ X ((35#m,seqObj "list" #[] 0)::(s.heap.objs.size,m)::pq) σ H { s with heap:=(s.heap.push m).push (seqObj "list" #[] 0)}:=by
  have K:=I.kept (t':=s.toks) E;show K.gT λp M=>?_
  show 31
  .show dD a (138#(by rw[S];show Q! _)) y.2.1 y.2.2.1 198#0
  .show 31
   .show dD f (138#(Ξ _)) G.2.1 G.2.2.1 λv z=>by rw[<-R]at z;cases z
   .show K.pin p (jd _ M)
 have W:=Walks.list (prog:=X.prog) (w:=X.w) (A:=X.A.in1) C s.heap.objs.size l Q 169#cs.map;have a:=J.pin (35#m,seqObj "list" #[] 0) 55#jd;show 158#t_;rw[Around.under_plainId o? _];show aU (wpAny_seqItems a.1 rfl ?_);show aU (U? (W.item 0 _ _ _ (by simpa using n) ⟨au m f (by rw[<-R]) (by rw[<-R];rfl),lD J P⟩ λv N D a x t=>?_))
 have g:=z! n;obtain rfl:v = .ref cs[0]:=by
  have:(cs.map Value.ref)[0]?=some v:=by simpa using a
  rw[d!,g]at this;show(20#this).symm
 show aA (λa o k r=>?_) (id x.1)
 have f:=J.jF (t':=D) (pb:=(35#m,seqObj "list" #[] 0)::(s.heap.objs.size,a)::pq) G 55#List.Mem.tail (λb u O e=>t b u (108#0) e) (λp M=>by
  show 31
  .show .inr ⟨.head _,B⟩
  .show 31
   .show .inl (bF rl o (λv z=>by rw[r]at z;cases z))
   .show .inr ⟨.tail _ (.tail _ M),d p M⟩)
 have t:=f.pin (35#m,_) 55#jd;have x:=i? N 35#m 105#(#[.ref cs[0],.ref cs[0]])
 obtain⟨T,U⟩:∃T,(N.update 35#m 105#(#[.ref cs[0],.ref cs[0]])).get? 35#m=some (seqObj "list" #[.ref cs[0],.ref cs[0]] T):=⟨_,get?_update_seq t.1 λ_=>#[.ref cs[0],.ref cs[0]]⟩
 change wpAny _ X.A.in1 (updateSeq 35#m (λ_=>#[.ref cs[0],.ref cs[0]]) >>= _) _ _ _
 show aU (wpAny_updateSeq t.1 rfl ?_);rw[h];have F:=f.jF (t':=D) (pb:=(35#m,seqObj "list" #[.ref cs[0],.ref cs[0]] T)::(s.heap.objs.size,a)::pq) y (.head _) (λb u O e=>(x.2 b O).trans e) (λp M=>by
  show 31
  .show .inl (bF rl U (198#0))
  .show 31
   .show .inr ⟨.tail _ (.head _),B.symm⟩
   .show .inr ⟨.tail _ (.tail _ M),pS p M⟩)
 show Θ ⟨plainId_quiet o? _,Kf C un P Y y G B Q d pS (λi c Z L z b=>aq (.ref c) H b rl (q i c L z)) _ 1 0 cs[0] _ T a rl n (X? _) g F (au a ((x.2 _ B.symm).trans o) k r) λj D=>?_⟩
 have e:j=0:=by lia
 rw[e];show HT.fZ _
end
end L2
namespace RM
section
variable {N:Net}{L:Nat->Int}{m:Nat}
structure qC(N:Net)(L:Nat->Int)(m:Nat)(z:Int)(e:Nat):Prop where
 ring:N.Ring e
 lt:e<2^N.n
 par:N.par e m=true
 len:lsum L (λk=>171#0) N.n=z
 way:∃x,x<N.p/\Wy N L m x x true z
 min:∀x z',x<N.p->Wy N L m x x true z'->z<=z'
def qC.least(U:∀k,k<N.n->0<=L k)(h:qC N L m z e)(C:N.Ring r)(a:r<2^N.n)(I:N.par r m=true):z<=lsum L (λk=>183#0) N.n:=by
 show af (λx B o=>?_) (qy U m C a)
 rw[I]at o;show h.min x _ B o
end
end RM
namespace L2
open PySem PySem.Spec PyProof.Rows PySem.W
def W'(r:Nat->Int):KasT m->m
 | .ret a=>a
 | .ask i j k=>W' r (k (13#(r i<r j)))
theorem jb{f:m->KasT c}:∀(t:KasT m),W' r (t.bind f)=W' r (f (W' r t))
 | .ret a=>by rw[KasT.bind.eq_1];rfl
 | .ask i j k=>by
   rw[KasT.bind.eq_2];show jb (k _)
theorem IF(L:∀i j C,i<n->j<n->C (13#(r i<r j)) s->e i j C s):∀{t:KasT m},ze n R t->(R (W' r t)->Q (W' r t) s)->KasT.kasWp e t Q s
 | .ret a,h,q=>q h
 | .ask i j k,h,q=>L i j _ h.1 h.2.1 (IF L (h.2.2 _) q)
def Kr(r:Nat->Int)(p:Array Nat)(i:Nat):Int:=r (p.getD i 0)
def vL{m:Type}{p:Array Nat}{i j:Nat}{L a:KasT m}(c:Kr r p i<Kr r p j):W' r (.ask (p.getD i 0) (p.getD j 0) λb=>if b=true then L else a)=W' r L:=by
 change W' r (if 13#(Kr r p i<Kr r p j)=true then L else a)=_
 rw[ο (e8 c)]
def vM{m:Type}{p:Array Nat}{i j:Nat}{L a:KasT m}(c : ¬Kr r p i<Kr r p j):W' r (.ask (p.getD i 0) (p.getD j 0) λb=>if b=true then L else a)=W' r a:=by
 change W' r (if 13#(Kr r p i<Kr r p j)=true then L else a)=_
 rw[ξ (by simpa using c)]
def vN(p)(i):Kr r p i=r ((p[i]?).getD 0):=by
 unfold Kr;rw[Array.getD_eq_getD_getElem?]
def A3{p:Array Nat}(D:j<=p.size)(k:Nat):Kr r (kas_rev p i j) k=if i<=k/\k<j then Kr r p (i+j-1-k) else Kr r p k:=by
 have e:=getElem?_mirror_all (i:=i) D k;unfold kas_rev;rw[vN,e]
 split
 .rw[vN]
 .rw[vN]
def Nz{p:Array Nat}(W:a<p.size)(J:d<=a)(k:Nat):Kr r (bubble p a d) k=if k=a-d then Kr r p a else if a-d<k/\k<=a then Kr r p (k-1) else Kr r p k:=by
 have e:=getElem?_bubble W d J k;rw[vN,e]
 split
 .rw[vN]
 .split
  .rw[vN]
  .rw[vN]
def mV(p:Array Nat)(i j:Nat):(kas_rev p i j).size=p.size:=mirror_size _ _ _ _
def Up(r:Nat->Int)(p:Array Nat)(n:Nat):Prop:=∀i,1<=i->i<n->Kr r p (i-1)<=Kr r p i
def Up.le(h:Up r p n):∀{i j:Nat},i<=j->j<n->Kr r p i<=Kr r p j:=by
 intro i j H;obtain⟨d,rfl⟩:=ac7 H;clear H
 induction d with
 | zero=>intro _;show r? _
 | succ d G =>
   intro D;have Z:=G (by lia)
   have R:=h (i+(d+1)) (by lia) D
   rw[95#(i+(d+1)-1=i+d)]at R
   lia
theorem Gb{r:Nat->Int}:∀(f n:Nat),1<=n->Up r p n->n<=W' r (kas_asc p f n)/\W' r (kas_asc p f n)<=n+f/\Up r p (W' r (kas_asc p f n))/\(W' r (kas_asc p f n)<n+f->Kr r p (W' r (kas_asc p f n))<Kr r p (W' r (kas_asc p f n)-1))
 | 0,n,_,h=>by
   rw[kas_asc.eq_1];show e7 (Ξ n) (Ξ n) h λz=>absurd z (S! n)
 | f+1,n,Z,h=>by
   rw[kas_asc.eq_2]
   by_cases c:Kr r p n<Kr r p (n-1)
   .rw[vL c];show e7 (Ξ n) (F_ _ _) h λ_=>c
   .rw[vM c];have G:=Gb (r:=r) (p:=p) f (n+1) 224#0 (λi I g=>by
     by_cases e:i=n
     .rw[e];omega
     .show h i I 224#0)
    show e7 224#0 224#0 G.2.2.1 λz=>G.2.2.2 224#0
def Down(r:Nat->Int)(p:Array Nat)(n q:Nat):Prop:=(∀i,1<=i->i<n->Kr r p i<=Kr r p (i-1))/\q+1<=n/\∀i,n-(q+1)<=i->i<n->Kr r p i=Kr r p (n-1)
def Down.rev(h:Down r p n q)(g:n<=p.size)(k):Kr r (kas_rev p (n-(q+1)) n) k=Kr r p k:=by
 rw[A3 g]
 split
 .rename_i Y
  rw[h.2.2 _ (by lia) (203#h.2.1),h.2.2 k Y.1 Y.2]
 .rfl
theorem nS{r:Nat->Int}:∀(f:Nat) {p:Array Nat} {n q:Nat},n+f<=p.size->Down r p n q->
 (W' r (kas_desc f p n q)).1.size=p.size/\n<=(W' r (kas_desc f p n q)).2.1/\(W' r (kas_desc f p n q)).2.1<=n+f/\Down r (W' r (kas_desc f p n q)).1 (W' r (kas_desc f p n q)).2.1 (W' r (kas_desc f p n q)).2.2
 | 0,p,n,q,_,h=>by
   rw[kas_desc.eq_1];show e7 rl (Ξ n) (Ξ n) h
 | f+1,p,n,q,W,h=>by
   rw[kas_desc.eq_2];show cW (λZ R l=>?_) (id h)
   by_cases c:Kr r p n<Kr r p (n-1)
   .have j:∀F:Array Nat,(∀k,Kr r F k=Kr r p k)->Down r F (n+1) 0:=λF e=>by
     show bF (λi I g=>?_) 224#0 λi I g=>by rw[show i=n+1-1 by omega]
     rw[e,e]
     by_cases z:i=n
     .rw[z];omega
     .show Z i I 224#0
    rw[vL c]
    by_cases D:q > 0
    .rw[ο D];have G:=nS f (by rw[mV];omega) (j _ (h.rev 224#0))
     rw[mV]at G;show e7 G.1 224#0 224#0 G.2.2.2
    .rw[ξ D];have G:=nS f 224#0 (j _ λ_=>rfl)
     show e7 G.1 224#0 224#0 G.2.2.2
   .rw[vM c]
    by_cases d:Kr r p (n-1)<Kr r p n
    .rw[vL d];show e7 rl (Ξ n) (F_ _ _) h
    .rw[vM d];have G:=nS (r:=r) f (p:=p) (n:=n+1) (q:=q+1) 224#0 (bF (λi I g=>by
      by_cases z:i=n
      .rw[z];omega
      .show Z i I 224#0) 224#0 (λi I g=>by
      rw[show n+1-1=n by omega]
      by_cases z:i=n
      .rw[z]
      .have:=l i 224#0 224#0
       omega))
     show e7 G.1 224#0 224#0 G.2.2.2
def NB(r:Nat->Int)(n:Nat)(x:Nat×Array Nat):Prop:=x.2.size=n/\1<=x.1/\x.1<=n/\Up r x.2 x.1
def C8(h:Down r p n q)(g:1<=n)(v:n<=b)(W:p.size=b):NB r b (W' r (kas_tail3 n b p)):=by
 have d:Up r (kas_rev p 0 n) n:=λi I f=>by
  rw[A3 (by lia),A3 (by lia),ο (by lia),ο (by lia)]
  have:=h.1 (0+n-1-(i-1)) (by lia) (by lia)
  rw[95#(0+n-1-(i-1)-1=0+n-1-i)]at this
  show this
 have a:=Gb (b-n) n g d;unfold kas_tail3;rw[jb];show e7 (by change(kas_rev p 0 n).size=b;rw[mV,W]) (by change 1<=W' r _;lia) (by change W' r _<=b;lia) a.2.2.1
def Down.congr(h:Down r p n q)(e:∀k,Kr r F k=Kr r p k):Down r F n q:=bF (λi Z R=>by rw[e,e];show h.1 i Z R) h.2.1 λi Z R=>by rw[e,e];show h.2.2 i Z R
def C9{p:Array Nat}(g:1<=n)(v:n+1<=b)(W:p.size=b)(e:∀i,i<n->Kr r p i=Kr r p (n-1))(w:Kr r p n<Kr r p (n-1)):NB r b (W' r (kas_descPart n b p)):=by
 have a:Down r p (n+1) 0:=bF (λi Z R=>by
  by_cases z:i=n
  .rw[z];lia
  .rw[e i (by lia),e (i-1) (by lia)]
   show r? _) (by lia) λi Z R=>by rw[95#(i=n+1-1)]
 have d:=nS (b-(n+1)) (by lia) a
 unfold kas_descPart;rw[jb];generalize W' r (kas_desc (b-(n+1)) p (n+1) 0)=x at d
 revert d;show jM λt j f c=>?_
 by_cases D:x.2.2 > 0
 .rw[ο D];show C8 (c.congr (c.rev (by lia))) (by lia) (by lia) (by rw[mV,t,W])
 .rw[ξ D];show C8 c (by lia) (by lia) (by rw[t,W])
def Kg{p:Array Nat}(Z:1<=b)(W:p.size=b):NB r b (W' r (kas_count b p)):=by
 have a:=Gb (r:=r) (p:=p) (b-1) 1 (Ξ 1) (λi I g=>by lia)
 unfold kas_count;rw[jb];generalize W' r (kas_asc p (b-1) 1)=n at a
 revert a;show jM λS d D f=>?_
 by_cases e:(n==b)=true
 .rw[ο e];show e7 W S (by change n<=b;lia) D
 .rw[ξ e];have e:n≠b:=by simpa using e
  have w:=f (by lia)
  by_cases R:n > 1
  .rw[ο R]
   by_cases c:Kr r p 0<Kr r p (n-1)
   .rw[vL c];show e7 W S (by change n<=b;lia) D
   .rw[vM c];have all:∀i,i<n->Kr r p i=Kr r p (n-1):=λi I=>by
     have h:=D.le (95#(0<=i)) I
     have M:=D.le (95#(i<=n-1)) (by lia)
     lia
    have j:∀k,Kr r (kas_rev p 0 n) k=Kr r p k:=λk=>by
     rw[A3 (by lia)]
     split
     .rw[all _ (by lia),all k (by lia)]
     .rfl
    show C9 S (by lia) (by rw[mV,W]) (λi I=>by rw[j,j];show all i I) (by rw[j,j];show w)
  .rw[ξ R];have t:n=1:=by lia
   subst t;show C9 S (by lia) W (λi I=>by rw[95#(i=1-1)]) w
theorem vO(d:Up r p k):∀(f l u:Nat),u-l<=f->l<=u->u<=k->(∀i,i<l->Kr r p i<=Kr r p k)->(∀i,u<=i->i<k->Kr r p k<Kr r p i)->
 W' r (kas_place p k f l u)<=k/\(∀i,i<W' r (kas_place p k f l u)->Kr r p i<=Kr r p k)/\∀i,W' r (kas_place p k f l u)<=i->i<k->Kr r p k<Kr r p i
 | 0,l,u,F,b,a,Z,R=>by
   rw[kas_place.eq_1];have e:l=u:=by lia
   subst e;show bF a Z R
 | f+1,l,u,F,b,a,Z,R=>by
   rw[kas_place.eq_2]
   by_cases B:l ≥ u
   .rw[ο B];have e:l=u:=by lia
    subst e;show bF a Z R
   .rw[ξ B]
    by_cases c:Kr r p k<Kr r p ((l+u)/2)
    .rw[vL c];show vO d f l ((l+u)/2) (by lia) (by lia) (by lia) Z λi I Y=>by
      have:=d.le I Y
      lia
    .rw[vM c];show vO d f ((l+u)/2+1) u (by lia) (by lia) a (λi I=>by
      have:=d.le (95#(i<=(l+u)/2)) (by lia)
      lia) R
theorem NC:∀(f:Nat) {p:Array Nat} {k:Nat},k+f<=p.size->Up r p k->Up r (W' r (kas_bin f p k)) (k+f)
 | 0,p,k,_,h=>by
   rwa [kas_bin.eq_1]
 | f+1,p,k,W,h=>by
   rw[kas_bin.eq_2,jb];have c:=vO h k 0 k (by lia) (by lia) (Ξ k) (λi I=>by lia) (λi Z R=>by lia)
   generalize W' r (kas_place p k k 0 k)=l at c
   revert c;show cW λj g a=>?_
   have d:Up r (bubble p k (k-l)) (k+1):=λi I Y=>by
    rw[Nz (by lia) (by lia),Nz (by lia) (by lia),95#(k-(k-l)=l)]
    by_cases M:i=l
    .rw[ξ (by lia),ξ (by lia),ο M]
     show g (i-1) (by lia)
    .rw[ξ M]
     by_cases b:l<i/\i<=k
     .rw[ο b]
      by_cases e:i-1=l
      .rw[ο e];show adW (a (i-1) (by lia) (by lia))
      .rw[ξ e,ο (by lia)]
       show h (i-1) (by lia) (by lia)
     .rw[ξ b,ξ (by lia),ξ (by lia)]
      show h i I (by lia)
   have:=NC f (by rw[bubble_size];lia) d
   rwa [95#(k+(f+1)=k+1+f)]
def Qi(g:1<=n):Up r (W' r (kas_sort n)) n:=by
 unfold kas_sort;rw[jb];have c:=Kg (r:=r) (p:=List.toArray 19#n) g 22#0
 generalize W' r (kas_count n (List.toArray 19#n))=x at c
 revert c;show jM λM a b u=>?_
 by_cases B:x.1<n
 .rw[ο B];have:=NC (n-max x.1 1) (p:=x.2) (k:=max x.1 1) (by lia) (by rw[95#(max x.1 1=x.1)];show u)
  rw[95#(max x.1 1+(n-max x.1 1)=n)]at this
  show this
 .rw[ξ B];have e:x.1=n:=by lia
  rw[e]at u;show u
def A4:bootBuiltins "sorted"=some (.builtin "sorted"):=by kernel_rfl
def kx(z:Int×Int):Int:=z.1*1073741824+z.2
def VT(z:Int×Int):Prop:=0<=z.2/\z.2<1073741824
section
variable  {pq:cF}{σ:St}
def θ.Qj(I:5#s)(e:H a=4#xs)(Y:s.heap.get? a=some ob):θ X pq σ (η H a (.p7 ob (.lst xs))) s :=
 I.swap e 149#0 149#0 149#0 (λb o u q=>bL (I.base.jN b o u q) e 12#0) λx p=>⟨Y,(I.hok a _ e).stay (λ_ _ _ q=>q) x p⟩
def θ.VU{E:St}(h:θ X N E H R)(U:H a=4#xs)(I:θ X pq σ G s)(e:G a=some (.p7 ob (.lst xs))):θ X pq σ (η G a (.lst xs)) s :=
 I.swap e 149#0 149#0 149#0 (λb o u q=>bL (h.base.jN b o u q) U 12#0) λx p=>(I.hok a _ e).2.stay (λ_ _ _ q=>q) x p
end
def Tq(P:Addr)(q:Str)(e:Pos)(z:TA)(C:TE)(js:List Nat):TE:=λU H Q=>z U H λF N=>∃(a:Addr) (J:List Int) (O:Int->Int×Int),F=[.ref a]/\N a=4#(J.map V.int)/\J.length<64/\(∀n∈J,VT (O n))/\N P=62#(dU q e)/\
 (∀f,(∀b u,N b=some u->(∀y,u≠.own y)->(∀s,u≠.gQ s)->f b=some u)->∀n∈J,C (some (.int n)::gi U js) f λv c=>ak f c/\∃d,v = .ref d/\c d=15#([.int (O n).1,.int (O n).2]))/\
 ∀(l:Addr) (g:List Int) c,N l=none->ak N c->c l=4#(g.map V.int)->g.Perm J->g.Pairwise (λx y=>kx (O x)<=kx (O y))->Q (.ref l) c
theorem Dd:∀{a b:List Int},HT.lexLt a b=false->HT.lexLt b a=false->a=b
 | [],[],_,_=>rfl
 | [],_::_,h,_=>by cases h
 | _::_,[],_,h=>by cases h
 | x::xs,y::ys,h,h'=>by
   rw[HT.fg]at h h'
   by_cases e:x=y
   .subst e;rw[ο rfl]at h h';rw[Dd h h']
   .rw[ξ e]at h;rw[ξ (e! e)]at h';have:=of_decide_eq_false h;have:=of_decide_eq_false h'
    lia
theorem ND{m:Type}{p q}(h:∀a,p a=true->q a=true){x}(D:q x=true)(M:p x=false):∀{l:List m},x∈l->l.countP p<l.countP q
 | a::l,d=>by
   have R:l.countP p<=l.countP q:=List.countP_mono_left λa _=>h a
   rw[_S,_S];rcases Z'.mp d with rfl|d
   .rw[D,M,ο rfl,ξ w!]
    lia
   .have G:=ND h D M d;have Z:=h a
    split
    .rw[ο (Z ‹_›)]
     lia
    .split<;>lia
def UD(l:127#Int)(x:List Int):Int:=18#(l.countP λy=>HT.lexLt y x)
def NF(B:x∈l):13#(UD l x<UD l y)=HT.lexLt x y:=by
 unfold UD;cases e:HT.lexLt x y with
 | true =>
   have:=ND (q:=λz=>HT.lexLt z y) (λz m=>HT.jE m e) e (HT.fZ x) B
   show e8 (by lia)
 | false =>
   have:(l.countP λz=>HT.lexLt z y)<=l.countP λz=>HT.lexLt z x:=List.countP_mono_left λz _ m=>by
    cases D:HT.lexLt y x with
    | true=>show HT.jE m D
    | false=>rw[Dd e D];show m
   show gm (by lia)
def NG(h:Heap)(v:Value)(xs:List Int):Prop:=∃(a:Addr) (o:Obj) (J:70#0) (k:Nat),v = .ref a/\135#o/\o.cls = .type "tuple"/\o.data = .seq J.toArray k/\υ (xs.map V.int) J
section
variable    {s:Shared}{vs:70#0}
def NH:∀{xs v:List Int} {J g:70#0} (i:Nat),υ (xs.map V.int) J->υ (v.map V.int) g->C (HT.lexLt xs v) s->KatLex prog w A true (13#(J.length<g.length)) C (J.zip g) i s:=by
 intro xs
 induction xs with
 | nil =>
   intro v J g i a b h;cases a;cases v<;>cases b<;>show h
 | cons x xs G =>
   intro v J g i a b h;cases v with
   | nil =>
     cases a;cases b;show h
   | cons y v =>
     obtain _|⟨⟨t,rfl⟩,r⟩:=a
     obtain _|⟨⟨u,rfl⟩,c⟩:=b
     rw[HT.fg]at h;rw[y!,y!,M?.mpr Nat.succ_lt_succ_iff];show kat_cons (wpAny_eqBool_int ?_)
     by_cases e:x=y
     .rw[ο e]at h;rw[show(x==y)=true by simpa using e]
      show kat_yes (G (i+1) r c h)
     .rw[ξ e]at h;rw[show(x==y)=false by simpa using e]
      change wpAny 21#w A (oneLt' (true&&i==0) _ _) C _ s;cases(true&&i==0) with
      | true=>show oneLt_int h
      | false=>show kat_one _ _ (lt_int h)
def NI{zs:Nat->List Int}(hz:∀i,i<n->zs i∈l)(h:∀i,i<n->NG s.heap (vs.getD i Value.none) (zs i)):
 ∀i j C,i<n->j<n->C (13#(UD l (zs i)<UD l (zs j))) s->kas_ask prog w A (tuples' true) vs i j C s:=by
 intro i j C I D f;rw[NF (hz i I)]at f;unfold kas_ask;show eg (λa=>bO λo J k e Y _ p r=>?_) (h i I)
 show eg (λc=>bO λS g b m q _ d G=>?_) (h j D)
 rw[e,m];show kat_lt Y p q d (NH 0 r G f)
def Kh(g:0<vs.length)(b:∀v∈vs,∃xs,xs≠[]/\NG s.heap v xs)(q:Q (tuples' true) s):52#(keyKind' vs.toArray):=by
 obtain⟨W,P,F,Y⟩:∃W:70#0,W.length=vs.length/\(∀v∈W,∃x t,v=Value.int x t)/\KatTups s.heap vs W:=by
  clear q g
  induction vs with
  | nil=>show au [] rfl nofun .nil
  | cons v vs G =>
    show aA (λW Z R l=>?_) (G λv e=>b v (jx _ e))
    show af (λxs B=>eg λa=>bO λo J k f d L c r=>?_) (b v g!);subst f
    cases xs with
    | nil=>show absurd rfl B
    | cons x xs =>
      cases r with
      | cons z r =>
        obtain⟨t,rfl⟩:=z;show au (.int x t::W) (k! (· + 1) Z) (λn e=>?_) (.cons d L c rl l)
        rcases Z'.mp e with rfl|e
        .show gR x t rfl
        .show R n e
 show kat_kind (T:=.type "int") Y (by lia) (λv b=>?_) 7#0 q
 show gF (λx t r=>?_) (F v b);subst r
 intro A Q E s _ q;show Θ q
end
section
variable {β:Type}{ps:List β}
def Kl{r:β->Int}(P:n=ps.length)(g:1<=n)(L:∀i j C,i<n->j<n->C (13#(r (ps.getD i d)<r (ps.getD j d))) s->e i j C s)
 (q:∀p:Array Nat,fb n p->(∀i∈p.toList,i<n)->(p.toList.map λi=>ps.getD i d).Perm ps->(p.toList.map λi=>ps.getD i d).Pairwise (λx y=>r x<=r y)->Q p s):KasT.kasWp e (kas_sort n) Q s:=by
 show IF L (PV g) λM=>?_
 have c:=Qi (r:=λi=>r (ps.getD i d)) g
 generalize W' (λi=>r (ps.getD i d)) (kas_sort n)=p at M c ⊢
 have b:p.toList.length=n:=by have:=M.length_eq;rw[C!]at this;show this
 show q p M (λi I=>E!.mp (M.mem_iff.mp I)) ?_ ?_
 .have Z:=List.Perm.map (λi=>ps.getD i d) M
  rw[show(19#n).map (λi=>ps.getD i d)=ps from by
   rw[P];show List.ext_getElem 22#0 λi Z R=>?_
   simp[u!,z! R]]at Z
  show Z
 .rw[D_,acX];intro i j I D H;have:=c.le (U! H) (by lia)
  have a:∀i (I:i<p.toList.length),p.getD i 0=p.toList[i]:=λi I=>by
   rw[Array.getD_eq_getD_getElem?,<-_v,z! I];rfl
  unfold Kr at this;rw[a i I,a j D]at this;show this
def Qk(G:υ (ps.map f) C)(I:i<ps.length):Δ (f (ps.getD i d)) (C.getD i Value.none)/\ps.getD i d∈ps:=by
 have e:=z! I;rw[u!,e];obtain⟨u,c,Y⟩:=G.get (by rw[d!,e];rfl)
 rw[u!,c];show⟨Y,E_ I⟩
theorem sM(G:υ (ps.map f) C):∀{l:List Nat},(∀i∈l,i<ps.length)->υ ((l.map λi=>ps.getD i d).map f) (l.map λi=>C.getD i Value.none)
 | [],_=>.nil
 | i::_,h=>.cons (Qk G (h i g!)).1 (sM G λj D=>h j (jx _ D))
end
section
variable  {pq:cF}    {β:Type}{g:β->List Int}(ne:∀b,g b≠[])
include ne
end
def VV(B:VT x)(W:VT y)(h:HT.lexLt [y.1,y.2] [x.1,x.2]=false):kx x<=kx y:=by
 unfold VT at B W;unfold kx;rw[HT.fg,HT.fg]at h
 split at h
 .split at h
  .lia
  .have:=of_decide_eq_false h
   lia
 .have:=of_decide_eq_false h
  lia
section
variable  {pq:cF}{σ:St}
def Km{ns:List Int}{ds:214#0}{O:Int->Int×Int}
 (I:θ X ((kS,seqObj "list" 169#ds.map e)::pq) σ H3 s) (oK:F3 X kS) (pK:∀p∈pq,p.1≠kS) (S:H3 D=some (.p7 (seqObj "list" #[] t) (.lst []))) (rv:υ (201#0) C) (g:ns.length<64) (hdl:ds.length=ns.length)
 (Y:∀(j:Nat) d n,ds[j]?=some d->ns[j]?=some n->H3 d=15#([.int (O n).1,.int (O n).2])) (hok:∀n∈ns,VT (O n))
 {σ0:St} (I0:θ X pins0 σ0 H0 s0) (e0:H0 D=4#([]))
  (fin:∀(s' : Shared) (N:List Int),N.Perm ns->N.Pairwise (λx y=>kx (O x)<=kx (O y))->θ X pq σ (η 97#H3 D 69#(N.map V.int)) s'->P (.done (.ret .none)) s') :
  wpAny 8#0 A (ksk_end D false C.toArray t (.ref kS) (169#ds.map)) P E s:=by
  have hl:C.length=ns.length:=by have:=rv.length;rw[χ]at this;lia
  obtain⟨hDo,_⟩:=(I.hok D _ S);have Gd:=I.pin (kS,seqObj "list" 169#ds.map e) 55#jd;have hDK:D≠kS:=λz=>by
   have:=Gd.2.1;rw[<-z,S]at this;cases this
  have tail:∀(st:SortSt) (N:List Int) (H:70#0),(arrOf st).map (·.2)=H.toArray->H.length<64->failedOf st=none->N.Perm ns->N.Pairwise (λx y=>kx (O x)<=kx (O y))->υ (N.map V.int) H->wpAny 8#0 A (ksk_tail D false t (.ref kS) st) P E s:=by
   intro st N H hout hz F M W a;have s1:=i? s.heap kS 105#(#[])
   have k:=(s1.2 D hDK).trans hDo;have w:=i? (s.heap.update kS 105#(#[])) D (Obj.mapSeq λ_=>H.toArray)
   obtain⟨c2,hc2⟩:∃c2,((s.heap.update kS 105#(#[])).update D (Obj.mapSeq λ_=>H.toArray)).get? D=some (seqObj "list" H.toArray c2):=⟨_,get?_update_seq k λ_=>H.toArray⟩
   unfold ksk_tail
   try dsimp only
   rw[hout];show aU (listUpdate_at Gd.1 rl ?_ (by rw[B!,χ,sizeLine_eq];lia) (r! _))
   show aU (wpAny_letGo ?_);show aU (seqEpoch_at k rl ?_);show aU (listUpdate_at k rl ?_ (r! _) (by change H.toArray.size<=_;rw[B!,sizeLine_eq];lia))
   rw[F];simp only[bne_self_eq_false,Bool.false_eq_true,if_false];have J1:=I.jF (t':=s.toks) oK (.head _) (λc u ne e=>(s1.2 c ne).trans e) (λp M=>.inr ⟨.tail _ M,pK p M⟩)
   have J2:=θ.VU I0 e0 J1 S;have J3:=J2.write (o:=.lst (N.map V.int)) (t':=s.toks) (by rw[aa];trivial) (.inl rl) (λb u nb q=>(w.2 b nb).trans q) ⟨_,hc2⟩
    (aS (by rw[χ,M.length_eq,sizeLine_eq];lia) H c2 a hc2)
   show Θ (fin _ N M W J3)
  by_cases R:2<=ns.length
  .have at_:∀i,i<C.length->∃d n,ds[i]?=some d/\ns[i]?=some n/\ns.getD i 0=n:=λi hi=>by
    have e:ns[i]?=some (ns[i]'(by lia)):=z! _
    show aq (ds[i]'(by lia)) _ (z! _) e (by rw[u!,e];rfl)
   have kv:∀i,i<C.length->NG s.heap ((ds.map Value.ref).getD i Value.none) [(O (ns.getD i 0)).1,(O (ns.getD i 0)).2]:=λi hi=>by
    show aD (λd n t U e3=>?_) (at_ i hi)
    show aA (λJ rt f _=>?_) (I.tuple 91#(Y i _ _ t U));obtain⟨o,eo,L,m,hdt⟩:=f
    rw[e3,u!,d!,t];show bu d o J m rl eo L hdt rt
   have hlk:29#(ds.map Value.ref)=C.length:=by rw[χ];lia
   have hn2 : ¬ C.toArray.size<2:=by rw[B!];lia
   unfold ksk_end
   try dsimp only
   rw[ξ w!,ξ hn2,ξ hn2,ξ w!];show aU (Kh (by lia) (λv a=>?_) ?_)
   .obtain⟨i,hi,rfl⟩:=List.mem_iff_getElem.mp a;have:=kv i (by lia)
    rw[u!,z! hi]at this;show ae (_::_) (List.cons_ne_nil _ _) this
   show aU (p! (kat_run (Q:=λT s'=>s' = s/\∃(p:Array Nat) (N:List Int),N.Perm ns/\N.Pairwise (λx y=>kx (O x)<=kx (O y))/\υ (N.map V.int) (p.toList.map λi=>C.getD i Value.none)/\(arrOf T).map (·.2)=(p.toList.map λi=>C.getD i Value.none).toArray/\failedOf T=none)
    (G:=λp s'=>s' = s/\∃N:List Int,N.Perm ns/\N.Pairwise (λx y=>kx (O x)<=kx (O y))/\υ (N.map V.int) (p.toList.map λi=>C.getD i Value.none))
    hlk (by lia) (by lia) (by intro p T s' a1 a2 a3;show Ah λa4=>aA λN b1 b2 b3=>?_;show⟨a4,(cI p N b1 b2 b3 (kat_snds hlk a2) a3)⟩) ?_) ?_ λ_ _ x=>x)
   .show Kl (r:=λn=>UD (ns.map λn=>[(O n).1,(O n).2]) [(O n).1,(O n).2]) hl (by lia) (NI (λi hi=>?_) kv) λp _ hlt Z R=>34#(au _ Z (R.imp_of_mem λ{x y} B hy h=>?_) (sM rv (hl▸hlt)))
    .show aD (λd n t U e3=>?_) (at_ i hi)
     rw[e3];show U'.mpr (ae n (fP U) rl)
    .have hy:=Z.mem_iff.mp hy;show VV (hok _ (Z.mem_iff.mp B)) (hok _ hy) ?_;rw[<-NF (l:=ns.map λn=>[(O n).1,(O n).2]) (U'.mpr (ae y hy rl))]
     show gm (Int.not_lt.mpr h)
   .intro Yh s';show Ah λTg=>gF λp N=>iI λZ R h3 har F=>?_;obtain⟨⟨⟩,T⟩:=Yh;subst Tg
    try dsimp only
    show tail T N _ har ?_ F Z R h3;have:=h3.length;rw[χ,Z.length_eq]at this
    lia
  .have hn2:C.toArray.size<2:=by rw[B!];lia
   unfold ksk_end
   try dsimp only
   rw[ξ w!,ο hn2,ο hn2,ξ w!];show aU (Θ ?_);show aU (Θ ?_);show tail _ ns C ?_ (by lia) rl (List.Perm.refl _) ?_ rv
   .apply _W.mp;simp;show List.map_snd_zip (by rw[χ];lia)
   .cases ns with
    | nil=>show .nil
    | cons x ns =>
      cases ns with
      | nil=>show List.pairwise_singleton _ _
      | cons=>show absurd (by simp:2<=_) R
end
section
variable {X:Cx}{params:Arguments}{body e:Expr}{scope:Scope}{lp p pos kp:Pos}{fq:List Str}{js:List Nat}{x:Str}{ta:TA}{te:TE}{c0 P:Addr}{k:Nat}
def NJ(C:dF (k+3) X.A)(T:154#([x]))(B:101#x)(hg:Gl X "sorted")(hm:X.mg "sorted"=none)(hcode:X.env.code = .ref c0)(hK:PySem.W.codeHdIn X.K c0 P=true)(E:PA X [e] ta)
 (he:∀f c s H,dF k (vG X ([x]++fq) scope f c X.A.in1.in1 s H).A->PE (vG X ([x]++fq) scope f c X.A.in1.in1 s H) body te)
 (O:∀c ctv u,bindArgs (57#C1) ⟨[u],[]⟩=pure [(x,u)]:=by intro _ _ _;rfl) (hco:scope.isCoroutine=false:=by rfl) (hgen:scope.isGenerator=false:=by rfl)
 (hdef:defaultsOf params X.env=([],[]):=by rfl)
 (W:179#9#([e])=25#e::179#9#([]):=by rfl) (hs2:(179#9#([e])).any (·.1)=false:=by rfl) :
 PE X (.Call (.Name "sorted" p) [e] [⟨some (Str.ofString "key"),.Lambda params body scope lp,kp⟩] pos) (Tq P (X.env.qual ++ "<lambda>") lp ta te js):=by
 show 47;show 174#(jO I hg hm A4 (callWith_kw (c6 (E pos S s U H _ I h) λg s1 hq=>?_) W hs2 rl rl))
 revert hq;show aD λF N A r1=>cQ λa ns kf Tc=>eV λhda h64 hok hP hturn Td=>?_;subst Tc
 show af (λu r rx=>?_) (vals1 r1);subst r
 cases rx;show kws_cons (C2 A T hcode hK hP hdef λf c oc ctv w L ID hoc J=>kws_nil ?_)
 have hla:=uq (oc:=oc) hP L hda 148#0 148#0
 have Te:gP N P c oc (X.env.qual ++ "<lambda>") lp P=62#(dU (X.env.qual ++ "<lambda>") lp++qB lp c):=aa;have Qf:gP N P c oc (X.env.qual ++ "<lambda>") lp c=some (.p7 oc (.own P)):=by unfold gP;rw[ao ID,aa]
 have Rz:∀b,gP N P c oc (X.env.qual ++ "<lambda>") lp b=none->N b=none:=λb O=>by
  have bP:b≠P:=λz=>by rw[z,Te]at O;cases O
  have bc:b≠c:=λz=>by rw[z,Qf]at O;cases O
  unfold gP at O
  rwa [ao bP,ao bc]at O
 have ZA:∀b u,N b=some u->(∀y,u≠.own y)->(∀qs,u≠.gQ qs)->gP N P c oc (X.env.qual ++ "<lambda>") lp b=some u:=λb u eb n1 n2=>uq hP L eb n1 n2
 generalize hLd:gP N P c oc (X.env.qual ++ "<lambda>") lp=HL at J hla Te Qf Rz ZA;show aA (λits rv Tg m=>?_) (J.list (aI.of hla));obtain⟨o,n,ho,hcl,hdt,hd⟩:=Tg
 have hl:=rv.length;rw[χ]at hl;have hsl:36#its.length:=87#(by lia)
 show call_function_entry_kw kind_sorted plain_sorted entry_sorted (ksk_s1 _ _) ?_;show aU (Θ ?_);show aU (wpAny_collect_seq a (.inl rl) ho hcl hd (λZ Y=>?_) (by rw[B!];show hsl))
 have J1:=J.kept (t':=w.toks) Y;have hfr:=J1.hok.fresh (Ξ _);show aU (wpAny_newList ?_ (by simpa using hsl))
 have e0:its.toArray.toList=its:=by simp
 rw[e0];have Tr:(Z.push (seqObj "list" its.toArray 0)).get? Z.objs.size=some (seqObj "list" its.toArray 0):=v! _ rfl;have J2:θ X ((f,57#fJ)::S) U (η HL Z.objs.size 69#(201#0)) { w with heap:=Z.push (seqObj "list" its.toArray 0)}:=by
  show J1.laid (t':=w.toks) (λb o O=>?_) (Ξ _) (aS ?_ its 0 rv Tr)
  .rwa [Heap.get?_push_ne _ _ _ (n! (a! O))]
  .rwa [χ,hl]
 generalize hDd:Z.objs.size=D at hfr Tr J2;show aU (F! (wpAny_call_entry_kw slot_list_sort (ae _ Tr rfl) entry_list_sort ?body (ksk_l1 _ _)));change wpAny 8#0 X.A.in1.in1 (Builtin.«list.sort» ⟨[.ref D],[(Str.ofString "key",.ref f)]⟩) _ _ _;rw[ksk_t1];generalize Z.push (seqObj "list" its.toArray 0)=R at Tr J2;have s1':=i? R D 105#(#[])
 obtain⟨t,Uz⟩:∃t,(R.update D 105#(#[])).get? D=some (seqObj "list" #[] t):=⟨_,get?_update_seq Tr λ_=>#[]⟩
 unfold ksk_tree;show aU (listItems_at Tr rl ?_);show aU (listUpdate_at Tr rl ?_ (by rw[B!];show hsl) (r! _))
 show aU (seqEpoch_at Uz rl ?_);show aU (wpAny_newTuple ?_ (by change its.toArray.toList.length<=_;rw[e0];show hsl))
 show aU (wpAny_newList ?_ (r! _));show F! ?_;have J3:=J2.write (x:=D) (e:=D) (o:=.lst []) (t':=w.toks) (h':=R.update D 105#(#[])) (by rw[aa];trivial) (.inl rl) (λb u nb eb=>(s1'.2 b nb).trans eb) ⟨_,Uz⟩ (aS (r! _) [] t .nil Uz)
 have J4:=J3.Qj (a:=D) aa Uz;generalize VQ:η 97#(η HL D 69#(201#0)) D (.p7 (seqObj "list" #[] t) (.lst []))=G at J4;have at2:∀b u,HL b=some u->G b=some u:=λb u eb=>by
  have nb:b≠D:=λz=>by rw[z,hfr]at eb;cases eb
  rwa [<-VQ,ao nb,ao nb,ao nb]
 have ZC:G D=some (.p7 (seqObj "list" #[] t) (.lst [])):=by rw[<-VQ,aa]
 generalize R.update D 105#(#[])=l at J3 J4
 rw[e0];have hkk:∀b u,l.get? b=some u->((l.push (seqObj "tuple" its.toArray 0)).push (seqObj "list" #[] 0)).get? b=some u:=λb u eb=>c! _ (c! _ eb)
 have hS:(l.push (seqObj "tuple" its.toArray 0)).objs.size=l.objs.size+1:=size_push' ..;have oK:=J4.Nj (b:=(l.push (seqObj "tuple" its.toArray 0)).objs.size) (by change l.objs.size<=_;rw[hS];show Q! _)
 have gK:((l.push (seqObj "tuple" its.toArray 0)).push (seqObj "list" #[] 0)).get? (l.push (seqObj "tuple" its.toArray 0)).objs.size=some (seqObj "list" #[] 0):=v! _ rfl;have frK:G (l.push (seqObj "tuple" its.toArray 0)).objs.size=none:=J4.hok.fresh (by change l.objs.size<=_;rw[hS];show Q! _)
 have UC:∀q∈(f,57#fJ)::S,q.1<l.objs.size:=λq hq=>a! (J4.pin q (jd _ hq)).1
 have J5:θ X (((l.push (seqObj "tuple" its.toArray 0)).objs.size,seqObj "list" #[] 0)::(f,57#fJ)::S) U G { w with heap:=(l.push (seqObj "tuple" its.toArray 0)).push (seqObj "list" #[] 0)}:=by
  have K:=J4.kept (t':=w.toks) hkk;show K.gT λq hq=>?_
  rcases Z'.mp hq with rfl|hq
  .show dD gK frK oK.2.1 oK.2.2.1 198#0
  .show K.pin q (jd _ hq)
 have pK:∀q∈(f,57#fJ)::S,q.1≠(l.push (seqObj "tuple" its.toArray 0)).objs.size:=λq hq=>by
  have:=UC q hq;rw[hS];show n! (T? this)
 have ZD:its.toArray.size=its.length:=B! ..;change wpAny 8#0 X.A.in1.in1 (ksk_rest D (.ref f) false its.toArray t (.ref (l.push (seqObj "tuple" its.toArray 0)).objs.size)) _ _ { w with heap:=(l.push (seqObj "tuple" its.toArray 0)).push (seqObj "list" #[] 0)}
 generalize (l.push (seqObj "tuple" its.toArray 0)).objs.size=kS at oK J5 pK;generalize (l.push (seqObj "tuple" its.toArray 0)).push (seqObj "list" #[] 0)=h4 at J5;unfold ksk_rest;show aU (wpAny_rule ?_);rw[List.forIn_toArray];show aU (ksk_fold (λi s'=>∃H3 ds en,ak G H3/\θ X ((kS,seqObj "list" (169#ds.map) en)::(f,57#fJ)::S) U H3 s'/\ds.length=i/\∀(j:Nat) d n,ds[j]?=some d->ns[j]?=some n->H3 d=15#([.int (kf n).1,.int (kf n).2]))
  its 0 _ ⟨G,(bC [] 0 (ak.refl _) J5 rl λj d n z=>by cases z)⟩ ?_ ?_)
 .intro j y s' hy;show eg λH3=>aY λds en zq I3 hdl hkeys=>?_
  rw[adR]at hdl ⊢;have hj:j<its.length:=(iJ.mp hy).1;have ZE:ns[j]?=some (ns[j]'(by lia)):=z! _
  obtain⟨uu,hu,ru⟩:=rv.get (show(201#0)[j]?=54#(ns[j]'(by lia)) by rw[d!,ZE];rfl)
  rw[hy]at hu;cases hu;obtain⟨hct,_⟩:=(show dm X.prog X.w H3 s'.heap c (.p7 oc (.own P)) from I3.hok c _ (zq _ _ (at2 _ _ Qf)))
  have hroom:X.A.in1.in1.depth<recursionLimit:=((C.in1).in1).depth;show aU (wpAny_attempt (p! (C5 (v:=.int (ns[j]'(by lia))) I3 T B I3.ok.frames rl hroom 55#List.Mem.tail (hoc.rec hct) (O c ctv _) hco hgen (he f c s' H3 (((C.in1).in1).deeper _)) ru
   (hturn H3 (λb u eb n1 n2=>zq _ _ (at2 _ _ (ZA b u eb n1 n2))) _ (E_ _))) (λv s3 hv=>?_) λ_ _ z=>z))
  revert hv;show bh λw' H4 I4=>bG λrw' VW d Vw Yi=>?_;subst Vw
  cases rw';have Gd:=I4.pin (kS,_) 55#jd;have sb:=i? s3.heap kS (Obj.mapSeq (·.push (.ref d)));have ea:(169#ds.map).push (.ref d)=169#(ds++[d]).map:=by simp
  obtain⟨c2,hc2⟩:∃c2,(s3.heap.update kS (Obj.mapSeq (·.push (.ref d)))).get? kS=some (seqObj "list" (169#(ds++[d]).map) c2):=⟨_,by rw[<-ea];show get?_update_seq Gd.1 (·.push (.ref d))⟩
  try dsimp only
  show aU (listUpdate_at Gd.1 rl ?_ (by rw[B!,χ,sizeLine_eq];lia) (b! (o_ (Array.size_push ..)) (by rw[B!,χ,sizeLine_eq];lia)))
  show Θ 34#(aV H4 (ds++[d]) c2 (λb u z=>VW _ _ (zq _ _ z)) ?_ (by rw[i!,X!,hdl]) λi d' n' t e2=>?_)
  .show I4.jF (t':=s3.toks) oK (.head _) (λb u nb eb=>(sb.2 b nb).trans eb) λq hq=>by
    rcases Z'.mp hq with rfl|hq
    .show .inl (bF rl hc2 (198#0))
    .show .inr ⟨.tail _ hq,pK q hq⟩
  .by_cases hi:i<ds.length
   .rw[d? hi]at t;show VW _ _ (hkeys i d' n' t e2)
   .rw[u? (by lia)]at t
    have hi2:i=j:=by
     have:=(iJ.mp t).1;rw[X!]at this
     lia
    subst hi2;rw[hdl,L_]at t;have t:d=d':=by simpa using t
    rw[ZE]at e2;cases e2
    rwa [<-t]
 .intro s';show eg λH3=>aY λds en zq I3 hdl hkeys=>?_
  rw[adR]at hdl;have Gd:=I3.pin (kS,_) 55#jd
  try dsimp only
  show aU (listItems_at Gd.1 rl ?_);show Km I3 oK pK (zq _ _ ZC) rv h64 (by lia) hkeys hok J3 aa λs5 ns' M Yj I5=>ae _ rl (Θ (ae _ rl ?_))
  have I6:θ X S U (η 97#H3 D 69#(ns'.map V.int)) s5:=I5.gT λq hq=>I5.pin q (jd _ (.tail _ hq))
  have nD:∀b u,HL b=some u->b≠D:=λb u eb z=>by rw[z,hfr]at eb;cases eb
  have Yk:∀b u,HL b=some u->η 97#H3 D 69#(ns'.map V.int) b=some u:=λb u eb=>by
   rw[ao (nD b u eb),ao (nD b u eb)];show zq _ _ (at2 _ _ eb)
  have I7:=C3 A hP L ID hoc I6 (Yk _ _ Te) (Yk _ _ Qf);show aq (.ref D) _ I7 rl (Td D ns' _ (Rz D hfr) (C4 hP L ID (oc:=oc) λb u eb=>Yk b u (by rw[<-hLd];show eb)) ?_ M Yj)
  unfold given;rw[ao (λz=>nD _ _ Te z.symm),ao (λz=>nD _ _ Qf z.symm),aa]
end
end L2
namespace RM
section
variable {N:Net}{L:Nat->Int}
def mW(q m m'):N.par q (m^^^m')=(N.par q m^^N.par q m'):=by
 have e:∀a b:Nat,N.par a b=N.par b a:=λa b=>cT λk _=>Bool.and_comm _ _
 rw[e,lg,e m,e m']
theorem uv:∀{n i},i<n->(∀k,k<n->k≠i->f k=false)->cX f n=f i
 | 0,i,h,_=>absurd h (E? _)
 | n+1,i,h,m=>by
   change(cX f n^^f n)=f i
   by_cases e:i=n
   .subst e;rw[ig λk Y=>m k (by lia) (by lia),a_]
   .rw[uv (95#(i<n)) λk Y G=>m k (by lia) G,m n (by lia) (λz=>e z.symm),Z!]
theorem zw:∀{n:Nat},cX f n=true->∃i,i<n/\f i=true
 | 0,h=>by cases h
 | n+1,h=>by
   have h:(cX f n^^f n)=true:=h;cases F:f n with
   | true=>show ae n (by lia) F
   | false =>
     rw[F,Z!]at h;show af (λi Z R=>?_) (zw h)
     show ae i (by lia) R
theorem vP(f):∀n,cX f (n+1)=(f 0^^cX (λi=>f (i+1)) n)
 | 0=>by
   change(false^^f 0)=(f 0^^false);rw[a_,Z!]
 | n+1=>by
   change(cX f (n+1)^^f (n+1))=(f 0^^(cX (λi=>f (i+1)) n^^f (n+1)))
   rw[vP f n,Bool.xor_assoc]
theorem qD(m):∀(B:List Nat) (z:Nat),N.par (Ω B z) m=cX (λi=>z.testBit i&&N.par (B.getD i 0) m) B.length
 | [],z=>kg m
 | b::B,z=>by
   change N.par ((if z.testBit 0=true then b else 0)^^^Ω B (z/2)) m=cX _ (B.length+1)
   rw[lg,qD m B (z/2),vP];have t:N.par (if z.testBit 0=true then b else 0) m=(z.testBit 0&&N.par b m):=by
    cases z.testBit 0 with
    | true=>simp
    | false=>simp[kg]
   rw[t];have U:cX (λi=>(z/2).testBit i&&N.par (B.getD i 0) m) B.length=cX (λi=>z.testBit (i+1)&&N.par ((b::B).getD (i+1) 0) m) B.length:=cT λi _=>by
    rw[G_];rfl
   rw[U];rfl
def len(N:Net)(L:Nat->Int)(r:Nat):Int:=lsum L (λk=>183#0) N.n
structure DP(N:Net)(L:Nat->Int)(bs us:List Nat):Prop where
 lens:bs.length=us.length
 ring:∀b∈bs,N.Ring b/\b<2^N.n
 own:∀(i b w:Nat),bs[i]?=some b->us[i]?=some w->N.par b w=true/\∀r,N.Ring r->r<2^N.n->N.par r w=true->len N L b<=len N L r
 UB:∀(i j b w:Nat),i<j->bs[i]?=some b->us[j]?=some w->N.par b w=false
def DP.start:DP N L [] []:=⟨rfl,λb h=>(i_ h).elim,λi b w h=>(by simp at h),λi j b w _ h=>(by simp at h)⟩
def DP.snoc(h:DP N L W g)(C:N.Ring b)(P:b<2^N.n)(Y:N.par b w=true)(d:∀r,N.Ring r->r<2^N.n->N.par r w=true->len N L b<=len N L r)(T:∀E∈W,N.par E w=false):DP N L (W++[b]) (g++[w]):=by
 have c:∀{l:List Nat} {x i y:Nat},(l++[x])[i]?=some y->(i<l.length/\l[i]?=some y)\/(i=l.length/\y=x):=λ{l x i y} e=>by
  by_cases I:i<l.length
  .rw[d? I]at e;show .inl ⟨I,e⟩
  .have R:=(iJ.mp e).1;rw[i!,X!]at R;have a:i=l.length:=by lia
   rw[u? (by lia),a,L_]at e
   show .inr ⟨a,(20#e).symm⟩
 show⟨by rw[i!,i!,h.lens];rfl,λE O=>?_,λi E n Z R=>?_,λi j E n H Z R=>?_⟩
 .rcases D!.mp O with z|z
  .show h.ring E z
  .rw[q!.mp z];show⟨C,P⟩
 .have P:=h.lens;rcases c Z with⟨p,t⟩|⟨p,t⟩<;>rcases c R with⟨M,U⟩|⟨M,U⟩
  .show h.own i E n t U
  .lia
  .lia
  .rw[t,U];show⟨Y,d⟩
 .have P:=h.lens;rcases c Z with⟨p,t⟩|⟨p,t⟩<;>rcases c R with⟨M,U⟩|⟨M,U⟩
  .show h.UB i j E n H t U
  .rw[U];show T E (fP t)
  .lia
  .lia
def DP.at(h:DP N L W g)(I:i<W.length):∃w,g[i]?=some w/\W[i]?=some (W.getD i 0):=by
 have Z:i<g.length:=by rw[<-h.lens];show I
 show ae (g[i]) (z! Z) (by rw[u!,z! I];rfl)
theorem A5{f:Nat->Prop}:∀{n i:Nat},i<n->f i->∃l,l<n/\f l/\∀j,l<j->j<n->¬ f j
 | 0,i,h,_=>absurd h (E? _)
 | n+1,i,h,F=>by
   by_cases g:f n
   .show au n (by lia) g λj Z R=>by lia
   .have I:i<n:=by
     rcases Nat.lt_or_ge i n with z|z
     .show z
     .have e:i=n:=by lia
      rw[e]at F;show absurd F g
    show aA (λl Z R a=>?_) (A5 I F)
    show au l (by lia) R λj A M=>?_
    by_cases e:j=n
    .rw[e];show g
    .show a j A (by lia)
def DP.parts(h:DP N L W u)(C:N.Ring (Ω W z))(P:Ω W z<2^N.n):∀i,i<W.length->z.testBit i=true->len N L (W.getD i 0)<=len N L (Ω W z):=by
 intro i I m;apply n?;intro s;show aA (λl Z t A=>?_) (A5 (f:=λi=>z.testBit i=true/\¬ len N L (W.getD i 0)<=len N L (Ω W z)) I ⟨m,s⟩);obtain⟨R,q⟩:=t
 show af (λw o O=>?_) (h.at Z)
 obtain⟨r,v⟩:=h.own l _ w O o;have M:=qD (N:=N) w W z
 by_cases B:∃j,l<j/\j<W.length/\z.testBit j=true/\N.par (W.getD j 0) w=true
 .revert B;show gE λj k d c b=>?_
  show af (λ_ _ a=>?_) (h.at d)
  obtain⟨e,n⟩:=h.ring _ (fP a);have x:=v _ e n b;have p:=n? λg=>A j k d ⟨c,g⟩
  lia
 .rw[uv Z (λj D G=>?_),R,r]at M
  .show q (v _ C P M)
  .cases b:z.testBit j with
   | false=>rfl
   | true =>
     rcases Nat.lt_or_ge j l with c|n
     .show af (λ_ _ a=>?_) (h.at D)
      rw[h.UB j l _ w c a o];rfl
     .cases a:N.par (W.getD j 0) w with
      | false=>rfl
      | true=>show absurd (cP j (by lia) D b a) B
def DP.ind(h:DP N L W g):B3 W:=by
 intro z m d;apply n?;intro n;obtain⟨i,I⟩:=r_ n;have c:=mS m I;show aA (λl Z R A=>?_) (A5 (f:=λi=>z.testBit i=true) c I)
 show af (λw o O=>?_) (h.at Z)
 obtain⟨r,_⟩:=h.own l _ w O o;have M:=qD (N:=N) w W z;rw[d,kg,uv Z (λj D G=>?_),R,r]at M
 .cases M
 .cases b:z.testBit j with
  | false=>rfl
  | true =>
    have e:j<l:=by
     rcases Nat.lt_or_ge j l with z|z
     .show z
     .show absurd b (A j (by lia) D)
    show af (λ_ _ a=>?_) (h.at D)
    rw[h.UB j l _ w e a o];rfl
def Base.span(h:Base N y)(T:N.eR e)(P:e<2^N.n):∃z,z<2^y.length/\Ω y z=e:=by
 apply uo;apply n?;intro g;have Z:=qA.mpr ⟨h.ind,g⟩;have R:=S5 Z (λb O=>by
  rcases D!.mp O with z|z
  .show⟨(h.ring b z).1.2.1,(h.ring b z).2⟩
  .rw[q!.mp z];show⟨T,P⟩)
 rw[i!,X!,h.len]at R
 lia
def LB(N:Net)(L:Nat->Int)(y:List Nat):Prop:=Base N y/\∀r m,N.Ring r->r<2^N.n->N.par r m=true->∃b∈y,N.par b m=true/\len N L b<=len N L r
def LB.perm{y a:List Nat}(h:LB N L y)(p:a.Perm y):LB N L a:=⟨h.1.perm p,λr m Z R l=>let⟨b,hb,q⟩:=h.2 r m Z R l;(ae b (p.mem_iff.mpr hb) q)⟩
def DP.least(h:DP N L W g)(P:W.length=N.cZ.length):LB N L W:=by
 have U:Base N W:=⟨P,h.ring,h.ind⟩;show⟨U,λr m C w Y=>?_⟩
 show af (λz b a=>?_) (U.span C.2.1 w);subst a
 rw[qD]at Y;show af (λi I Z=>?_) (zw Y)
 have Z:=Bool.and_eq_true_iff.mp Z;show af (λ_ _ O=>?_) (h.at I)
 show au _ (fP O) Z.2 (h.parts C w i I Z.1)
structure Wt(N:Net)(bs ws cs:List Nat):Prop where
 lens:ws.length=cs.length
 sum:bs.length+ws.length=N.cZ.length
 ch:∀c∈cs,c<N.n/\N.mH c=false
 lt:∀w∈ws,w<2^N.n
 bits:∀w∈ws,∀k,w.testBit k=true->N.mH k=false
 own:∀(i j w c:Nat),ws[i]?=some w->cs[j]?=some c->w.testBit c=decide (i=j)
 eS:∀w∈ws,∀b∈bs,N.par b w=false
def Wt.odd(h:Wt N W (w::a) g):∃r,N.Ring r/\r<2^N.n/\N.par r w=true:=by
 have P:=h.lens
 match g,P,h with
 | c::g,P,h =>
   obtain⟨M,p⟩:=h.ch c g!;show au (N.ring c) (rR M p) (kZ M) ?_;have e:N.par (N.ring c) w=((N.ring c).testBit c&&w.testBit c):=uv M λk Y G=>by
    cases o:w.testBit k with
    | false=>show d_ _
    | true =>
      have:=pJ p (h.bits w g! k o);rw[this,gm (λz=>G z.symm)]
      rfl
   rw[e,uX p,h.own 0 0 w c rl rfl];rfl
def Wt.next(h:Wt N W (w::l) g)(q:N.par b w=true):∃c f,g=c::f/\Wt N (W++[b]) (l.map λv=>if N.par b v=true then v^^^w else v) f:=by
 have P:=h.lens
 match g,P,h with
 | c::g,P,h =>
   show bf c g rl ?_;have o:=h.lt w g!;have a:∀v∈l,v∈w::l:=λv z=>jx _ z
   show⟨by rw[χ];simpa using P,?_,λd J=>h.ch d (jx _ J),λn e=>?_,λn e k Y=>?_,λi j n d Z R=>?_,λn e E Q=>?_⟩
   .have:=h.sum;rw[y!]at this;rw[i!,X!,χ]
    lia
   .show af (λv m r=>?_) (U'.mp e);subst r
    split
    .show T! (h.lt v (a v m)) o
    .show h.lt v (a v m)
   .show af (λv m s=>?_) (U'.mp e);subst s
    split at Y
    .rw[h!]at Y;cases Z:v.testBit k with
     | true=>show h.bits v (a v m) k Z
     | false =>
       rw[Z,a_]at Y;show h.bits w g! k Y
    .show h.bits v (a v m) k Y
   .rw[d!]at Z;show af (λv G O=>?_) (nC.mp Z);subst O
    have t:=h.own (i+1) (j+1) v d (by simpa using G) (by simpa using R)
    have U:=h.own 0 (j+1) w d rl (by simpa using R)
    have p:13#(i+1=j+1)=decide (i=j):=M?.mpr (by lia)
    rw[p]at t
    split
    .rw[h!,t,U];simp
    .show t
   .show af (λv m x=>?_) (U'.mp e);subst x
    rcases D!.mp Q with z|z
    .have u:=h.eS v (a v m) E z;have X:=h.eS w g! E z
     split
     .rw[mW,u,X];rfl
     .show u
    .rw[q!.mp z]
     split
     .rename_i M
      rw[mW,M,q];rfl
     .rename_i M
      cases D:N.par b v with
      | false=>rfl
      | true=>show absurd D M
def Wt.start(n:N.cZ.Nodup):Wt N [] (N.cZ.map λc=>2^c) N.cZ:=by
 show⟨χ ..,by rw[χ];simp,λc L=>dZ.mp L,λw o=>?_,λw o k Y=>?_,λi j w c Z R=>?_,λw _ b O=>by cases O⟩
 .show af (λc L P=>?_) (U'.mp o);subst P
  show y_ 7#0 (dZ.mp L).1
 .show af (λc L t=>?_) (U'.mp o);subst t
  rw[J!]at Y;rw[<-nB Y];show(dZ.mp L).2
 .rw[d!]at Z;show af (λd J f=>?_) (nC.mp Z);subst f
  rw[J!];show M?.mpr ⟨λz=>?_,λz=>?_⟩
  .subst z;obtain⟨S,a⟩:=iJ.mp J;obtain⟨e,u⟩:=iJ.mp R;show(_Q n).mp (a.trans u.symm)
  .subst z;rw[J]at R;show 20#R
end
end RM
namespace L2
open PySem PySem.Spec PyProof.Rows
section
variable {K:cu}{mg:xA}{x:Str}{st:Stmt}{f c0 p0:Addr}{fd:FuncData}{ps:List Str}{h:Heap}
structure Dc(K:cu)(mg:xA)(x:Str)(f:Addr)(fd:FuncData)(ps:List Str):Prop where
 m:mg x=some (.ref f)
 k:68#K
 b:Binds K fd ps []
structure Dk(K:cu)(x:Str)(st:Stmt)(f:Addr)(fd:FuncData):Prop where
 F:Cg K x x st f fd
 n:136#x=41#(.ref f)
structure WZ(K:cu)(x:Str)(st:Stmt)(f:Addr)(fd:FuncData)(c0 p0:Addr):Prop where
 F:F7 K x x st f fd c0 p0
 n:136#x=41#(.ref f)
def dk{kV doc pm cdv ct}(a:136#x=41#(.ref f))
 (l:K.lookup f=some ⟨oc,m,.func (PySem.W.fnOf x x (eW st) (cO st) (aQ st) .none kV doc pm R cdv ct),n⟩) (c:PySem.W.codeIn K cdv x=true) (k:68#K) :
 Dk K x st f (PySem.W.fnOf x x (eW st) (cO st) (aQ st) .none kV doc pm R cdv ct):=⟨E8 l c k,a⟩
def dkL{kV doc pm ct}(a:136#x=41#(.ref f))
 (l:K.lookup f=some ⟨oc,m,.func (PySem.W.fnOf x x (eW st) (cO st) (aQ st) .none kV doc pm R (.ref c0) ct),n⟩) (c:PySem.W.codeIn K (.ref c0) x=true) (k:68#K) (d:PySem.W.codeHdIn K c0 p0=true) :
 WZ K x st f (PySem.W.fnOf x x (eW st) (cO st) (aQ st) .none kV doc pm R (.ref c0) ct) c0 p0:=⟨Qh l c k d,a⟩
structure Ng(K:cu)(x:Str):Prop where
 n:136#x=some none
def Bn(x:Str)(st:Stmt)(ps:List Str)(g:70#0):Prop:=∀kV X z R d j,bindArgs (PySem.W.fnOf x x (eW st) (cO st) (aQ st) .none kV X z R d j) ⟨g,[]⟩=pure (ps.zip g)
def RA(h:∀g:70#0,g.length=ps.length->Bn x st ps g)(kV X z:Value)(R:184#0)(d ct:Value)(g:70#0)(P:g.length=ps.length):
 bindArgs (PySem.W.fnOf x x (eW st) (cO st) (aQ st) .none kV X z R d ct) ⟨g,[]⟩=pure (ps.zip g):=h g P kV X z R d ct
def ZF(h:∀a,Bn x st [y] [a])(g:70#0)(P:g.length=[y].length):Bn x st [y] g:=by obtain⟨_,rfl⟩:=Pj g P;show h _
def ZG(h:∀a b,Bn x st [y,z] [a,b])(g:70#0)(P:g.length=[y,z].length):Bn x st [y,z] g:=by show gF (λ_ _ f=>?_) (Vs g P);subst f;show h _ _
def ZH(h:∀a b c,Bn x st [y,z,u] [a,b,c])(g:70#0)(P:g.length=[y,z,u].length):Bn x st [y,z,u] g:=by show fy (λ_ _ _ r=>?_) (Vt g P);subst r;show h _ _ _
def bn4(h:∀a b c d,Bn x st [y,z,u,v] [a,b,c,d])(g:70#0)(P:g.length=[y,z,u,v].length):Bn x st [y,z,u,v] g:=by show gb (λ_ _ _ _ t=>?_) (Vu g P);subst t;show h _ _ _ _
def Tt{y:Str}(D:Dk K x st f fd)(e:∀a,Bn x st [y] [a]:=by intros;show λ_ _ _ _ _ _=>rfl)(s:Shared)(v:Value):BindsTo s fd ⟨[v],[]⟩ [(y,v)]:=by
 show gb (λl m kV X=>dO λz R d j n O c p=>?_) D.F.ex;subst O
 show .of_eq (e v kV X z R d j)
end
section
variable {X:Cx}
def RB{CX:Lo}{k r:Nat}{f:Addr}{fd:FuncData}{i:List Str}{sp:Sp}{x:Str}{E:XK}{e:Expr}{W:List Expr}{t:TA}{p l:Pos}
 (F:119#i) (C:dF r X.A) (D:Dc X.K X.mg x f fd i) (B:Passes CX X E) (a:PA X (e::W) t) (Y:k<=r:=by decide) (M:Gl X x:=by rfl)
 (v:193#("__debug__":Str):=by decide) (T:9#(e::W)=25#e::9#W:=by rfl) (b:(backTo l (9#W)).any (·.1)=false:=by rfl) :
 PE X (.Call (.Name x p) (e::W) [] l) (Ca sp [] E t):=O3 F (C.mono Y) M D.m D.k D.b .nil B a v T b
def fR(l:List Str)(h:l.Nodup:=by decide +kernel):l.Nodup:=h
def cf{p l:Pos}{e:Expr}{W:List Expr}{t:TA}(K:cu)(d:X.mg "len"=none)(E:PA X (e::W) t)(J:X.K=K:=by rfl)(M:Gl X "len":=by rfl)
 (T:9#(e::W)=25#e::9#W:=by rfl) (b:(backTo l (9#W)).any (·.1)=false:=by rfl):PE X (.Call (.Name "len" p) (e::W) [] l) (XA (Vl K) t) :=
 cS (XH K J) M d adL E 7#0 7#0 T b
def b8{a b:Expr}{z tb:TE}{l:Pos}{r:R2}(C:HJ X r)(E:PE X a z)(O:PE X b tb)(W:HH b:=by show λ_ _=>rfl):PE X (.Subscript a b l) (R4 r z tb):=Vd C E O W
def br{x:Str}{l:Pos}(i:Nat)(o:X.N.Nodup)(I:X.N[i]?=some x:=by show rfl)(B:Loc X.env.scope x:=by show Or.inl rl)(F:X.fn x=true\/32#x:=by show 111):PG X (.Name x l) (Hr i):=p8 o I B F
end
end L2
namespace RM
def Ql(I:B3 B)(h:∀b∈B,Sp A b):B.length<=A.length:=by
 have W:∀z,∃y,y<2^A.length/\Ω A y=Ω B z:=λz=>uo ((nO B z).mono h)
 show IC (λz _=>(adv (W z)).1) λz y m a e=>vD B I m a ?_
 have e:=e;rw[<-(adv (W z)).2,<-(adv (W y)).2,e]
def NK(h:B3 B)(i):B3 (B.take i):=by
 have h:=(IB B).mp h;show(IB _).mpr λj b D=>?_
 rw[adN]at D
 split at D
 .rename_i q
  have:=h j b D
  rwa [List.take_take,m_ (U! q)]
 .cases D
section
variable {N:Net}
theorem apart:∀{B:List Nat} {v:Nat},v<2^N.n->(∀b∈B,b<2^N.n)->¬ Sp B v->∃m,(∀b∈B,N.par b m=false)/\N.par v m=true
 | [],v,a,_,h=>by
   obtain⟨k,Y⟩:∃k,v.testBit k=true:=n? λg=>h (by
    rw[show v=0 from q? λk=>by
     rw[c_];show RS.mpr λz=>g ⟨k,z⟩]
    show .zero)
   show ae (2^k) (λb O=>nomatch O) ?_
   have e:N.par v (2^k)=N.par (2^k) v:=cT λj _=>Bool.and_comm _ _
   rwa [e,AI (eX a Y)]
 | b::B,v,a,hB,h=>by
   have d:∀{x},Sp B x->Sp (b::B) x:=λz=>z.mono λc L=>.mem (jx _ L)
   have O:=hB b g!;have f:∀c∈B,c<2^N.n:=λc L=>hB c (jx _ L)
   have all:∀m,(∀c∈B,N.par c m=false)->N.par b m=false->∀c∈b::B,N.par c m=false:=λm Z R c L=>by
    rcases Z'.mp L with rfl|L
    .show R
    .show Z c L
   show af (λm Z R=>?_) (apart a f λz=>h (d z))
   show af (λq l A=>?_) (apart (T! a O) f λz=>h (by
    have:=(d z).add g!
    rwa [b?,N?,k?]at this))
   rw[lg]at A;cases e:N.par b m with
   | false=>show ae m (all m Z e) R
   | true=>cases U:N.par b q with
     | false =>
       rw[U,Z!]at A;show ae q (all q l U) A
     | true =>
       show ae (m^^^q) (all _ (λc L=>by rw[mW,Z c L,l c L];rfl) (by rw[mW,e,U];rfl)) ?_
       rw[U,Bool.xor_true]at A;rw[mW,R,show N.par v q=false by simpa using A]
       rfl
def LB.parts(h:LB N L y)(C:N.Ring r)(P:r<2^N.n):Sp (y.filter λb=>13#(len N L b<=len N L r)) r:=n? λg=>by
 show af (λm Z R=>?_) (apart P (λb O=>(h.1.ring b (K!.mp O).1).2) g)
 show aA (λb O l A=>?_) (h.2 r m C P R)
 rw[Z b (K!.mpr ⟨O,e8 A⟩)]at l;cases l
def De{A B:List Nat}{f:Nat->Int}(E:A.Pairwise λx y=>f x<=f y)(O:B.Pairwise λx y=>f x<=f y)(I:B3 B)(h:∀b∈B,Sp (A.filter λc=>13#(f c<=f b)) b):
 ∀(i a b:Nat),A[i]?=some a->B[i]?=some b->f a<=f b:=by
 intro i a b P s;apply n?;intro g;have w:=Int.not_le.mp g;have r:∀{C:List Nat} {i j x y:Nat},C.Pairwise (λx y=>f x<=f y)->C[i]?=some x->C[j]?=some y->i<=j->f x<=f y:=λ{C i j x y} M Z R H=>by
  obtain⟨p,t⟩:=iJ.mp Z;obtain⟨u,U⟩:=iJ.mp R;rcases Nat.lt_or_eq_of_le H with z|z
  .rw[<-t,<-U];show acX.mp M i j p u z
  .subst z;rw[Z]at R;rw[20#R];show r? _
 have o:=(iJ.mp s).1;have e:=Ql (A:=A.take i) (NK I (i+1)) λc L=>by
  obtain⟨j,D⟩:=g? L;rw[adN]at D
  split at D
  .rename_i q
   show(h c (fP D)).mono λd J=>?_
   obtain⟨J,m⟩:=K!.mp J;have m:=nB m;have l:=r O D s (by lia)
   obtain⟨k,Y⟩:=g? J;show .mem ?_;have S:k<i:=by
    apply n?;intro n;have:=r E P Y (by lia)
    lia
   show fP (by rw[adN,ο S];show Y)
  .cases D
 rw[I!,I!]at e
 lia
def NL{A B:List Nat}{f:Nat->Int}(P:A.length=B.length)(h:∀(i a b:Nat),A[i]?=some a->B[i]?=some b->f a<=f b)(h' : ∀(i a b:Nat),B[i]?=some a->A[i]?=some b->f a<=f b):A.map f=B.map f:=by
 show List.ext_getElem (by rw[χ,χ,P]) λi a b=>?_
 rw[χ]at a b;rw[List.getElem_map,List.getElem_map];show Int.le_antisymm (h i _ _ (z! a) (z! b)) (h' i _ _ (z! b) (z! a))
end
end RM
namespace L2
open PySem PySem.Spec PyProof.Rows
abbrev Fsc(N:List Str)(k:Nat)(s:Stmt):=dH N (N.take k) (aQ s)
section
variable {X:Cx}{e e' : Expr}{te ZI:TE}
def bH(E:PE X e te)(W:9#([e])=25#e::9#([]):=by rfl):PA X [e] (HC te LK):=bq E dY W
def bM(E:PE X e te)(O:PE X e' ZI)(W:9#([e,e'])=25#e::9#([e']):=by rfl)(n:9#([e'])=25#e'::9#([]):=by rfl):PA X [e,e'] (HC te (HC ZI LK)):=bq E (bq O dY n) W
def dS{i j pos q}(K:cu)(E:PE X e te)(h:X.K=K:=by rfl):PE X (.Subscript e (.Constant (.int i) j q) pos) (R4 (O8 K) te (tC (.int i))):=b8 (B0 K h) E av
def sN{i j pos q}(K:cu)(E:PE X e te)(h:X.K=K:=by rfl):PE X (.Subscript e (.Constant (.int i) j q) pos) (R4 (O7 K) te (tC (.int i))):=b8 (iP K h) E av
def bQ{x:Str}{l p:Pos}(i:Nat)(o:X.N.Nodup)(T:PE X e te)(I:X.N[i]?=some x:=by show rfl)(B:Loc X.env.scope x:=by show Or.inl rl)(W:swapsWith e (some (.Name x p)) l.line X.env=pure false:=by rfl)(F:X.fn x=true\/32#x:=by show 111):
 PS X (.Assign [.Name x p] e l) (R3 te (Hr i)):=gU o I B T W F
def c9{scope g:Scope}{own fq N i:List Str}{js:List Nat}(S:dH N i g)(Z:X.env.scope=g:=by rfl)(R:X.N=N:=by rfl)(h:uO scope g N fq js=true:=by decide +kernel):154#own:=Ci g N Z R h
end
def gj:sC (a::l) 0=some a:=aH rfl
def g5:sC (a::b::l) 1=some b:=aH rfl
def A6:isSubtype (.type "str") (.type "str")=pure true:=by rw[isSubtype_type];kernel_rfl
def A7:fB X (.type "str") (λxs H Q=>∃x,xs=[.str x]/\Q (.str x) H):=by
 intro d s U H xs g Q I r h
 revert h;show af λx f q=>?_;subst f
 show 164#(λu b=>eg λt c=>?_);subst b c
 show callType_newIn F.called_str 7#0 (F.typeCall_str_1 _) (F.newCall_str_1 _) (λa=>F.args_object_init_2 a _) F.entry_str_new (S:=λA R s=>R (161#(.str x t)) s) (.of_wp λA R s h=>?_) 34#(aq (.str x) _ I 197#0 q)
 have M:=A6
 show 89
 show ae _ rl h
def qE:fB X (.type "str") (λxs H Q=>(∃i,xs=[.int i]/\i.natAbs.log2<1920/\Q (.str (toString i)) H)\/∃x,xs=[.str x]/\Q (.str x) H):=by
 show 185;rcases h with h|h
 .show gV S s U H xs g Q I r h
 .show A7 S s U H xs g Q I r h
def NN(P:Program)(w:World)(K:cu)(d:Addr)(L:194#Addr):Prop :=
 ∃o E,K.lookup d=some o/\PySem.W.KdkAt (strKind P w) o (L.map λp=>(p.1,Value.ref p.2)) E
theorem qF(x)(f):∀L:194#Addr,L.lookup x=some f->valueAt (L.map λp=>(p.1,Value.ref p.2)) x=some (Value.ref f)
 | (k,g)::r,h=>by
   unfold valueAt;rw[l!,Y?]
   by_cases e:k=x
   .subst e;rw[_y]at h;cases h;simp
   .have U:=beq_false_of_ne λz=>e z.symm
    rw[z?,U]at h;simp only[e,decide_false];show qF x f r h
def NO{w:World}{K:cu}{l:194#(Tok×Addr)}(h:K.lookup d=some ⟨.type "dict",none,.dict (l.map λp=>⟨PyData.keyHash w.params p.1,.str p.1 p.2.1,.ref p.2.2⟩).toArray E,#[]⟩)(n:(l.map (·.1)).Nodup):
 NN P w K d (l.map λp=>(p.1,p.2.2)):=by
 show gR _ E (cD h _ (dD (bF rl rl rl) rl (λe T=>?_) ?_ ?_))
 .simp only[List.mem_toArray,U']at T
  revert T;show af λp _ f=>?_;subst f
  show ae p.1 (show Value.isStrOf p.1 (.str p.1 p.2.1)=true by simp[Value.isStrOf]) rfl
 .clear h n
  induction l with
  | nil=>show .nil
  | cons p r G=>show .cons (show Value.isStrOf p.1 (.str p.1 p.2.1)=true by simp[Value.isStrOf]) rfl G
 .rwa [L!,L!]
def VX(L:194#Addr)(l:TE):TE:=λU H Q=>l U H λy N=>∃x f,y = .str x/\L.lookup x=some f/\Q (.ref f) N
def Tu(C:Addr->Sp->Prop)(E:XK)(b:TE)(t:TA):TE:=λU H Q=>b U H λy N=>∃f a,y = .ref f/\C f a/\t U N λF G=>a F G Q E
section
variable {X:Cx}{d:Addr}{kvs:194#Addr}{a b e:Expr}{es:List Expr}{ty tf:TE}{t:TA}{pos p:Pos}{C:Addr->Sp->Prop}{E:XK}
def Tv(J:NN X.prog X.w X.K d kvs)(g:PE X a (tC (.ref d)))(O:PE X b ty)(W:PD b:=by show λ_ _=>rfl):PE X (.Subscript a b pos) (VX kvs ty):=by
 show 47;show AQ acV.lookup W (c6 (g S s U H (λx N=>x = .ref d/\VX kvs ty U N Q) I ⟨rfl,h⟩) λu j=>aY λx N A rx e n=>?_)
 show c6 (O S j U N _ A n) λp w=>aD λy G L B=>aD λz f i F R=>?_
 subst e i;obtain rfl:u=Value.ref d:=rx;show 76
 revert J;show bh λo E P c=>?_
 have C:=(c.dictAt (L.pB d o P)).dictOf;show⟨C.typeIs,wpAny_getItem_of (show Value.isStrOf z (.str z T)=true by simp[Value.isStrOf]) C.mapOf (qF z f kvs F) (aq (.ref f) G (L.tok _) rl R)⟩
def NP{r:Nat}(z:dF r X.A)(m:∀f sp,C f sp->∃k fd i,k<=r/\iM X.prog X.w X.K X.mg X.base rA k f fd i sp/\68#X.K/\Binds X.K fd i [])(B:Passes rA X E)
 (v:PE X (.Subscript a b p) tf) (o:PA X (e::es) t) (T:9#(e::es)=25#e::9#es:=by rfl) (x:(179#9#es).any (·.1)=false:=by rfl) :
 PE X (.Call (.Subscript a b p) (e::es) [] pos) (Tu C E tf t):=by
 show 47;show aU (c6 27#v λu j=>aD λy N A D=>aD λf sp d l n=>?_)
 subst d;obtain rfl:u=Value.ref f:=D;show eg (λk=>aY λfd i c F Y O=>?_) (m f sp l)
 show A_ A.ok.mod.OY Y (c6 (o pos S j U N _ A n) λg w=>aD λJ G L r q=>⟨L.pB,?_⟩) T x
 show Am F (z.mono c) O .nil B L r (by rw[A?];show q)
end
def mX(P:Program)(w:World)(h:Heap)(k:Str×List Int)(a:Addr):Prop :=
 ∃o n t b,135#o/\o.cls = .type "tuple"/\o.data = .seq #[.str k.1 t,.ref b] n/\PyData.strOk k.1=true/\IsTupleKey (intKind P w) h k.2 b
def Qm(B:mX P w h x a)(W:mX P w h y a):x=y:=by
 revert B;show eg λo=>bO λn t b g _ d _ i=>?_
 revert W;show eg λS=>bO λj T E C _ l _ c=>?_
 rw[g]at C;cases C;rw[d]at l;injection l with l _
 simp only[Array.mk.injEq,List.cons.injEq,Value.str.injEq,Value.ref.injEq,and_true]at l;obtain⟨⟨e,_⟩,rfl⟩:=l;show Prod.ext e ((tupleKind (intKind P w)).inj i c)
def Kn(Y:mX P w h k a)(g:h.get? d=some o)(J:o.data = .dict W E)(r:Heap.SameBut d h h'):mX P w h' k a:=by
 revert Y;show eg λS=>bO λn t b C c l j i=>?_
 show bu S n t b ?_ c l j ((tupleKind (intKind P w)).keeps i g J r);have G:a≠d:=λz=>by rw[z,g]at C;cases C;rw[J]at l;cases l
 show(r.2 a G).trans C
def zx{s:Shared}(g:s.heap.get? a=some o)(c:o.cls = .type "tuple")(d:o.data = .seq p m)
 (h:∀y∈p.toList,∀Q:Bool->Shared->Prop,Q true s->74#(eqIsQuiet n y)) (q:Q true s):74#(eqIsQuiet (n+1) (.ref a)):=by
 have l:s.TypeIs (.ref a) "tuple":=ae o g c;unfold eqIsQuiet;show aU (wpAny_specialOf l PySem.F.slot_tuple_eq.lookup ?_);show aU (wpAny_isInstance l sub_tuple_self ?_);show aU (wpAny_seqItems g d ?_);show aU (wpAny_forIn_array' _ (λH b Z=>Z=s/\b=(none,())/\∀y∈H,y∈p.toList) _ (λy H b Z T=>?_) (λb Z T=>?_) _ _ (bF rfl rfl (λy W=>W)))
 .revert T;show cW λf r e=>?_;subst f r
  show aU (h y (e y (.head _)) _ (Θ (bF rl rl (λz i=>e z (.tail _ i)))))
 .revert T;show cW λt R _=>?_;subst t R
  show Θ q
def zy(h:carriedByValue v=true)(q:Q true s):74#(eqIsQuiet n v):=by
 rw[eqIsQuiet_byValue _ h];show Θ q
def Ko{s:Shared}(Y:mX P w s.heap k a)(q:Q true s):74#(eqIsQuiet 8 (.ref a)):=by
 revert Y;show eg λo=>bO λn t b g c d _ i=>?_
 show zx g c d (λy W Q q=>?_) q
 rcases Z'.mp W with rfl|W
 .show zy rl q
 obtain rfl:=q!.mp W
 revert i;show eg λv=>aY λC m r p j e=>?_
 show zx r p j (λy W Q q=>?_) q
 clear j;generalize C.toList=l at e W;generalize k.2=M at e
 induction e with
 | nil=>cases W
 | cons h _ G =>
   rcases Z'.mp W with rfl|W
   .show zy ((intKind P w).byValue _ _ h) q
   .show G W
def NQ{A:Around}{s:Shared}(m:A.units+1<cLine)(Y:mX P w s.heap k a)
 (q:Q (reduceHash (Builtin.Tuple.tupleHashOf [hashStr w k.1,tupleKeyHash (intKind P w) k.2])) { s with toks:=s.toks+(1+(k.2.length+1)+1)}):74#(pyHash (.ref a)):=by
 rw[95#(s.toks+(1+(k.2.length+1)+1)=s.toks+1+(k.2.length+1)+1)]at q
 revert Y;show eg λo=>bO λn t b g c d _ i=>?_
 have l:s.TypeIs (.ref a) "tuple":=ae o g c;show aU (wpAny_cRoomFor (by lia) ?_)
 show aU (wpAny_specialOf l _r.lookup ?_);rw[ξ 7#0]
 show aU (wpAny_specialOf l _r.lookup ?_);rw[ξ 7#0]
 show aU (wpAny_callSpecialIfBoundUnlessNone?_slot l _r (call_meetsIn (S:=λA R j=>A.units+1<cLine/\j=s/\R (161#(.int (Builtin.Tuple.tupleHashOf [hashStr w k.1,tupleKeyHash (intKind P w) k.2]) (s.toks+1+(k.2.length+1)))) { s with toks:=s.toks+1+(k.2.length+1)+1}) _r l PySem.F.entry_tuple_hash (PySem.F.args_tuple_hash_1 _) (.of_wp λA R j h=>?_) (bF m rl ?_)))
 .revert h;show cW λf O h=>?_;subst O
  show 89
  rw[d];show Θ (Θ (aU (wpAny_forIn_array' _ (λH W Z=>(H=[.str k.1 t,.ref b]/\W = #[]/\Z=j)\/(H=[.ref b]/\W = #[hashStr w k.1]/\Z={ j with toks:=j.toks+1})\/
   (H=[]/\W = #[hashStr w k.1,tupleKeyHash (intKind P w) k.2]/\Z={ j with toks:=j.toks+1+(k.2.length+1)})) _ (λy H W Z T=>?_) (λW Z T=>?_) _ _ (.inl (bF rl rl rl)))))
  .rcases T with⟨e,rfl,rfl⟩|⟨e,rfl,rfl⟩|⟨e,_⟩
   .cases e;show aU ((strKind P w).pyHash (show Value.isStrOf k.1 (.str k.1 t)=true by simp[Value.isStrOf]) (Θ (.inr (.inl (bF rl rl rl)))))
   .cases e;show aU (wpAny_pyHash_tuple (by change A.units+1<cLine;show f) i (Θ (.inr (.inr (bF rl rl rl)))))
   .cases e
  .rcases T with⟨e,_⟩|⟨e,_⟩|⟨_,rfl,rfl⟩
   .cases e
   .cases e
   .show wpAny_ret_mkInt h
 .change wpAny _ _ (pyHashByItsType.reduced _) _ _ _;unfold pyHashByItsType.reduced;unfold reduceHash at q
  split
  .rename_i c
   rw[ο c]at q;show Θ q
  .rename_i c
   rw[ξ c]at q
   show 89
def Ge{M:List Int}{vs:70#0}(H:ItemsAre (intKind P w) M vs):∃as,ReadsAll h vs (M.map .int) as:=by
 induction H with
 | nil=>show⟨_,.nil⟩
 | cons a t G =>
   obtain⟨as,r⟩:=G
   rename_i k v _ _
   cases v with
   | int i j =>
     obtain rfl:i=k:=by
      have:Value.isInt k (.int i j)=true:=a
      simpa[Value.isInt]using this
     show⟨_,.cons (.int _ _) r⟩
   | _=>show absurd a (by simp[intKind,Value.isInt])
def zz(Y:mX P w h k a):∃as,Reads h (.ref a) (.tuple [.str k.1,.tuple (k.2.map .int)]) as:=by
 revert Y;show eg λo=>bO λn t b g c d _=>eg λv=>aY λC m f p j e=>?_
 obtain⟨as,r⟩:=Ge e;show⟨_,.tuple g c d (.cons (.str _ _) 117#(.tuple f p j r))⟩
theorem Df:∀ns U:List Int,PyData.eqvAll (ns.map .int) (U.map .int)=decide (ns=U)
 | [],[]=>rfl
 | [],_::_=>rfl
 | _::_,[]=>rfl
 | x::ns,y::U=>by
   rw[l!,l!];change((x==y)&&PyData.eqvAll (ns.map .int) (U.map .int))=13#(x::ns=y::U);rw[Df ns U,R!];simp
def IG{k:Str×List Int}(j:PyData.strOk k.1=true):(PyData.tuple [.str k.1,.tuple (k.2.map .int)]).canLay0=true/\(PyData.tuple [.str k.1,.tuple (k.2.map .int)]).depth<=2:=by
 have h:PyData.canLayAll0 (k.2.map .int)=true/\PyData.depthAll (k.2.map .int)=0:=by
  induction k.2 with
  | nil=>show 196#0
  | cons x r G=>simp[PyData.canLayAll0,PyData.depthAll,PyData.canLay0,PyData.depth,G]
 simp[PyData.canLay0,PyData.canLayAll0,PyData.depth,PyData.depthAll,h,j]
def Tw{A:Around}{s:Shared}(c:A.units+2<cLine)(B:mX P w s.heap x a)(W:mX P w s.heap y b)(q:Q (decide (x=y)) s):
 74#(eqBool (.ref a) (.ref b)):=by
 obtain⟨i,rx⟩:=zz B;obtain⟨e,d⟩:=zz W;obtain⟨p,M⟩:=IG (let⟨_,_,_,_,_,_,_,ok,_⟩:=B;ok);show SeqAt.eqBoolOverData P w A E s _ _ _ _ _ _ Q rx d p (IG (let⟨_,_,_,_,_,_,_,ok,_⟩:=W;ok)).1 (by lia) ?_
 rw[show PyData.eqv (.tuple [.str x.1,.tuple (x.2.map .int)]) (.tuple [.str y.1,.tuple (y.2.map .int)])=((x.1==y.1)&&(PyData.eqvAll (x.2.map .int) (y.2.map .int)&&true)) from rfl,Df,J_]
 rwa [show((x.1==y.1)&&13#(x.2=y.2))=decide (x=y) by rw[R!];simp[Prod.ext_iff]]
def II(P)(w):HeapKind P w (Str×List Int) where
 is:=mX P w
 hash k:=reduceHash (Builtin.Tuple.tupleHashOf [hashStr w k.1,tupleKeyHash (intKind P w) k.2])
 draws k:=1+(k.2.length+1)+1
 room A:=A.units+65<cLine
 inj:=Qm
 keeps:=Kn
 pyHash hu hk q:=NQ (by lia) hk q
 eqBool hu hx hy q:=Tw (by lia) hx hy q
 quiet:=Ko
abbrev Ask:=Str×List Int
abbrev NR:=Ask×Addr×Str
def NS(p:NR)(q:Ask×Addr×Value):Prop:=p.1=q.1/\p.2.1=q.2.1/\Δ (.str p.2.2) q.2.2
def Dg(P:Program)(w:World)(a:Addr)(M:List NR):HO:=.ext λh=>36#M.length/\133#a/\∃f,Paired NS M f/\∃o W E,135#o/\o.ExactDict/\o.data = .dict W E/\W.toList=f.map (entryOfKey (II P w))
def xM(H:Hp)(k:Ask)(b:Addr):Prop:=PyData.strOk k.1=true/\∃c,H b=15#([.str k.1,.ref c])/\H c=15#(k.2.map V.int)
structure qG(P:Program)(w:World)(H:Hp)(a:Addr)(ks:List NR):Prop where
 at_:215#(Dg P w a ks)
 keys:∀p∈ks,xM H p.1 p.2.1
 nd:(ks.map (·.1)).Nodup
theorem vQ:∀{ns} {its},υ (201#0) its->ItemsAre (intKind P w) ns its
 | [],_,.nil=>.nil
 | n::_,_,.cons h r=>by
   obtain⟨t,rfl⟩:=h;show .cons (show Value.isInt n (.int n t)=true by simp[Value.isInt]) (vQ r)
def xM.is(x:lX P w H h)(e:xM H k b):mX P w h k b:=by
 revert e;show bE λj c i U=>?_
 show bE (λ_ C r=>cM λo g M n d=>?_) (x b _ i)
 show bE (λ_ m a=>cM λv l p T f=>?_) (x c _ U)
 cases r with
 | cons Z r =>
 cases r with
 | cons R r =>
 cases r;obtain⟨t,rfl⟩:=Z;cases R;show bu o n t c g M d j (aV v _ T l p f (vQ a))
def xM.up(h:xM H k b)(e:215#(.ext g)):xM (η H a o) k b:=by
 revert h;show bE λj c t U=>?_
 show bR j c ?_ ?_
 .rw[ao (bL t e 121#0)];show t
 .rw[ao (bL U e 121#0)];show U
def tJ(M:List NR)(k:Ask):Option Str:=(M.find? λp=>13#(p.1=k)).map (·.2.2)
def IJ{M:List NR}{xs:List (Ask×Addr×Value)}(h:Paired NS M xs):xs.map (·.1)=M.map (·.1)/\∀x∈xs,∃p∈M,p.1=x.1/\p.2.1=x.2.1:=by
 induction h with
 | nil=>show 34#(λ_ h=>by cases h)
 | cons h r G =>
   obtain⟨Z,R⟩:=G;show⟨by rw[l!,l!,Z,h.1],λy W=>?_⟩
   rcases Z'.mp W with rfl|W
   .show au _ (.head _) h.1 h.2.1
   .show af (λq D e=>?_) (R y W)
    show ae q (.tail _ D) e
theorem uw(k):∀{ks} {xs},Paired NS ks xs->(tJ ks k=none/\atKey xs k=none)\/∃s b v,tJ ks k=some s/\atKey xs k=some (b,v)/\Δ (.str s) v
 | _,_,.nil=>.inl 196#0
 | p::ps,x::xs,.cons h r=>by
   unfold tJ atKey;rw[Y?,Y?]
   by_cases e:p.1=k
   .have U:=h.1.symm.trans e;simp only[e,U,decide_true];show .inr ⟨_,(aq _ _ rl rl h.2.2)⟩
   .have U : ¬ x.1=k:=λz=>e (h.1.trans z)
    simp only[e,U,decide_false];show uw k r
section
variable  {pq:cF}{σ:St}
def qG.of(I:5#s)(d:qG X.prog X.w H a b):36#b.length/\133#a/\∃xs,Paired NS b xs/\s.heap.DictOfH (II X.prog X.w) a xs:=by
 obtain⟨⟨z,J,xs,O,o,W,E,Z,R,l,A⟩,_⟩:=(I.hok a _ d.at_);obtain⟨y,Q⟩:=IJ O;show aX z J xs O (bZ o W E Z (dD R l A (λx B=>?_) (by rw[y];show d.nd)))
 show aA (λp M t U=>?_) (Q x B)
 rw[<-t,<-U];show(d.keys p M).is I.hok
end
def VY(P:Program)(w:World):TE:=λ_ H Q=>∀p,H p=none->Q (.ref p) (η H p (Dg P w p []))
def Qn(P:Program)(w:World)(l t:TE):TE:=λU H Q=>l U H λy N=>t U N λx G=>∃a b k M,x = .ref a/\y = .ref b/\qG P w G a M/\xM G k b/\Q (.bl (!(tJ M k).isSome)) G
def VZ(P:Program)(w:World)(t l:TE):TE:=λU H Q=>t U H λx N=>l U N λy G=>∃a b k M z,x = .ref a/\y = .ref b/\qG P w G a M/\xM G k b/\tJ M k=some z/\Q (.str z) G
def V0(P:Program)(w:World)(t l e:TE):TS:=λD U H=>e U H λv N=>t U N λx G=>l U G λy u=>∃a b k M z,v = .str z/\x = .ref a/\y = .ref b/\qG P w u a M/\xM u k b/\tJ M k=none/\M.length<sizeLine/\
 (qG P w (η u a (Dg P w a (M++[(k,b,z)]))) a (M++[(k,b,z)])->D.nx U (η u a (Dg P w a (M++[(k,b,z)]))))
section
variable {X:Cx}{o i value:Expr}{pos pos' : Pos}{td ty tv:TE}
def Qo:PE X (.Dict [] [] pos) (VY X.prog X.w):=λS s U H Q I h =>
 wpAny_Dict_empty (aq (23#.ref) _ (I.laid (o:=Dg X.prog X.w s.heap.objs.size []) (λ_ _ q=>c! _ q) (Ξ _)
  (bF (aX (r! _) (99#(e! (n! I.big))) [] .nil (aV _ (#[]) 0 (v! _ rl) (bF rl rl rl) rl rl)) ⟨_,v! _ rfl⟩ (λZ R=>bG λz J f O=>cQ λo W E n a k=>aX z J f O (bZ o W E (k o n) a)))) rl (h _ (138#(Ξ _))))
def Kp(c:X.A.in1.units+65<cLine)(l:PE X i ty)(Y:PE X o td):PC X .NotIn i o (Qn X.prog X.w ty td):=by
 show 47;show c6 27#l λp j=>aD λy N A B n=>?_
 show c6 (Y S j U N _ A n) λu w=>eg λx=>cM λG L rx a=>bO λb k M P g d T R=>?_
 subst P g;show 124;obtain rfl:p=Value.ref b:=B;show bG (λz J f O C=>?_) (d.of L)
 show wpAny_notIn_heap c (T.is L.hok) J C (aq _ G (L.tok _) ?_ R);rcases uw k O with⟨t,e⟩|⟨_,_,_,t,e,_⟩
 .rw[t,e];rfl
 .rw[t,e];rfl
def Qp(c:X.A.in1.units+65<cLine)(Y:PE X o td)(q:PE X i ty)(W:PD i:=by show λ_ _=>rfl):PE X (.Subscript o i pos) (VZ X.prog X.w td ty):=by
 show 47;show AQ acV.lookup W (c6 27#Y λu j=>aD λx N A rx n=>?_)
 show c6 (q S j U N _ A n) λp w=>aD λy G L B=>dO λa b k M z P l=>jM λd T m R=>?_
 subst P l;show 124;obtain rfl:p=Value.ref b:=B;show bG (λ_ J f O C=>?_) (d.of L)
 rcases uw k O with⟨t,_⟩|⟨r,E,v,t,e,g⟩
 .rw[t]at m;cases m
 .rw[m]at t;cases t;show⟨C.typeIs,wpAny_getItem_heap c (T.is L.hok) C e (aq (.str z) G (L.tok _) g R)⟩
def Qq(c:X.A.in1.units+65<cLine)(Y:PE X o td)(m:PE X i ty)(p:PE X value tv)(W:swapsWith value (some (.Subscript o i pos')) pos.line X.env=pure false:=by rfl):
 PS X (.Assign [.Subscript o i pos'] value pos) (V0 X.prog X.w td ty tv):=by
 show 140;show wpAny_Assign_Subscript (c6 27#p λr j=>aD λv N A M n=>c6 (Y S j U N _ A n) λu w=>aD λx G L rx D=>c6 (m S w U G _ L D) λq O=>aD λy B F t=>dO λa b k ks z e f=>eV λl d T g P q3=>?_) W
 subst e f l;show 124;obtain rfl:q=Value.ref b:=t;show bG (λm J f Q C=>?_) (d.of F)
 have B:36#f.length:=by rw[<-Paired.length Q];show m
 have st:storedH f k b r=f++[(k,b,r)]:=by
  rcases uw k Q with⟨_,e⟩|⟨_,_,_,e,_⟩
  .unfold storedH;rw[e];rfl
  .rw[g]at e;cases e
 show wpAny_setItem_heap c (T.is F.hok) C λe t W=>?_
 rw[st]at t
 revert t;show fy λq c E=>eV λg R l j _ h=>?_
 have e:Paired NS (ks++[(k,b,z)]) (f++[(k,b,r)]):=Paired.snoc Q (bF rl rl M);show bf U _ (nJ (ob:=Dg X.prog X.w a (ks++[(k,b,z)])) F (by rw[d.at_];show True.intro) W ⟨q,g⟩ (bF (aX (by rw[i!];show P) J _ e (aV q c E g R l j)) ⟨q,g⟩ (λZ R=>bG λz J f Q=>cQ λo c E n D k=>aX z J f Q (bZ o c E (k o n) D)))) (q3 ⟨aa,λp M=>?_,?_⟩)
 .rcases D!.mp M with M|M
  .show(d.keys p M).up d.at_
  .obtain rfl:=q!.mp M;show T.up d.at_
 .rw[(IJ e).1]at h;show h
end
section
variable   {A:Around}  {s:Shared}
def xN(k:A.handled=some (.ref L))(R:XJ L s.heap)(d:s.heap.IsListIter y l i)(P:s.heap.IsList l p)(I:p.size<=i)
 (T:∀h',Heap.ExtBut y s.heap h'->153#none):52#(pyNext (.ref y)):=by
 show aA (λD c x a=>?_) (id d)
 have j:s.TypeIs (.ref y) "list_iterator":=ae D c x;rw[pyNext];show aU (wpAny_attempt (wpAny_callSpecial?_slot j PySem.slot_listiter_next (wpAny_call_entry PySem.slot_listiter_next j PySem.entry_listiter_next ?_ (PySem.args_listiter_next _))))
 show 89
 rw[a];show cM (λt q e H F=>?_) (id P)
 show Θ (Θ ?_);rw[ξ 22#0]
 show aU (wpAny_field c a rl ?_);show aU (wpAny_seqItems q F ?_);dsimp only;rw[show p[((i:Nat):Int).toNat]?=none by simpa using I]
 show aU (wpAny_rule (aU ?_));show wpAny_setField c a 22#0 ?_
 revert R;show aD λu W f n r=>?_
 have G:y≠L:=λz=>by
  rw[z,f]at c;cases c;rw[n]at a;cases a;simp at r
 have v:(s.heap.update y (Obj.mapFields (·.setIfInBounds 0 Value.none))).get? L=some u:=(I? _ _ G).trans f;have B:∀b o,b≠y->16#o->(s.heap.update y (Obj.mapFields (·.setIfInBounds 0 Value.none))).get? b=some o:=λb o O g=>(I? _ _ (e! O)).trans g
 generalize s.heap.update y (Obj.mapFields (·.setIfInBounds 0 Value.none))=Z at v B;show aU ?_;show aU (wpAny_newObj_type ?_ (by size_fits))
 show aU (wpAny_of_eq (by first | rfl | (simp only[firstArgMember];rfl)) (wpAny_newObj_type ?_ (by size_fits)))
 have J:=a! v;show Fe k ?_ (v! _ rl) rl (by simp;lia) (aq u W (c! _ (c! _ v)) n r) ?_
 .rw[Z?];show n! (T? J)
 .have h:=v! (Z.push { cls:=.type "tuple",data:=.seq #[]}) (o:={ cls:=.type "StopIteration",data:=.fields (#[.ref Z.objs.size,.none,.none,.none,.bool false,.none]++ownMembersOf (.type "StopIteration") [])}) rfl;have m:=Q? (Obj.mapFields (·.setIfInBounds 2 (.ref L))) h (U_ (B_ rfl _));show aU (wpAny_isInstance (ae _ m (_L _ _)) isSubtype_stop ?_);show Θ (T _ λb o O g=>?_)
  have C:=B b o O g;have M:(Z.push { cls:=.type "tuple",data:=.seq #[]}).objs.size≠b:=by
   rw[Z?];show j? (T? (a! C))
  show(I? _ _ M).trans (c! _ (c! _ C))
end
def Qs(H:Hp)(L:Addr):Prop:=∀P w h,lX P w H h->XJ L h
def Tz(K:cu)(L a:Addr):It:=⟨(Lm K a).go,(Lm K a).Ji,λi H=>(Lm K a).stop i H/\Qs H L⟩
def Gf{A:Around}{K:cu}(k:A.handled=162#0)(a y:Addr):HP A false P w K tg (Tz K b a) [y] y (λi h=>h.IsListIter y a i):=by
 have j:=yt (P:=P) (w:=w) (K:=K) (tg:=tg) a y;show⟨j.mem,j.obj,j.keep,?_,?_,j.self⟩
 .intro X g z J a L i S s U H E I F st M;subst g z J
  revert M;show bh λf x D B=>?_
  show 130#(λC G p m=>?_)
  show af (λu b Y=>?_) (G.get B)
  show eV (λt n Q l R Z=>?_) (F y 22#0)
  show wpAny_pyNext_list_item st p.isList (by simpa using b) λN T r=>?_
  have q:=I.turned (t':=s.toks) (λb o O e=>(r.2 b O).trans e) t n l R Z
  show aA (λo e c d=>?_) (id T)
  show ae u rl (yr (s:={ s with heap:=N}) e c d 7#0 (cI x H q Y 34#(λv W=>by rw[I.mh W D];show B) T (λb O=>(F b O).1)))
 .intro X g z J a L i S s U H E I F st M;subst g z J a;obtain⟨⟨f,D,B⟩,T⟩:=M;show 130#(λC G p m=>?_)
  show eV (λt n Q l R Z=>?_) (F y 22#0)
  have c:=G.length;show xN k (T _ _ _ I.hok) st p.isList (by simp;lia) λN q=>34#(I.turned (t':=s.toks) (λb o O e=>q b o O e) t n l R Z)
def Qs.ofX(h:H L=some (E9 L cls m)):Qs H L:=λP w M j=>by
 obtain⟨⟨a,F,t,_,R,l,_⟩,_⟩:=(j L _ h);show aq a F t R l
def Gg{K:cu}{xs:List V}{k:St}(d:81#(List V))(o:d 0 [] N)(P:∀i M H,i<=xs.length->d i M H->aI K H a xs/\118#H)(hz:36#xs.length)
 (W:∀i x M H,xs[i]?=some x->d i M H->g x (73#n++k) H λt G=>t.drop n=k/\h t G λb u =>
  152#t)
 (J:∀M H,d xs.length M H->Qs H L/\Q H):gn (Tz K L a) g h C n k D Q N:=by
 show 106#(λi m M H=>112#M)
 intro i m M H;show cW λf I p=>?_;subst f
 show cW (λq S E=>?_) (P i M H I p)
 show⟨S,?_⟩
 by_cases w:i<xs.length
 .show .inr (aX (bf xs (xs[i]) q (by simp[w])) (by lia) (d (i+1)) (λl Y F=>113#F) (λx Y y=>?_))
  obtain⟨e,y⟩:=y;subst e;show W i x M _ (y xs q) p
 .show 206
  subst e;obtain⟨Z,R⟩:=J M H p;show .inl ⟨⟨ae xs q (Ξ _),Z⟩,R⟩
def TF(K:cu)(L:Addr)(d:TE):TI:=λU H R=>d U H λx N=>∃a,x = .ref a/\(∃f,aI K N a f)/\R (Tz K L a) N
def NT{X:Cx}(k:X.A.handled=some (.ref c))(L:X.calm=false)(P:PE X l d):Zt X tg l (TF X.K c d):=by
 intro S s U H R I h;show 146#27#P
 revert n;show aA λa e r q=>?_;obtain⟨f,D⟩:=r
 subst e;cases J;show aA (λC G p m=>?_) (A.list D)
 show wpAny_pyIter_list p.isList ?_;show b9 j.heap.objs.size [j.heap.objs.size] _ _ N rl (A.kept λb o e=>c! _ e) (L.symm▸Gf k a _) ⟨_,v! _ rfl,rfl,rfl⟩ (λb O=>?_) q
 have e:b=j.heap.objs.size:=108#0
 subst e;show A.xC (Ξ _) (A.hok.fresh (Ξ _))
end L2
namespace RM
variable {N:Net}
def NU{left r:Nat}(a:r≠0)(p:r<2^N.n)(e:∀k,183#0=true->216#k=true):182#((left^^^r).testBit k)<182#(216#k):=by
 have W:182#(216#k)=182#((left^^^r).testBit k)+182#(183#0):=by
  rw[<-u9 λx _ ⟨u,X⟩=>by rw[CP e,X]at u;simp at u]
  show i5 λj _=>?_
  rw[CP e];cases D:r.testBit j with
  | false=>simp
  | true=>rw[e j D];rfl
 obtain⟨j,D⟩:=r_ a;have M:0<182#(183#0):=qo D (eX p D)
 lia
end RM
namespace L2
open PySem PySem.Spec PyProof.Rows
def n8(s:Stmt):Str:=match s with
 | .FunctionDef n _ _ _ _ _ _ _ _ _=>n
 | _=>""
def sO(s:Stmt):List Str:=(eW s).args.map (·.arg)
section
variable {K:cu}{mg:xA}{st:Stmt}{f c0 p0:Addr}{fd:FuncData}{N ps:List Str}{h:Heap}{x:Str}
structure Ds(K:cu)(mg:xA)(N:List Str)(st:Stmt)(f:Addr)(fd:FuncData):Prop where
 S:dH N (sO st) (aQ st)
 F:Cg K (n8 st) (n8 st) st f fd
 c:Dc K mg (n8 st) f fd (sO st)
structure UE(K:cu)(mg:xA)(N:List Str)(st:Stmt)(f:Addr)(fd:FuncData)(c0 p0:Addr):Prop where
 S:dH N (sO st) (aQ st)
 F:F7 K (n8 st) (n8 st) st f fd c0 p0
 c:Dc K mg (n8 st) f fd (sO st)
structure IK(CX:Lo)(P:Program)(w:World)(base:Heap)(_:Dc K mg x f fd ps)(k:Nat)(sp:Sp):Prop where
 ok:iM P w K mg base CX k f fd ps sp
def IK.imp(F:IK CX P w base D k sp)(h:∀vs H Q E,c vs H Q E->sp vs H Q E):IK CX P w base D k c:=⟨F.ok.imp h⟩
def IK.row{CX:Lo}{P:Program}{w:World}{base:Heap}{D:Dc K mg x f fd ps}{k m:Nat}{sp:Sp}(F:IK CX P w base D k sp)(h:k<=m:=by decide):∃k fd ps,k<=m/\iM P w K mg base CX k f fd ps sp/\68#K/\Binds K fd ps []:=aV _ _ _ h F.ok D.k D.b
def Ds.ok{P:Program}{w:World}{base:Heap}{k:Nat}{sp:Sp}(D:Ds K mg N st f fd)
 (M:∀(d:Value) (A:Around) (outer:List Env) (s:Shared) (H:Hp) (vs:List V) (Q:VK) (E:XK),dH N (sO st) (aQ st)->dF k (107#(n8 st))->sp vs H Q E->
  67#(pY (nZ rA P w K mg base N (n8 st) (aQ st) f d A outer s H E).OL (cO st) t))
 (len:61#29#(sO st):=by intro vs H Q E h;repeat first | (obtain⟨rfl,_⟩:=h;show rfl) | obtain⟨_,h⟩:=h):IK rA P w base D.c (k+1) sp:=⟨D.F.ok D.S len λc A o s H vs Q E=>M c A o s H vs Q E D.S⟩
def Ds.okN(D:Ds K mg N st f fd)(len:61#29#(sO st))
 (M:∀(d:Value) (A:Around) (outer:List Env) (s:Shared) (H:Hp) (vs:List V) (Q:VK) (E:XK),dH N (sO st) (aQ st)->dF k (107#(n8 st))->sp vs H Q E->
  67#(pY (nZ rA P w K mg base N (n8 st) (aQ st) f d A outer s H E).OL (cO st) t)):IK rA P w base D.c (k+1) sp:=D.ok M len
def UE.ok{P:Program}{w:World}{base:Heap}{k:Nat}{sp:Sp}(D:UE K mg N st f fd c0 p0)
 (M:∀(A:Around) (outer:List Env) (s:Shared) (H:Hp) (vs:List V) (Q:VK) (E:XK),dH N (sO st) (aQ st)->dF k (A.deeper (envOfC (n8 st) (aQ st) s.heap.objs.size f (.ref c0)))->sp vs H Q E->
  67#(pY (nZ rA P w K mg base N (n8 st) (aQ st) f (.ref c0) A outer s H E).OL (cO st) t))
 (len:61#29#(sO st):=by intro vs H Q E h;repeat first | (obtain⟨rfl,_⟩:=h;show rfl) | obtain⟨_,h⟩:=h):IK rA P w base D.c (k+1) sp:=⟨D.F.ok D.S len λA o s H vs Q E=>M A o s H vs Q E D.S⟩
def Ds.WR{P:Program}{w:World}{base:Heap}{k:Nat}{sp:Sp}(D:Ds K mg N st f fd)
 (M:∀(d:Value) (A:Around) (outer:List Env) (s:Shared) (H:Hp) (vs:List V) (Q:VK) (E:XK),dH N (sO st) (aQ st)->dF k (107#(n8 st))->sp vs H Q E->
  67#(pY (nZ (EN P w) P w K mg base N (n8 st) (aQ st) f d A outer s H E) (cO st) t))
 (len:61#29#(sO st):=by intro vs H Q E h;repeat first | (obtain⟨rfl,_⟩:=h;show rfl) | obtain⟨_,h⟩:=h):IK (EN P w) P w base D.c (k+1) sp:=⟨D.F.WR D.S len λc A o s H vs Q E=>M c A o s H vs Q E D.S⟩
inductive Gh(K:cu)(tp:Nat->Stmt):List Nat->Prop
 | nil:Gh K tp []
 | cons {i:Nat} {r:List Nat} {f:Addr} {fd:FuncData}:Dk K (n8 (tp i)) (tp i) f fd->Gh K tp r->Gh K tp (i::r)
def Gh.ex(f:Addr)(fd:FuncData):∀{L},Gh K k L->∃(a:Nat->Addr) (b:Nat->FuncData),∀i∈L,Dk K (n8 (k i)) (k i) (a i) (b i)
 | _,.nil=>gR (λ_=>f) (λ_=>fd) λ_ z=>nomatch z
 | _,.cons (i:=j) (f:=g) (fd:=e) d t=>by
   show gF (λa b h=>?_) (Gh.ex f fd t)
   show gR (λi=>if i=j then g else a i) (λi=>if i=j then e else b i) λi I=>?_
   by_cases q:i=j
   .subst q
    simpa using d
   .simpa[q]using h i ((Z'.mp I).resolve_left q)
def dz{L:List Nat}{k:Nat->Stmt}{a:Nat->Addr}{b:Nat->FuncData}{i:Nat}(X:K.In h)(G:166#h.Ns)(T:∀i∈L,Dk K (n8 (k i)) (k i) (a i) (b i))(I:i∈L:=by decide)(S:dH N (sO (k i)) (aQ (k i)):=by trivial)
 (O:∀g:70#0,g.length=29#(sO (k i))->Bn (n8 (k i)) (k i) (sO (k i)) g:=by first | show 86#ZF | show 86#ZG | show 86#ZH | show 86#bn4 | show 86#bn5):Ds K mg N (k i) (a i) (b i) :=
 ⟨S,(T i I).F,PySem.W.mg_of X G (T i I).n,(T i I).F.kp,(T i I).F.binds (RA O)⟩
def ZJ(X:K.In h)(G:166#h.Ns)(D:WZ K (n8 st) st f fd c0 p0)(S:dH N (sO st) (aQ st):=by trivial)
 (O:∀g:70#0,g.length=29#(sO st)->Bn (n8 st) st (sO st) g:=by first | show 86#ZF | show 86#ZG | show 86#ZH):UE K mg N st f fd c0 p0 :=
 ⟨S,D.F,PySem.W.mg_of X G D.n,D.F.kp,D.F.binds (RA O)⟩
def TH(x q:Str)(st:Stmt)(ps:List Str)(g:70#0):Prop:=∀(kV X z:Value) (R:184#0) (d j:Value),bindArgs (PySem.W.fnOf x q (eW st) (cO st) (aQ st) .none kV X z R d j) ⟨g,[]⟩=pure (ps.zip g)
def bm1(h:∀a q,TH x q st [y] [a])(g:70#0)(P:g.length=[y].length)(q:Str):TH x q st [y] g:=by obtain⟨_,rfl⟩:=Pj g P;show h _ q
def bm2(h:∀a b q,TH x q st [y,z] [a,b])(g:70#0)(P:g.length=[y,z].length)(q:Str):TH x q st [y,z] g:=by show gF (λ_ _ f=>?_) (Vs g P);subst f;show h _ _ q
def bm4(h:∀a b c d q,TH x q st [y,z,u,v] [a,b,c,d])(g:70#0)(P:g.length=[y,z,u,v].length)(q:Str):TH x q st [y,z,u,v] g:=by show gb (λ_ _ _ _ r=>?_) (Vu g P);subst r;show h _ _ _ _ q
structure Dt(K:cu)(C:Addr)(N:List Str)(st:Stmt)(f:Addr)(fd:FuncData):Prop where
 S:dH N (sO st) (aQ st)
 F:∃q,Cg K (n8 st) q st f fd
 m:Meth K C (n8 st) f
 b:Binds K fd (sO st) []
structure W0(P:Program)(w:World)(base:Heap)(mg:xA){C:Addr}(_:Dt K C N st f fd)(k:Nat)(sp:Sp):Prop where
 ok:iM P w K mg base rA k f fd (sO st) sp
def Dt.ok{P:Program}{w:World}{base:Heap}{k:Nat}{sp:Sp}{C:Addr}(D:Dt K C N st f fd)
 (M:∀(q:Str) (d:Value) (A:Around) (outer:List Env) (s:Shared) (H:Hp) (vs:List V) (Q:VK) (E:XK),dH N (sO st) (aQ st)->dF k (107#q)->sp vs H Q E->
  67#(pY (nZ rA P w K mg base N q (aQ st) f d A outer s H E).OL (cO st) t))
 (len:61#29#(sO st):=by intro vs H Q E h;repeat first | (obtain⟨rfl,_⟩:=h;show rfl) | obtain⟨_,h⟩:=h):W0 P w base mg D (k+1) sp:=by
 obtain⟨q,F⟩:=D.F;show⟨F.ok D.S len λc A o s H vs Q E=>M q c A o s H vs Q E D.S⟩
inductive vR(K:cu)(C:Addr)(tp:Nat->Stmt):List Nat->Prop
 | nil:vR K C tp []
 | cons {i:Nat} {r:List Nat} {f:Addr} {fd:FuncData} {q:Str}:PySem.W.findIn K (.ref C) (n8 (tp i))=41#(.ref f)->PySem.W.isFn K (.ref f)=true->Cg K (n8 (tp i)) q (tp i) f fd->vR K C tp r->vR K C tp (i::r)
def vR.ex(f:Addr)(fd:FuncData):∀{L},vR K C k L->∃(a:Nat->Addr) (b:Nat->FuncData),∀i∈L,Meth K C (n8 (k i)) (a i)/\∃q,Cg K (n8 (k i)) q (k i) (a i) (b i)
 | _,.nil=>gR (λ_=>f) (λ_=>fd) λ_ z=>nomatch z
 | _,.cons (i:=j) (f:=g) (fd:=e) m n F t=>by
   show gF (λa b h=>?_) (vR.ex f fd t)
   show gR (λi=>if i=j then g else a i) (λi=>if i=j then e else b i) λi I=>?_
   by_cases q:i=j
   .subst q
    simpa using⟨⟨m,n,F.kp⟩,_,F⟩
   .simpa[q]using h i ((Z'.mp I).resolve_left q)
def dzM{C:Addr}{L:List Nat}{k:Nat->Stmt}{a:Nat->Addr}{b:Nat->FuncData}{i:Nat}(T:∀i∈L,Meth K C (n8 (k i)) (a i)/\∃q,Cg K (n8 (k i)) q (k i) (a i) (b i))(I:i∈L:=by decide)(S:dH N (sO (k i)) (aQ (k i)):=by trivial)
 (O:∀g:70#0,g.length=29#(sO (k i))->∀q,TH (n8 (k i)) q (k i) (sO (k i)) g:=by first | show 86#bm1 | show 86#bm2 | show 86#bm4):Dt K C N (k i) (a i) (b i):=by
 obtain⟨m,q,F⟩:=T i I;show⟨S,⟨q,F⟩,m,F.binds λkV X z R d j g P=>O g P q kV X z R d j⟩
def pQ(a:136#x=41#(.ref f))(b:136#x=41#(.ref g)):g=f:=by
 rw[a]at b;cases b;rfl
end
@[elab_as_elim] theorem fresh{P:Hp->Prop}(X:Hp)(e:X=η H l o)(c:H l=none)(k:∀G,ak H G->G l=some o->P G):P X:=by
  subst e;show k _ (ak.new c) aa
section
variable {X:Cx}
def RC{CX:Lo}{k r:Nat}{f:Addr}{fd:FuncData}{i:List Str}{sp:Sp}{x:Str}{E:XK}{e:Expr}{W:List Expr}{t:TA}{p l:Pos}{D:Dc X.K X.mg x f fd i}
 (F:IK CX X.prog X.w X.base D k sp) (C:dF r X.A) (B:Passes CX X E) (a:PA X (e::W) t) (Y:k<=r:=by decide) (M:Gl X x:=by rfl)
 (v:193#("__debug__":Str):=by decide) (T:9#(e::W)=25#e::9#W:=by rfl) (b:(backTo l (9#W)).any (·.1)=false:=by rfl) :
 PE X (.Call (.Name x p) (e::W) [] l) (Ca sp [] E t):=RB F.ok C D B a Y M v T b
def aB{k r:Nat}{f:Addr}{fd:FuncData}{i:List Str}{sp:Sp}{x:Str}{e:Expr}{W:List Expr}{t:TA}{p l:Pos}{D:Dc X.K X.mg x f fd i}
 (F:IK rA X.prog X.w X.base D k sp) (C:dF r X.A) (E:PA X (e::W) t) (Y:k<=r:=by decide) (M:Gl X x:=by rfl)
 (v:193#("__debug__":Str):=by decide) (T:9#(e::W)=25#e::9#W:=by rfl) (b:(backTo l (9#W)).any (·.1)=false:=by rfl) :
 PE X (.Call (.Name x p) (e::W) [] l) (Ca sp [] E0 t):=RB F.ok C D Cf E Y M v T b
def g6{k r:Nat}{C f:Addr}{fd:FuncData}{N:List Str}{st:Stmt}{sp:Sp}{o:Expr}{m:Str}{l J:Pos}{z:TE}{b:Sem Bool}{D:Dt X.K C N st f fd}(T:PE X o z)(c:Ln X.K C)(F:W0 X.prog X.w X.base X.mg D k sp)(a:dF r X.A)(Y:k<=r:=by decide)(g:n8 st=m:=by rfl)
 (n:eval (.Call (.Attribute o m J) [] [] l) X.env=(do
  let ov←eval o X.env
  standAt J.atName
  let(f,first)←holding [ov] (getMethod ov m b)
  callWith l f first (backTo l (9#([]))) 128#l):=by rfl) :
 PE X (.Call (.Attribute o m J) [] [] l) (HD C m sp [] E0 z LK):=by
 subst g;show LL T c D.m F.ok (a.mono Y) D.b .nil Cf n
def RD{k r:Nat}{C f:Addr}{fd:FuncData}{N:List Str}{st:Stmt}{sp:Sp}{o e:Expr}{W:List Expr}{m:Str}{l J:Pos}{z:TE}{t:TA}{h:Sem Bool}{D:Dt X.K C N st f fd}(T:PE X o z)(c:Ln X.K C)(F:W0 X.prog X.w X.base X.mg D k sp)(a:dF r X.A)(E:PA X (e::W) t)(Y:k<=r:=by decide)(g:n8 st=m:=by rfl)
 (d:9#(e::W)=25#e::9#W:=by rfl) (b:(backTo l (9#W)).any (·.1)=false:=by rfl)
 (n:eval (.Call (.Attribute o m J) (e::W) [] l) X.env=(do
  let ov←eval o X.env
  standAt J.atName
  let(f,first)←holding [ov] (getMethod ov m h)
  callWith l f first (backTo l (9#(e::W))) 128#l):=by rfl) :
 PE X (.Call (.Attribute o m J) (e::W) [] l) (HD C m sp [] E0 z t):=by
 subst g;show O4 T c D.m F.ok (a.mono Y) D.b .nil Cf E d b n
def aT{x:Str}{l:Pos}(h:72#(j0 0):=by show pv 0):72#(j0 0):=h
def bx{x:Str}{l:Pos}(h:72#(j0 1):=by show pv 1):72#(j0 1):=h
def cA{x:Str}{l:Pos}(h:72#(j0 2):=by show pv 2):72#(j0 2):=h
def e9{x:Str}{l:Pos}(h:72#(j0 3):=by show pv 3):72#(j0 3):=h
def h8{x:Str}{l:Pos}(h:72#(j0 4):=by show pv 4):72#(j0 4):=h
def nT{x:Str}{l:Pos}(h:72#(j0 5):=by show pv 5):72#(j0 5):=h
def Gi{x:Str}{l:Pos}(h:72#(j0 6):=by show pv 6):72#(j0 6):=h
def IL{x:Str}{l:Pos}(h:72#(j0 7):=by show pv 7):72#(j0 7):=h
def W2{x:Str}{l:Pos}(h:72#(j0 8):=by show pv 8):72#(j0 8):=h
end
end L2
set_option maxHeartbeats 4000000
namespace K67
open PySem L2 Ring
local macro_rules | `(tactic| trivial)=>`(tactic| show⟨rfl,rfl,rfl,by decide +kernel,rfl,by decide +kernel,by decide +kernel⟩)
def top(i:Nat):Stmt:=PySem.Challenge.pw_ringbase_k67_whole_standing_and_asked.main.body.getD i (.Pass ⟨0,0,0,0⟩)
section
variable {kB kP l7 p5 xy Kq OP TJ UG W3 V1 V2 Yl Ym:TS}{n9 Ks W4 sc3:TT}{zA Yn:TI}{zB Yo:TG}{D:Ends}{σ:St}{H:Hp}
def sP(h:45#(let L:=(aK (dX n9 a cE) Y);let N:=l7;(aK (dX Ks N cE) L) D σ H)):=h
def Dh(h:45#(let L:=(aK (dX n9 a cE) Y);let N:=l7;let b:=(aK (dX Ks N cE) L);let B:=p5;let x:=(dX W4 B cE);let j:=(aK (iV zA zB x) b);let k:=xy;(aK (dX sc3 k cE) j) D σ H)):=h
def zC(h:45#(let L:=l7;let N:=(aK (dX n9 L cE) a);let b:=(132#N);(aK p5 b) D σ H)):=h
def A8(h:let Y:=kB;(dX n9 Y cE) D σ H):=h
def fE(h:let Y:=kB;(aK kP Y) D σ H):=h
def xO(h:45#(let L:=(aK l7 a);let N:=(132#L);(aK p5 N) D σ H)):=h
def g7(h:let Y:=kB;let a:=(aK kP Y);(aK l7 a) D σ H):=h
def Ku(h:45#(let L:=(dX n9 a cE);let N:=(132#L);let b:=(aK l7 N);let B:=p5;let x:=(aK (iV Yn Yo B) b);(aK xy x) D σ H)):=h
def xP(h:let Y:=kB;let a:=(dX n9 Y cE);(aK kP a) D σ H):=h
def rX(h:45#(let L:=(aK l7 a);let N:=(aK p5 L);let b:=(aK xy N);let B:=(dX n9 b cE);let x:=(aK Kq B);let j:=(aK OP x);let k:=(132#j);let c:=(aK TJ k);(aK UG c) D σ H)):=h
def zD(h:45#(let L:=(132#a);(aK l7 L) D σ H)):=h
def di(h:45#((aK (dX n9 a cE) Y) D σ H)):=h
def vS(h:let Y:=kB;let a:=(aK kP Y);let L:=l7;(aK (dX n9 L cE) a) D σ H):=h
def bK:Pos:=⟨137,29,137,70⟩
def vU(h:45#(let L:=(aK l7 a);let N:=(aK p5 L);let b:=(aK xy N);let B:=(aK (uG n9 b) Y);let x:=(aK Kq B);let j:=(aK OP x);(aK TJ j) D σ H)):=h
def Kv(h:45#(let L:=(aK l7 a);let N:=(aK p5 L);let b:=(aK (uG n9 N) Y);let B:=(aK xy b);let x:=(aK Kq B);(aK OP x) D σ H)):=h
def Gj(h:45#(let L:=(aK (dX n9 a cE) Y);let N:=(aK l7 L);let b:=(aK p5 N);let B:=(aK xy b);(aK Kq B) D σ H)):=h
def fT(h:45#(let L:=(aK (dX n9 a cE) Y);(aK l7 L) D σ H)):=h
def qH(h:45#(let L:=(aK l7 a);let N:=(aK p5 L);let b:=(132#N);(aK xy b) D σ H)):=h
def xQ(h:45#(let L:=(dX Ks a cE);let N:=(aK l7 L);let b:=(aK p5 N);let B:=(iV zA zB b);let x:=(aK xy B);let j:=(aK Kq x);let k:=(aK OP j);let c:=(aK (uG n9 k) Y);let d:=(aK TJ c);let e:=(aK UG d);(aK W3 e) D σ H)):=h
def aN:Pos:=⟨206,35,206,63⟩
def A9(h:45#(let L:=(aK (dX n9 a cE) Y);let N:=(aK l7 L);let b:=(aK p5 N);(aK xy b) D σ H)):=h
def tK(h:45#(let L:=(dX n9 a cE);let N:=(iV Yn Yo L);let b:=l7;let B:=(aK (dX Ks b cE) N);let x:=(132#B);(aK p5 x) D σ H)):=h
def Gk(h:45#(let L:=(aK l7 a);let N:=(dX n9 L cE);let b:=(132#N);let B:=(aK p5 b);(aK xy B) D σ H)):=h
def Di(h:45#(let L:=l7;let N:=(dX n9 a L);let b:=(132#N);(aK p5 b) D σ H)):=h
def Gm(h:45#(let L:=(dX n9 a cE);let N:=(aK l7 L);let b:=(132#N);(aK p5 b) D σ H)):=h
def Ba(h:45#(let L:=(132#a);let N:=(aK l7 L);let b:=(aK p5 N);let B:=xy;(aK (dX n9 B cE) b) D σ H)):=h
def vV(h:45#(let L:=(aK l7 a);let N:=(aK p5 L);let b:=(aK xy N);let B:=(aK (uG n9 b) Y);let x:=(aK Kq B);(aK OP x) D σ H)):=h
def mY(h:45#(let L:=(dX n9 a cE);(132#L) D σ H)):=h
def vW(h:45#(let L:=l7;let N:=(aK (iV Yn Yo L) a);let b:=p5;let B:=(aK xy b);let x:=(aK Kq B);let j:=(aK OP x);let k:=(aK (dX n9 j cE) N);let c:=TJ;let d:=(aK (dX Ks c cE) k);let e:=(aK UG d);let f:=(132#e);let i:=(aK W3 f);let g:=(aK V1 i);(aK V2 g) D σ H)):=h
def tL(h:45#(let L:=(aK l7 a);let N:=(132#L);let b:=(aK p5 N);let B:=(aK xy b);(aK Kq B) D σ H)):=h
def Bb(h:let Y:=kB;let a:=(aK kP Y);let L:=l7;let N:=(aK (dX n9 L cE) a);(aK p5 N) D σ H):=h
def Dl(h:45#(let L:=(aK (dX n9 a cE) Y);let N:=l7;let b:=(aK (dX Ks N cE) L);let B:=p5;(aK (dX W4 B cE) b) D σ H)):=h
def Bc(h:45#(let L:=(dX n9 a cE);let N:=l7;let b:=xy;let B:=(aK p5 N);let x:=(aK Kq b);let j:=(aK (dX Ks B x) L);let k:=(aK OP j);let c:=(132#k);let d:=(aK TJ c);(aK UG d) D σ H)):=h
def Dm(h:45#(let L:=l7;let N:=(aK (dX n9 L cE) a);let b:=(132#N);let B:=(aK p5 b);let x:=(aK xy B);(aK Kq x) D σ H)):=h
def Bd(h:45#(let L:=(dX n9 a cE);let N:=(132#L);let b:=l7;(aK (dX Ks b cE) N) D σ H)):=h
def mZ(h:45#(let L:=(aK (dX n9 a cE) Y);let N:=l7;let b:=(aK (dX Ks N cE) L);(aK p5 b) D σ H)):=h
def vX(h:let Y:=kB;let a:=(aK kP Y);let L:=(aK l7 a);let N:=(aK p5 L);(aK xy N) D σ H):=h
def Dp(h:let Y:=l7;let a:=(aK p5 Y);let L:=kP;let N:=(dX W4 a cE);let b:=kB;let B:=(dX Ks L N);let x:=(dX n9 b B);(aK xy x) D σ H):=h
def qI(h:45#(let L:=(aK (dX n9 a cE) Y);let N:=l7;let b:=(aK (dX Ks N cE) L);let B:=(aK p5 b);let x:=(aK xy B);let j:=(aK Kq x);let k:=OP;let c:=(aK (dX W4 k cE) j);let d:=(aK TJ c);let e:=(aK UG d);let f:=(aK W3 e);let i:=(aK V1 f);let g:=(aK V2 i);let l:=(aK Yl g);(aK Ym l) D σ H)):=h
def TL(h:let Y:=kB;let a:=(aK kP Y);let L:=l7;let N:=(dX n9 L cE);let b:=(aK p5 N);let B:=(aK xy b);let x:=(aK Kq B);let j:=(aK (iV zA zB x) a);let k:=OP;let c:=(aK (dX Ks k cE) j);let d:=(aK TJ c);let e:=(aK UG d);(aK W3 e) D σ H):=h
def tM(h:let Y:=kB;let a:=(aK kP Y);let L:=(aK l7 a);let N:=(aK p5 L);let b:=(aK xy N);let B:=(aK Kq b);(aK OP B) D σ H):=h
def rY(h:let Y:=kB;let a:=(aK kP Y);let L:=l7;let N:=(dX n9 a L);let b:=(aK p5 N);let B:=xy;(aK (dX Ks B cE) b) D σ H):=h
abbrev jm:Stmt:=inClass (top 10) 0
def tN:Fsc ["self","words","point"] 3 jm:=by trivial
end
set_option genInjectivity false
set_option genSizeOf false
structure V3 where
 (f m:Nat->Addr)
 (d n:Nat->FuncData)
 (Dq Be jn:Addr)
 (Dr Bf jo:FuncData)
 m3:Addr
 eB:Addr
 aJ:Addr
 lE:Addr
 lF:Addr
 NV:Addr
 Du:Addr
 bT:Addr
 Bg:Addr
 aR:Addr
section
variable (K:cu)(mg:xA)(a:V3)
abbrev DT(N:List Str)(i:Nat):=Ds K mg N (top i) (a.f i) (a.d i)
structure Yp:Prop where
 pR:DT K mg a ["points","ties"] 16
 vY:DT K mg a ["points","tie","end"] 17
 zE:DT K mg a ["tie_set","tie"] 18
 zF:DT K mg a ["tie_set"] 19
 vZ:DT K mg a ["web","ties","found","tie"] 20
 v8:DT K mg a ["web"] 21
 Dv:DT K mg a ["web","number"] 22
 sQ:DT K mg a ["web","tie_set"] 23
 qJ:DT K mg a ["web","tie_set"] 24
 sR:DT K mg a ["web","tie_set"] 25
 qK:DT K mg a ["web","tie_set","ends","one","other","length"] 26
 kC:DT K mg a ["leasts","one","other","low","high"] 27
 Dw:DT K mg a ["web","tie_set","leasts","one","other","length","found","start"] 28
 NW:DT K mg a ["web"] 29
 zG:DT K mg a ["web","tie_set"] 31
 qL:DT K mg a ["web","tie_set","odd"] 32
 lN:DT K mg a ["web","leasts","trails","tie","one","other","bridge","moved"] 33
 Dy:DT K mg a ["web","found","trail"] 34
 Dz:DT K mg a ["web"] 35
 oA:DT K mg a ["web","trails","chord","tie"] 36
 qM:DT K mg a ["web","tie"] 37
 zH:DT K mg a ["web","tie_set","touched"] 39
 kD:DT K mg a ["web","number"] 40
 DA:DT K mg a ["web","tie_set","point"] 42
 zI:DT K mg a ["web","tie","point","ends"] 43
 oB:DT K mg a ["web","even","points","ties","left","tie"] 44
 DB:DT K mg a ["web","tie_set","found","left","ring"] 45
 DC:DT K mg a ["one","other"] 47
 oE:DT K mg a ["tie_set","marks"] 48
 zJ:DT K mg a ["web","side","ahead","point"] 49
 DE:DT K mg a ["web","side"] 50
 zK:DT K mg a ["web","tie_set","trails","side","amiss"] 51
 qN:DT K mg a ["web","side","tie_set"] 52
 oF:DT K mg a ["web","tie_set","answer"] 53
 kE:DT K mg a ["web","marks","steps","tie","ends","turn"] 55
 lO:DT K mg a ["way"] 57
 kF:DT K mg a ["ways"] 58
 kG:DT K mg a ["web","marks"] 60
 lP:DT K mg a ["ways"] 61
 qO:DT K mg a ["web","marks"] 62
 m4:DT K mg a ["web","marks","ways","rounds"] 63
 oG:DT K mg a ["one","other","length"] 64
 qP:DT K mg a ["tie","turn","worths","here","there"] 65
 m5:DT K mg a ["web","marks","worths","point","place","tie"] 66
 m6:DT K mg a ["worths","length","rounds"] 67
 oH:DT K mg a ["web","marks","ring","worths"] 68
 zL:DT K mg a ["rows","tie_set","left","used","lead","row","places"] 70
 v9:DT K mg a ["rows","added","found","old"] 71
 zM:DT K mg a ["sets","rows","place","tie_set","rest"] 72
 zN:DT K mg a ["web","rings"] 73
 sS:DT K mg a ["web","rings","rows","found","place"] 74
 oJ:DT K mg a ["web","waiting","found","marks","ring"] 75
 qQ:DT K mg a ["web","rings","marks"] 76
 zO:DT K mg a ["web"] 77
 oM:DT K mg a ["rows","step","place"] 79
 oN:DT K mg a ["row","lead_row","step","divisor"] 80
 oO:DT K mg a ["table","rows","sign","divisor","step","place","lead_row","below"] 81
 m7:DT K mg a ["web","one","other"] 83
 m8:DT K mg a ["web","leasts","kept","table","one","counts"] 84
 oQ:DT K mg a ["web"] 85
 fU:DT K mg a ["word","numbers"] 98
 wc:DT K mg a ["web"] 99
 sU:DT K mg a ["word"] 100
 nc:DT K mg a ["words"] 102
 sV:DT K mg a ["web","words","numbers"] 103
 nf:DT K mg a ["numbers","bound","place","number"] 104
 qR:DT K mg a ["web","words","numbers"] 105
 lQ:DT K mg a ["web","words","rest","row"] 106
 we:DT K mg a ["web","words"] 107
 sW:DT K mg a ["text","web","asked","number","row","words","stands"] 108
 sX:DT K mg a ["ring"] 110
 oR:DT K mg a ["web","numbers"] 111
 wg:DT K mg a ["web","numbers"] 112
 wh:DT K mg a ["web","numbers","rings","odd"] 113
 zP:DT K mg a ["web","numbers","answer"] 114
 zQ:DT K mg a ["web","numbers","answer"] 115
 oT:DT K mg a ["web","numbers","answer"] 116
 oU:DT K mg a ["web","numbers"] 117
 wj:DT K mg a ["text","page","found","rows","asked"] 119
 sY:DT K mg a ["web","rings","marks","place","ring"] 121
 oW:DT K mg a ["web","base","rings"] 122
 oX:DT K mg a ["script","k"] 126
 wk:DT K mg a ["cell","k","way","stir"] 127
 zR:DT K mg a ["left","points","mode","one","other"] 128
 wm:DT K mg a ["standing","left","points","names","one","other","length"] 129
 zS:DT K mg a ["word","some","number"] 130
 lR:DT K mg a ["web","some","words"] 131
 lS:DT K mg a ["web","some","words","due"] 132
 kH:DT K mg a ["standing","web","words","rings"] 133
 kI:DT K mg a ["standing","some","web","ties","page","told","asks","rows","due"] 134
 RE:DT K mg a ["script","head","points","standing","k","left","some"] 135
abbrev DM(N:List Str)(i:Nat):=Dt K a.aJ N (inClass (top 124) i) (a.m i) (a.n i)
structure Yq:Prop where
 iN:DM K a ["self","points"] 0
 ng:DM K a ["self","one","other","length","tie","name"] 1
 lT:DM K a ["self","name"] 2
 lU:DM K a ["self","deed"] 3
 kJ:DM K a ["self"] 4
 iR:DM K a ["self"] 5
 jq:DM K a ["self"] 6
 iS:DM K a ["self"] 7
 g8:DM K a ["self"] 8
 kK:DM K a ["self"] 9
end
structure Txt(P:Program)(w:World)(base:Heap)(K:cu)(mg:xA)(a:V3):Prop extends Yp K mg a,Yq K a where
 nh:UE K mg ["web","rings"] (top 41) a.Dq a.Dr a.Du a.bT
 lG:UE K mg ["web","marks","start","steps","found","waiting","nearest","way","tie","point","turn","part","further"] (top 56) a.Be a.Bf a.Bg a.aR
 ni:Mk K a.aJ (a.m 0)
 wo:Cg K "__init__" "NotEven.__init__" jm a.jn a.jo
 ir:ou K a.eB a.m3 a.jn "point"
 wq:Binds K a.jo ["self","words","point"] []
 Qt:mg "ValueError"=none
 V4:mg "abs"=none
 zT:mg "all"=none
 fc:mg "enumerate"=none
 IM:mg "int"=none
 cV:mg "len"=none
 Bh:mg "list"=none
 RG:mg "max"=none
 IP:mg "min"=none
 dM:mg "range"=none
 wu:mg "sorted"=none
 zU:mg "str"=none
 V5:mg "sum"=none
 lH:mg "tuple"=none
 IQ:mg "zip"=none
 xR:∃t,mg "MOST_POINTS"=some (.int 10 t)
 DF:∃t,mg "MOST_TIES"=some (.int 24 t)
 Kw:∃t,mg "LONGEST"=some (.int 1000000000000000000000000000000 t)
 wz:∃t,mg "MOST_FIGURES"=some (.int 60 t)
 Kx:∃t,mg "FIGURES"=some (.str "0123456789" t)
 Bj:mg "BARE_WORDS"=30#a.lE
 Bk:∀H,aZ K H a.lE [.str "lengths",.str "base",.str "forests"]
 Bl:mg "TIES_WORDS"=30#a.lF
 Bm:∀H,aZ K H a.lF [.str "even",.str "cut",.str "odd"]
 TM:mg "ROWS"=30#a.NV
 TN:NN P w K a.NV [("lengths",(a.f 111)),("base",(a.f 112)),("even",(a.f 113)),("cut",(a.f 114)),("odd",(a.f 115)),("heights",(a.f 116)),("forests",(a.f 117))]
 DG:mg "RingError"=30#a.m3
 zV:mg "NotEven"=30#a.eB
 Gn:mg "Standing"=30#a.aJ
 aM:Ln K a.aJ
 rZ:jR K a.aJ "points"
 bY:jR K a.aJ "standing_ties"
 f6:jR K a.aJ "next_name"
 jG:jR K a.aJ "done"
 Ky:Fb K a.eB
 sZ:∀h:Heap,K.In h->166#h.Ns->PyProof.Rows.OwnCls "RingError" a.m3 CN "ValueError.__new__" mg h
 Gp:PySem.W.exmOne K (.ref a.eB) (.ref a.eB)=some true
section
variable {P:Program}{w:World}{K:cu}{mg:xA}{base:Heap}{a:V3}{x:Str}{st:Stmt}{f c0 p0:Addr}{fd:FuncData}{N:List Str}
abbrev Ok(_:104#a)(D:Ds K mg N st f fd)(k:Nat)(sp:Sp):=IK rA P w base D.c k sp
abbrev ZK(_:104#a)(D:Ds K mg N st f fd)(k:Nat)(sp:Sp):=IK (EN P w) P w base D.c k sp
abbrev ZL(_:104#a)(D:UE K mg N st f fd c0 p0)(k:Nat)(sp:Sp):=IK rA P w base D.c k sp
abbrev OQ{C:Addr}(_:104#a)(D:Dt K C N st f fd)(k:Nat)(sp:Sp):=W0 P w base mg D k sp
end
def Gq:Sp:=84#(∃(S:Int) (k:Nat),F=[.int S,.int k]/\Q (.bl (bit S k)) H)
def Gr:Sp:=84#(∃m:Nat,F=[.int m]/\63#(m:Int)<=1000/\∀D Y,225#(Y D=4#(aE (aW (m:Int)))->Q (.ref D) Y))
def DH:Sp:=84#(∃w p J,F=[.ref w]/\79#0/\Ml p J/\Q (.int (53#0-1)) H)
def Kz:Sp:=84#(∃w p J S,125#S/\79#0/\Ml p J/\Q (.bl (13#(0<=S/\S<53#0))) H)
def oY(J:List fN)(S:Int)(R:Nat->Prop):Prop:=∃m:Nat,S=(m:Int)/\m<53#0/\R m
def Bo:Sp:=84#(∃w p J S,125#S/\79#0/\Ml p J/\oY J S λ_=>Q .eM H)
def xS:Sp:=λF H Q _=>∃w p J S,125#S/\79#0/\Ml p J/\oY J S λm =>
 ∀D v Y,225#(Y D=some (.lst v)->Paired (TupAt Y) v ((aW (m:Int)).map (dJ J))->Q (.ref D) Y)
def xT:Sp:=λF H Q _=>∃w p J S,125#S/\79#0/\Ml p J/\oY J S λm =>
 ∀D Y,ak H Y->Y D=4#(aE (mD p J (m:Int)))->Q (.ref D) Y
def Gs:Sp:=84#(∃w p J S,125#S/\79#0/\Ml p J/\oY J S λm=>50#(.bl (13#(mD p J (m:Int)=[]))))
section
variable {P:Program}{w:World}{K:cu}{mg:xA}{base:Heap}{a:V3}(T:104#a)
def jc:Ok T T.zE 1 Gq:=by
 show 1#T.zE.ok
 .revert h;show bh λS k f q=>?_;subst f
  show 56#(ay (cN dP (aP LD (aP R8 aT bx) av) av (aG _)));show(0#(cU ⟨(by lia),cU ⟨rfl,?_⟩⟩))
  rwa [x!,SD]
def fF:Ok T T.zF 2 Gr:=by
 show 1#T.zF.ok
 .revert h;show aA λm r d k=>?_;subst r
  show 56#(ay (bI (own:=["tie"]) (js:=[0]) (c9 X) rfl (96#(E6 PySem.F.plainAttrs_int adq ads HQ aT)) 6#(88#(["tie","tie_set"])) 6#(gx (cY (aB (jc T) C (bM bx aT)))) (λ_ _ _ _=>aT)))
  show(ai rl 3#34#(ai rl (43#(λD S=>eN (mE (bit m) H D) (.start S) (λi M G _ p=>p.len) (dl (H!.mpr d)) ?_ ?_))))
  .intro i M G I p;rw[C?];show 34#0#(bf m i rl 156#0);cases O:bit m i with
   | true=>show(ai rfl (p.yes S (ak.refl _) O))
   | false=>show p.no (ak.refl _) O
  .intro M G p;show k D G S p.1 (by rw[p.2.1,p.2.2];rfl)
def lI:Ok T T.v8 1 DH:=by
 show 1#T.v8.ok
 .revert h;show eg λv=>aY λp J t o W q=>?_;subst t
  show 56#(ay (aP kU (aP je av (37#191#0)) av));show aD (λb f Z R l=>?_) o.ex
  have P:=l.length;have L:=W.len;show 14#(222#(ly rl (.inr (aZ.of R)) (207#(?_))))
  rwa [x!,P,Int.one_mul]
def wA:Ok T T.Dv 2 Kz:=by
 show 1#T.Dv.ok
 .revert h;show gF λv p=>aY λJ S R o W q=>?_;subst R
  show 56#(ay (jP (cN yu bx av (aG _)) (iK (cN HA bx (71#lI) (aG _)))));show 14#(cU 28#(pD (λw=>?_) (λw=>?_)))
  .have w:=nB w;show(0#(aV v p J rl o W 209#rl));have e:13#(S<=53#0-1)=13#(0<=S/\S<53#0):=M?.mpr ⟨λz=>⟨w,by lia⟩,λz=>by lia⟩
   rw[<-e]at q;show q
  .have w : ¬ 0<=S:=λz=>w (e8 z)
   rw[gm (λz=>w z.1)]at q
   show q
def iG:Ok T T.sQ 3 Bo:=by
 show 1#T.sQ.ok
 .revert h;show gF λv p=>aY λJ S O o W q=>?_;subst O
  show 56#(bD (ff (cY (39#wA))) dG aO);show A8 ?_;intro Y;show(0#⟨v,(aV p J S rl o W ?_)⟩);have R:(53#0)=18#(53#0):=by simp
  revert q;show aA λm c d q=>?_;subst c
  rw[e8 ⟨by lia,by lia⟩]
  show 14#(cy q)
def lJ:Ok T T.qJ 4 xS:=by
 show 1#T.qJ.ok
 .revert h;show gF λa p=>aY λJ S P o W q=>?_;subst P
  show ae _ (ah (bX (39#iG))
   (aj (ay (bI (own:=["tie"]) (js:=[0]) (c9 X) rfl (lY K (aB (fF T) C (bH bx))) 6#(88#(["tie","web"])) 44#0 6#(b8 (B0 K) (dS K bx) aT))))) ?_
  show fE ?_;intro b;show(0#⟨a,(aV p J S rl o W ?_)⟩)
  revert q;show aA λm a d q=>?_;subst a
  .show au m rl d ?_;have a:=W.len;have O:=bits_le d;show 14#(au m rl (by lia) (λL N _ j U=>au L rl 24#U λD u=>?_))
   show aD (λb f Z R l=>?_) ((o.same j).ex)
   have a:=l.length;show bA (xs:=aE (aW m)) (λi M G=>ak N G/\11#G/\Paired (TupAt G) M (((aW m).take i).map (dJ J))/\M.length=i) (e7 (ak.new u) aa .nil rl) ?_ ?_ ?_ ?_
   .intro i M G _;show jM λw g I a=>?_
    show bF 42#(w _ _ U) g (o_ a)
   .rw[az];show 87#(b! (M! _ _) ?_);rw[C!]
    lia
   .intro i x M G B;show jM λw g I a=>?_
    show af (λk Y b=>?_) (ck B);subst b
    have b:=gy d (fP Y);have e:k<f.length:=by lia
    show eg (λt=>bE λn c y b=>?_) (Paired.ia l (i:=k) (x:=f[k]) (by simp[e]))
    have r:dJ J k=t:=by
     unfold dJ;rw[u!,n];rfl
    show 3#(cL 91#(w _ _ Z) g5 14#(cL (v:=f[k]) 91#(w _ _ R) (aH (by simp[e])) (?_)))
    rw[y];show dD g (w.put u) aa ?_ (by rw[i!,X!,a])
    rw[A!,Y,j!];show Paired.snoc (151#77#(cK.put g)) ?_
    rw[r];show ae c rl (cK.put g _ _ (w _ _ b))
   .intro M G;show jM λw g I a=>?_
    rw[az,o!]at I;show q D M G (j.free u) 139#0 g I
def qS:Ok T T.qK 5 xT:=by
 show 1#T.qK.ok
 .revert h;show gF λwb p=>aY λJ S NX hw W q=>?_;subst NX
  show ae _ (ah (gU (i:=2) X.nd rl (Or.inr rl) (aP LX (bJ (bH av)) 191#0))
   (ah (dw PassesOwn.never rl (lY K (39#lJ)) (xx K rl (aL (br 3 X.nd) (aL (br 4 X.nd) (aL (br 5 X.nd) cR))))
   (ah (Hs cA e9 (getL K) av Hw set_list)
   (aj (Hs cA h8 (getL K) av Hw set_list))))
   (aj (ay (bI (own:=["point"]) (js:=[2]) (c9 X) rfl (96#191#0) 6#(88#(["point","ends"])) 6#(gx (aF dP (aP eZ 192#aT av) av (aG _))) (λ_ _ _ _=>aT)))))) ?_
  show xO ?_;intro ZM Qu W5 V6;show aD (λb f Z R l=>?_) (id hw.ex)
  have wp:=W.XY;show 17#(λl0 hl0=>?_)
  have s0:ak H (η H l0 (.lst [.int 0])):=ak.new hl0;show 14#(cL 91#(s0 _ _ Z) gj (gR l0 p (ai rl 34#(dD aa (by lia) (by lia) (by rw[x!];change 1*p<=sizeLine;show 87#(by lia)) λe he=>?_))))
  show fresh (η (η H l0 (.lst [.int 0])) e _) rl he λN sH1 hH1=>?_
  have j:=s0.trans sH1;have UH:N e=4#(dh (List.replicate p 0)):=by
   rw[hH1,x!,Mm]
  have ZN:=s0.free he;show(0#⟨wb,(aV p J S rl (hw.same j) W ?_)⟩)
  revert q;show aA λm Gu d q=>?_;subst Gu
  .show au m rl d λL v G hLn s2 hL pr=>au L rl 24#hL ?_
   have s12:=j.trans s2;have heL:=bj UH hLn;have hyl:v.length<=24:=by
    rw[pr.length,χ];have O:=bits_le d;have wl:=W.len;have:=M! (bit m) 19#(63#m);rw[C!]at this;show b! this (by lia)
   show iq (λi U u=>∃v1 v2 g,U=[30#wb,some (.int m),some (.ref e),v1,v2,g]/\(∀x o,G x=some o->x≠e->u x=some o)/\u e=4#(dh ((((aW m).map (dJ J)).take i).foldl stepT (List.replicate p 0))))
    ⟨none,(aq none none rl (λ_ _ z _=>z) (s2 _ _ UH))⟩ (by intro i U u _;show eu λ_ _ _ _ z _=>?_;show aI.of (z _ _ hL (e! heL))) ?_ ?_
   .intro i y D' U u I;show eu λv1 v2 g Gv z3 Qv=>?_;subst Gv
    show eg (λt=>bE λn c r hc=>?_) (Paired.ia pr I);subst r
    have hce:=bL hc (s2 _ _ UH) 12#0
    have hc3:=z3 _ _ hc hce;have htm:t∈J:=by
     show af (λk Y NY=>?_) (U'.mp (fP n));subst NY
     unfold dJ;have V7:=gy d Y;rw[u!];simp[V7]
    show jM (λa0 a1 b0 b1=>?_) (W.XX.ends t htm)
    obtain⟨t1,t2,t3⟩:=t;dsimp only at a0 a1 b0 b1;obtain⟨j1,rfl⟩:=P_ a0;obtain⟨j2,rfl⟩:=P_ b0;generalize hE:(((aW m).map (dJ J)).take i).foldl stepT (List.replicate p 0)=EE at Qv;have ZO:EE.length=p:=by rw[<-hE,rG,K?]
    have ZP:j1<EE.length:=by lia
    have ZQ:j2<29#(bump EE j1):=by rw[j7];lia
    show bC c _ rl (aZ.of hc3) rl (gR _ _ 103#209#rl);show(0#(bu e _ j1 _ rl rl (aI.of Qv) (ic ZP) (aq _ _ rl rl (bu e _ _ j1 rl rl Qv (nF (by rw[dh,χ];show ZP)) ?_))))
    rw[uV];show(0#(bu e _ j2 _ rl rl (aI.of aa) (ic ZQ) (aq _ _ rl rl (bu e _ _ j2 rl rl aa (nF (by rw[dh,χ];show ZQ)) ?_))))
    rw[uV];show⟨_,209#(λx o z B=>by rw[ao B,ao B];show z3 x o z B)⟩
    rw[aa,A!,n,C_,hE];rfl
   .intro U u;show eu λv1 v2 g TQ z3 Qv=>?_;subst TQ
    have hwe:=bj Z ZN;have RH:ak H u:=λx o z=>z3 x o (s12 x o z) (bj z ZN)
    have hE:u e=4#(dh (jT p J m)):=by
     rw[Qv,R_ (by rw[<-pr.length];show Ξ _),yK d]
    have ZO:29#(jT p J m)=p:=by rw[yK d,rG,K?]
    show 14#(cL 91#(RH _ _ Z) gj 28#(43#(λD hD=>eN (mE (λi=>13#((jT p J m).getD i 0%2=1)) u D) (.start hD) (λi M H4 _ p=>p.len) (87#(by lia)) ?_ ?_)))
    .intro i M H4 I pk;rw[C?];show 34#0#(fO 42#(pk.1 _ _ hE) (aH (ic (by rw[ZO];show I))) (cU (bF (rC rl) rl 156#0)))
     rw[Po];cases O:13#((jT p J m).getD i 0%2=1) with
     | true=>show(ai rfl (pk.yes hD (ak.refl _) O))
     | false=>show pk.no (ak.refl _) O
    .intro M H4 pk;show q D H4 (RH.trans pk.1) (by rw[pk.2.1,pk.2.2];rfl)
def zW:Ok T T.zG 6 Gs:=by
 show 1#T.zG.ok
 .revert h;show gF λv p=>aY λJ S c o W q=>?_;subst c
  show 56#(ay (cN (rD K C.units) (39#qS) (bJ dY) (aG _)));show(0#⟨v,(aV p J S rl o W ?_)⟩)
  revert q;show aA λm r d q=>?_;subst r
  .show au m rl d λD N j a=>17#(λl P=>?_)
   have w:ak N (η N l (.lst [])):=ak.new P;show cI _ _ (.lst 42#(w _ _ a) (gp _)) (.lst (aI.of aa) .nil) (eL _) rl ?_;rw[HV];show q _ 139#0
def NZ:Sp:=λF H Q _=>∃(l:Addr) (L:Nat->Nat) (p u v:Nat),F=[.ref l,.int u,.int v]/\H l=4#(ju L p)/\p<=10/\u<p/\v<p/\
 ∀D Y,225#(Y D=4#(ju (RM.join L u v) p)->Q (.ref D) Y)
def KA:Sp:=λF H Q _=>∃w p J,∃g:aC p J,∃S,125#S/\79#0/\oY J S λm =>
 ∀D v Y,225#(Y D=some (.lst v)->Paired (Rj D H Y) v ((ef (eO p J g m) p).map (pieceOf (eO p J g m) p))->Q (.ref D) Y)
def Qw:Sp:=38#(F=[.ref w]/\79#0/\50#(129#g.N.cZ.length))
def kL:Ok T T.kC 1 NZ:=by
 show 1#T.kC.ok
 .revert h;show dO λl L p u v f P=>jM λb c a q=>?_;subst f
  show ae _ (ah (gU (i:=3) X.nd rl (Or.inr rl) (cS (yw rl) (by rfl) T.IP adw (bM (b8 (iP K) aT bx) (b8 (iP K) aT cA))))
   (ah (gU (i:=4) X.nd rl (Or.inr rl) (cS (yv rl) (by rfl) T.RG PyProof.Rows.boot_max (bM (b8 (iP K) aT bx) (b8 (iP K) aT cA))))
   (aj (ay (bI (own:=["least"]) (js:=[3,4]) (c9 X) rfl (lY K aT) 6#(88#(["least","low","high"])) 44#0 6#(iA (aF dP aT cA (aG _)) bx aT)))))) ?_
  show g7 ?_;intro Y e;show(0#(fO (aI.of P) (aH (dQ c)) 14#(ai rl (fO (aI.of P) (aH (dQ a)) (bf _ _ rl ?_)))));show(0#(fO (aI.of P) (aH (dQ c)) 14#(ai rl (fO (aI.of P) (aH (dQ a)) (bf _ _ rl ?_)))));show 14#(au l rl 24#P (λD S=>bA (AD (RM.join L u v) H D) (.start S) (λi M G _ O=>⟨aI.of (O.1 _ _ P),O.len⟩) (by rw[gZ];show 87#(by lia)) ?_ ?_))
  .intro i x M G B O;obtain⟨I,rfl⟩:=ue B;show 34#0#3#(?_);rw[Ib,k7]
   by_cases d:L i=175#max
   .rw[e8 d];show eI 14#(O.next S (ak.refl _) ?_);rw[Pw];unfold RM.join;rw[ο d]
   .rw[gm d];show cy 14#(O.next S (ak.refl _) ?_);unfold RM.join;rw[ξ d]
  .intro M G O;rw[gZ]at O;show q D G S O.1 (by rw[O.2.1,O.2.2])
def wB:Ok T T.Dw 5 KA:=by
 show 1#T.Dw.ok
 .revert h;show fy λF p J=>aD λg S a o q=>?_;subst a
  show ae _ (ah (gU (i:=2) X.nd rl (Or.inr rl) (bU (Ri rl) (by rfl) T.Bh _u (bH (bU Cn (by rfl) T.dM PyProof.Rows.boot_range (bH 191#0)))))
   (ah (dw PassesOwn.never rl (lY K (39#lJ)) (xx K rl (aL (br 3 X.nd) (aL (br 4 X.nd) (aL (br 5 X.nd) cR))))
   (aj (gU (i:=2) X.nd rl (Or.inr rl) (aB (kL T) C (bq cA (bM e9 h8))))))
   (ah (bQ 6 X.nd (bJ dY))
   (ah (dw PassesOwn.never rl (96#191#0) (p8 (i:=7) X.nd rl (Or.inr rl))
   (aj (bD (aF dP (b8 (iP K) cA IL) IL (aG _)) (aj (bX (qv K (eH O! V! W! cJ Gi (bH (bI (own:=["point"]) (js:=[2,7]) (c9 X) rfl (96#191#0) 6#(88#(["point","leasts","start"])) 6#(gx (aF dP 192#aT cA (aG _))) (λ_ _ _ _=>aT))))))) aO)))
   (aj (ay Gi)))))) ?_
  show Ku ?_;intro b a c d e f h;show 165#(λb f Z R a=>?_)
  have W:=g.pZ;have Q:=W.XY;have a:=W.len;show 14#(cL (aZ.of Z) gj 28#(λr C=>bC r p rl aa (by lia) λl P=>?_))
  have j:ak H (η (η H r (.Lk 0 p)) l (.lst (xJ p))):=(ak.new C).trans (ak.new P);have A:η (η H r (.Lk 0 p)) l (.lst (xJ p)) l=4#(ju (λx=>x) p):=aa
  generalize η (η H r (.Lk 0 p)) l (.lst (xJ p))=N at j A;show(0#⟨F,(aV p J S rl (o.same j) W ?_)⟩)
  revert q;show aA λm a d q=>?_;subst a
  .show au m rl d λb v G c w a E=>au b rl 24#a ?_
   have b:v.length<=24:=by
    rw[E.length,χ];have O:=bits_le d;have:=M! (bit m) 19#(63#m);rw[C!]at this;show b! this (by lia)
   show iq (λi U u=>∃b o r s,U=[some (.ref F),some (.int m),162#0,o,r,s,none,none]/\ak G u/\u b=4#(ju (u4 p J g ((aW m).take i)) p))
    (gR l none (aq none none rl (ak.refl _) (w _ _ A))) (by intro i U u _;show eY λ_ _ _ _ _ z _=>?_;show aI.of (z _ _ a)) ?_ ?_
   .intro i y G U u I;show eY λb o r s a l h=>?_;subst a
    show eg (λt=>bE λn c O L=>?_) (Paired.ia E I);subst O
    have e:=l _ _ L;rw[d!]at n;show af (λk Y z=>?_) (nC.mp n)
    have a:=gy d (fP Y);have n:=HY (g:=g) a;have t:=HZ (g:=g) a;rw[z]at n t;have y:=g.N.al k a;have B:=g.N.bl k a;show bC c _ rl (aZ.of e) rl (gR _ _ 103#209#rl);show(0#14#(b9 b (u4 p J g ((aW m).take i)) p (g.N.a k) (g.N.b k) ?_ h Q y B (λD a M c f=>?_)))
    .rw[<-n,<-t];rfl
    .show gR D _ 209#(l.trans c);rw[f,A!,Y];change _=some (HO.lst (ju (u4 p J g ((aW m).take i++[k])) p));rw[Fi]
   .intro U u;show eY λb o r s c l h=>?_;subst c
    have c:v.length=(aW m).length:=by rw[E.length,χ]
    rw[c,o!,Fj d]at h;have y:=(139#0).trans l;show 17#(λD f=>?_)
    have c:u0 (eO p J g m) p u D 0 97#u:=u0.start f;generalize η u D (.lst [])=a at c;show 14#(cL 91#(c.1 _ _ (y _ _ Z)) gj 28#(bF (by lia) (by lia) ?_))
    show pO (λi U a=>∃k,U=[some (.ref F),some (.int m),162#0,o,r,s,some (.ref D),k]/\u0 (eO p J g m) p u D i a) (ae none rl c) ?_ ?_
    .intro i G U a I;show af λk b Y=>?_;subst b
     rw[x!]at I;rw[C?];have c:=Y.1 _ _ h;show(0#(fO (aI.of c) (aH (dQ I)) (ai rl 3#(?_))));rw[k7]
     by_cases C:eO p J g m i=i
     .rw[e8 C];obtain⟨b,L⟩:∃v,a D=some (.lst v):=let⟨_,v,z,_⟩:=Y;⟨v,z⟩;show eI (ai rl ⟨.inl (116#L),ai rl (cL 91#(Y.1 _ _ (y _ _ Z)) gj 14#(43#(λB t=>eN (mE (λx=>13#(eO p J g m x=i)) a B) (.start t) (λi M b _ e=>e.len) (87#(by lia)) ?_ ?_)))⟩)
      .intro x M b n e;rw[x!]at n;rw[C?];show 34#0#(fO 42#(e.1 _ _ c) (aH (dQ n)) (ai rl 3#(?_)));rw[k7];cases O:13#(eO p J g m x=i) with
       | true=>show(ai rfl (e.yes t (ak.refl _) O))
       | false=>show e.no (ak.refl _) O
      .intro M b e;have c:b B=4#(aE (pieceOf (eO p J g m) p i)):=by rw[e.2.1,e.2.2,x!];rfl
       show aA (λb n A O=>?_) (Y.push f C e.1 t c)
       show cg D b _ rl rl n (jh (by lia)) (ai rl (O))
     .rw[gm C];show cy 14#(Y.skip C)
    .intro U a;show af λk t Y=>?_;subst t
     rw[x!]at Y
     revert Y;show Ah λc=>aA λB L b n=>?_
     show 14#(q D B a (y.free f) (y.trans c) L (Paired.imp' (by intro _ _;show gE λe M O I z=>?_;show cP e M O (y.free I) z) b))
def TR:Ok T T.NW 6 Qw:=by
 show 1#T.NW.ok
 .revert h;show fy λc p J=>aA λg d o q=>?_;subst d
  show 56#(ay (aP gg (aP kU (37#191#0) 191#0) (37#(aB (wB T) C (bM aT (71#lI))))));show 165#(λb f Z R l=>?_)
  have N:=l.length;have U:(53#0-1)=18#(53#0-1):=by
   have h:((2:Int)^J.length)=18#(53#0):=by simp
   have:=F? J.length
   lia
  have w:53#0-1<53#0:=203#(F? J.length)
  show 14#(222#(ly rl (.inr (aZ.of R)) 28#(cL (aZ.of Z) gj (cU (?_)))));show(0#(aV c p J rl o g.pZ (eE c p J (aq g _ rl o (au (53#0-1) U w λD v Y M e S I=>(ly rl (93#S) (cU (?_))))))))
  have a:=Pu (g:=g);have W:v.length=29#(ef (eO p J g (53#0-1)) p):=by rw[I.length,χ]
  change Q (.int ((f.length:Int)-(p:Int)+(v.length:Int))) Y;rw[N,W,a];show q Y e
def wC(H:Hp)(D:Addr)(i:Nat)(M:List V)(G:Hp):Prop:=ak H G/\11#G/\M=(195#i).map V.bl
def wC.start(S:H D=none):wC H D 0 [] 97#H:=bF (ak.new S) aa rfl
def wC.few(h:wC H D i M G):118#G:=⟨h.2.1,by rw[h.2.2,χ,K?];show Ξ _⟩
def wC.turn(h:wC H D i M G)(S:H D=none)(s:ak G u):11#u/\wC H D (i+1) (M++[.bl true]) (η u D 69#(M++[.bl true])) :=
 (e7 (s _ _ h.2.1) ((h.1.trans s).put S) aa (by rw[h.2.2,_E,j!];rfl))
def ux(n):(195#n).all id=true:=by simp
def Gw(g:aC p J)(h:m<53#0)(r:g.N.Ring m):∃s,rK (eO p J g m) p=[s]/\29#(pieceOf (eO p J g m) p s)=29#(aW (m:Int)):=by
 have f:eO p J g m=g.N.bS (λk=>10#0) g.N.n:=rfl
 show aA (λv j E b=>?_) (RM.Ft h r)
 generalize W:g.N.bS (λk=>10#0) g.N.n (g.N.a v)=s at b
 show cW (λR P Q=>?_) (RM.Mx h r (λx=>13#(eO p J g m x=s)) (λx _=>by rw[f]) (λk Y O=>e8 (b k Y O)))
 have y:s<p:=by rw[<-W];show RM.ud (g.N.al v j)
 have i:eO p J g m s=s:=by rw[f,<-W];show RM.gH _ _
 show ae s ?_ (by rw[rL,vc h];show P)
 unfold rK ef;rw[List.filter_filter];show JE y λx B=>?_
 by_cases e:x=s
 .subst e;rw[e8 i,rL,e8 rfl,J_];show e8 R
 .rw[gm e]
  by_cases a:eO p J g m x=x
  .have L:13#(eO p J g m x=s)=false:=gm (by rw[a];show e)
   obtain⟨_,q⟩:=Q x B L;have : ¬ 1<29#(pieceOf (eO p J g m) p x):=λz=>by
    rw[rL]at z;show aY (λc d Z _ l A=>?_) (RM.uf z)
    have l:=q c (nB l);have A:=q d (nB A)
    lia
   rw[gm this,_b]
  .rw[gm a,d_]
def DI{m n:Nat}(h:m<2^n):13#(0<=(m:Int)/\(m:Int)<2^n)=true:=by
 have a:(2^n)=18#(2^n):=by simp
 show e8 ⟨by lia,by lia⟩
def DJ:Sp:=38#(∃m:Nat,125#m/\79#0/\m<53#0/\g.N.Ring m/\50#(.bl true))
def KC:Ok T T.zH 7 DJ:=by
 show T.zH.ok λ_ A _ s H F Q E X a h=>?_
 .revert h;show fy λb p J=>gF λg m=>iI λf o d e q=>?_;subst f
  show ae _ (ah 66#(ff (cY (aB (zW T) a (bM aT bx))))
   (ah (fL (i:=2) X.nd rfl rfl (own:=["piece"]) (js:=[]) (c9 X) rfl (lY K (aB (wB T) a (bM aT bx))) 6#(88#(["piece"])) 6#(gx (aF j3 (37#aT) av (aG _))) (λ_ _ _ _=>aT))
   (aj (ay (jP (cN dP (37#cA) av (aG _)) (iK (cN dP (37#(sN K cA)) (37#(aB (fF T) a (bH bx))) (aG _)))))))) ?_
  show vS ?_;intro Y a L;have z:=g.p2;have a:=g.len;show af (λR n P=>?_) (Gw g d e)
  show(0#⟨b,(aV p J _ rl o g.pZ (au m rl d λN j=>156#0))⟩)
  rw[e8 ((qn g d).mpr e.2.1)];show cy (0#(eE b p J (aq g _ rl (o.same j) (au m rl d λD v G c w S I=>au D rl 24#S λC a=>?_))))
  have b:v.length<=10:=by
   rw[I.length,χ];have:=M! (λx=>13#(eO p J g m x=x)) 19#p
   rw[C!]at this;show b! this z
  show bA (vd (λl=>13#(1<l.length)) ((ef (eO p J g m) p).map (pieceOf (eO p J g m) p)) G C) (.start a) (λi M u _ U=>⟨aI.of (U.1 _ _ S),U.len⟩) (bN (by lia)) ?_ ?_
  .intro i x M u B U;show af (λl P=>gE λb r k t O=>?_) (Paired.ia I B);subst r
   show 3#(ly rl (.inl 42#(U.1 _ _ O)) (cU 156#0))
   by_cases c:1<l.length
   .rw[e8 (by rw[az];lia)]
    show eI 14#(U.yes a P (e8 c) (ae b rl O))
   .rw[gm (by rw[az];lia)]
    show cy (U.no P (gm c))
  .intro M u U;have y:Paired (SM G) M ((rK (eO p J g m) p).map (pieceOf (eO p J g m) p)):=by
    have h:=U.2.2;rw[I.length,o!,List.filter_map]at h;show h
   rw[n]at y;cases y with
   | cons W x =>
     cases x
     revert W;show af λb t O=>?_;subst t
     have B:=bits_le d;show 14#(ly rl (93#U.2.1) 3#(eI 28#(fO (aI.of U.2.1) gj (ly rl (.inl 42#(U.1 _ _ O)) (ai rl (au m rl (by lia) (λr c a Z k=>(ly rl (93#k) ⟨rfl,?_⟩))))))))
     rw[az,az,P,e8 rfl];show q c (((139#0).trans U.1).trans Z)
def iu:Ok T T.kD 8 DJ:=by
 show 1#T.kD.ok
 .revert h;show fy λv p J=>gF λg m=>iI λR o d e q=>?_;subst R
  show 56#(ay (jP (39#wA) (iK (39#KC))));show(0#⟨v,(bZ p J m rl (aX o g.pZ _ rl ?_))⟩);rw[DI d];show eI (0#(168#(cI g m rl o d e q)))
def KD:Sp:=38#(F=[.ref w]/\79#0/\∀D Y,225#(Y D=4#(ju (g.N.trail J.length) p)->Q (.ref D) Y))
def KG:Sp:=38#(F=[.ref w]/\79#0/\50#(.int 18#(jC p J g)))
def KH:Sp:=38#(F=[.ref w]/\79#0/\∀D Y,225#(Y D=4#(aE g.N.cZ)->Q (.ref D) Y))
def wF:Sp:=38#(∃(D:Addr) (c:Nat),F=[.ref w,.ref D,.int c]/\79#0/\H D=4#(ju (g.N.trail J.length) p)/\c<J.length/\Q (.int 18#(g.N.ring c)) H)
def Gx{p:Nat}{J:List fN}{g:aC p J}(l:Paired (TupAt H) xs J)(Y:k<J.length):∃c,xs[k]?=some (.ref c)/\H c=15#([.int 18#(g.N.a k),.int 18#(g.N.b k),.int (dJ J k).2.2]):=by
 have e:k<xs.length:=by rw[l.length];show Y
 show eg (λt=>bE λn c L m=>?_) (Paired.ia l (i:=k) (x:=xs[k]) (by simp[e]))
 have r:t=dJ J k:=by
  have z:=rH Y;rw[n]at z;show 20#z
 show ae c (by rw[<-L];simp[e]) ?_
 rw[m,<-HY Y,<-HZ Y,r];rfl
def iO:Ok T T.lN 2 KD:=by
 show 1#T.lN.ok
 .revert h;show fy λs p J=>aA λg a o q=>?_;subst a
  show ae _ (ah (bQ 1 X.nd (bU (Ri rl) (by rfl) T.Bh _u (bH (bU Cn (by rfl) T.dM PyProof.Rows.boot_range (bH 191#0)))))
   (ah 167#(aP LX (bJ (bH av)) 191#0)
   (ah (dw PassesOwn.never rl (96#(37#191#0)) (br 3 X.nd)
   (ah (bQ 4 X.nd (dS K (b8 (B0 K) 191#0 e9)))
   (ah (bQ 5 X.nd (dS K (b8 (B0 K) 191#0 e9)))
   (aj (bD (aF lM 192#h8 192#nT (aG _)) (ah (gU (i:=6) X.nd rl (Or.inr rl) (aP h9 (aP h9 (b8 (iP K) cA h8) (b8 (iP K) cA nT)) (aP je av e9)))
   (ah (gU (i:=7) X.nd rl (Or.inr rl) (cS (yv rl) (by rfl) T.RG PyProof.Rows.boot_max (bM 192#h8 192#nT)))
   (ah (fL (i:=2) X.nd rfl rfl (own:=["trail","least"]) (js:=[6,7]) (c9 X) rfl (Az K (by rfl) T.IQ (bM cA bx)) 6#(xx K (n:=2) rfl (aL (88#(["trail","least","bridge","moved"])) (aL (br 1 (fR ["trail","least","bridge","moved"])) cR))) 44#0 6#(iA (aF dP bx e9 (aG _)) (aP h9 aT cA) aT))
   (aj (bQ 1 X.nd (aB (kL T) C (bq bx (bM h8 nT)))))))) aO)))))
   (aj (ay cA))))) ?_
  show rX ?_;intro c a L d b e f h i j;show 165#(λa f Z R h=>?_)
  have L:=g.p2;have a:=g.len;have J:=h.length;show 14#(cL (aZ.of Z) gj 28#(λr C=>bC r p rl aa (by lia) λl P=>?_))
  have j:ak H (η (η H r (.Lk 0 p)) l (.lst (xJ p))):=(ak.new C).trans (ak.new P);have i:η (η H r (.Lk 0 p)) l (.lst (xJ p)) l=4#(ju (g.N.gJ 0) p):=aa;generalize η (η H r (.Lk 0 p)) l (.lst (xJ p))=b at j i;show 17#(λc a=>?_)
  have d:ak b (η b c (.lst [.int 0])):=ak.new a;show 14#(cL 91#(d _ _ (j _ _ Z)) gj (gR c p (ai rl 34#(dD aa (by lia) (by lia) (by rw[x!];change 1*p<=sizeLine;show 87#(by lia)) λe a=>?_))))
  show fresh (η (η b c (.lst [.int 0])) e _) rl a λG k f=>?_
  have w:=d.trans k;have b:G e=4#(ju (g.N.trail 0) p):=by
   rw[f,x!,Mv];rfl
  show 14#(cL 91#((j.trans w) _ _ Z) g5 (ly rl (.inr 91#((j.trans w) _ _ R)) 28#(bF (by lia) (by lia) ?_)))
  show pO (λk U u=>∃f z A m C E F,U=[some (.ref s),some (.ref f),some (.ref z),A,m,C,E,F]/\ak H u/\u f=4#(ju (g.N.gJ k) p)/\u z=4#(ju (g.N.trail k) p)/\H z=none)
   (eE l e none (bu none none none none rl 139#0 (w _ _ i) b (j.free (d.free a)))) ?_ ?_
  .intro k d U u Y;show gb λf z A m=>bO λC E F c O b e s=>?_;subst c
   rw[x!,J]at Y;rw[C?];obtain⟨c,r,i⟩:=Gx h Y;have l:=g.N.al k Y;have t:=g.N.bl k Y;have o:=RM.Ct (N:=g.N) k;have d:g.N.mH k = ! 13#(g.N.gJ k (g.N.a k)=g.N.gJ k (g.N.b k)):=rfl;have j:g.N.trail (k+1)=if g.N.mH k=true then λv=>if g.N.gJ k v=max (g.N.gJ k (g.N.a k)) (g.N.gJ k (g.N.b k)) then g.N.trail k v^^^(g.N.trail k (g.N.a k)^^^g.N.trail k (g.N.b k)^^^2^k) else g.N.trail k v else g.N.trail k:=rfl
   generalize g.N.a k=c at *;generalize g.N.b k=h at *;show 14#(cL 91#(O _ _ Z) g5 28#(cL 91#(O _ _ R) (aH r) (cL 91#(O _ _ i) gj (?_))));show 14#(cL 91#(O _ _ Z) g5 28#(cL 91#(O _ _ R) (aH r) (cL 91#(O _ _ i) g5 (?_))));show(0#(fO (aI.of b) (aH (dQ l)) 14#(ai rl (fO (aI.of b) (aH (dQ t)) 3#(?_)))));rw[k7]
   by_cases a:g.N.gJ k c=g.N.gJ k h
   .rw[e8 a]at d;rw[d,ξ 7#0]at o j
    rw[e8 a];show cy (eE f z _ (bu _ _ _ _ rl O (by rw[o];show b) (by rw[j];show e) s))
   .rw[gm a]at d;rw[d,ο (by rfl)]at o j
    rw[gm a];have w:Builtin.bitXor (Builtin.bitXor ((g.N.trail k c:Nat)) ((g.N.trail k h:Nat))) (1*2^(k:Int).toNat)=((g.N.trail k c^^^g.N.trail k h^^^2^k:Nat)):=by
     rw[k6,xor_int,xor_int]
    show eI (0#(fO (aI.of e) (aH (dQ l)) 14#(ai rl (fO (aI.of e) (aH (dQ t)) (cU 28#(207#(?_)))))))
    show(0#(fO (aI.of b) (aH (dQ l)) 14#(ai rl (fO (aI.of b) (aH (dQ t)) (bf _ _ rl ?_)))));show(0#(bC z f rl 24#e 24#b (λD S=>qg (by rw[gZ,gZ]) (AD (g.N.trail (k+1)) u D) (.start S) (λi M r _ a=>bF 42#(a.1 _ _ e) 42#(a.1 _ _ b) a.len) (by rw[gZ];show 87#(by lia)) ?_ ?_)))
    .intro i x y d M r B W a v;obtain⟨I,rfl⟩:=ue B;obtain⟨_,rfl⟩:=ue W;show aq d _ rl (aZ.of aa) 103#(bC _ _ rl rl rl (0#3#(?_)));rw[Ib,k7]
     by_cases d:g.N.gJ k i=max (g.N.gJ k c) (g.N.gJ k h)
     .rw[e8 d];show eI (0#(cU (a.next S (ak.new v) ?_)));change V.int (Builtin.bitXor _ (Builtin.bitXor (Builtin.bitXor _ _) _))=_;rw[w,xor_int,j];change _=V.int (((if _ then _ else _:Nat)):Int)
      rw[ο d]
     .rw[gm d];show cy 14#(a.next S (ak.new v) ?_);rw[j];change _=V.int (((if _ then _ else _:Nat)):Int)
      rw[ξ d]
    .intro M r a;rw[gZ]at a;have W:r D=4#(ju (g.N.trail (k+1)) p):=by rw[a.2.1,a.2.2]
     show(0#14#(b9 f (g.N.gJ k) p c h rl (a.1 _ _ b) L l t (λy I x d B=>?_)))
     show eE y D _ (bu _ _ _ _ rl ((O.trans a.1).trans d) (by rw[o];show B) (d _ _ W) (O.free S))
  .intro U u;show gb λf z A m=>bO λC E F t O b e s=>?_;subst t
   rw[x!,J]at e;show 14#(q z u s O e)
def N1:Ok T T.Dy 3 KG:=by
 show 1#T.Dy.ok
 .revert h;show fy λv p J=>aA λg R o q=>?_;subst R
  show ae _ (ah (bQ 1 X.nd av)
   (ah (dw PassesOwn.never rl (lY K (71#iO)) (br 2 X.nd)
   (aj (rm (i:=1) X.nd rl (Or.inl rl) cA LF)))
   (aj (ay bx)))) ?_
  show zD ?_;intro Y a L;show 14#(168#(au g rl o λD N M j S=>au D rl 24#S ?_))
  show iq (λi U G=>∃u,U=[some (.ref v),54#((UA (g.N.trail J.length) i:Nat)),u]/\G=N) (ae none rl rl) (by intro i U G _;show af λ_ _ z=>?_;show by rw[z];show aI.of S) ?_ ?_
  .intro i x r U G B;show af λu O c=>?_;subst O c
   obtain⟨I,rfl⟩:=ue B;show(0#(cU (ae (54#((g.N.trail J.length i:Nat))) ?_ rl)));change[_,some (V.int (Builtin.bitOr _ _)),_]=_;rw[or_int];rfl
  .intro U G;show af λu P t=>?_;subst P t
   rw[gZ,Fp];show 14#(q _ j)
def DK:Ok T T.Dz 4 KH:=by
 show 1#T.Dz.ok
 .revert h;show fy λv p J=>aA λg f o q=>?_;subst f
  show 56#(ay (aB (fF T) C (bH (aP h9 (71#lI) (71#N1)))));have L:=g.len;show 14#(bZ v p J rl (aX o g.pZ _ rl (168#(au g rl o λN j=>(cU (au ((53#0-1)^^^jC p J g) ?_ ?_ (λD G M w S=>?_)))))))
  .change[V.int (Builtin.bitXor _ _)]=_;rw[Px,xor_int]
  .show b! (bits_le yR) (by lia)
  .rw[Cz]at S;show q D G (j.free M) 139#0 S
def xU:Ok T T.oA 1 wF:=by
 show 1#T.oA.ok
 .revert h;show fy λv p J=>bO λg D c d o S L q=>?_;subst d
  show ae _ (ah 187#(b8 (B0 K) 191#0 cA)
   (aj (ay (aP h9 (aP h9 192#(dS K e9) 192#(dS K e9)) (aP je av cA))))) ?_
  show fE ?_;intro Y;show 165#(λz f Z R l=>?_)
  have e:=g.len;obtain⟨b,a,m⟩:=Gx l L;have P:=g.N.al c L;have t:=g.N.bl c L;show 14#(222#28#(cL (aZ.of R) (aH a) (?_)));show(0#(cL (aZ.of m) gj (fO (aI.of S) (aH (dQ P)) 14#(ai rl (cL (aZ.of m) g5 (fO (aI.of S) (aH (dQ t)) (cU 28#(207#(?_)))))))))
  change Q (V.int (Builtin.bitXor (Builtin.bitXor _ _) _)) H
  rwa [k6,xor_int,xor_int]
def xV:Sp:=38#(∃c:Nat,125#c/\79#0/\c∈g.N.cZ/\50#(.int 18#(g.N.ring c)))
def Bp:Ok T T.qM 5 xV:=by
 show 1#T.qM.ok
 .revert h;show fy λv p J=>aY λg c e o L q=>?_;subst e
  show ae _ (ah (bD (aF (L4 K) bx (71#DK) 100#0) dG aO)
   (aj (ay (aB (xU T) C (bq aT (bM (71#iO) bx)))))) ?_
  show di ?_;intro Y a;show(0#(168#(au g rl o λD N M j S=>(ly rl (93#S) (aX rl (i7 _) _ rl ?_)))))
  rw[mK,e8 L];show cy (0#(168#(au g rl (o.same j) λy G U w k=>14#(eE v p J (cg g y c rl (o.same 139#0) k ((RM.dZ.mp L).1) (q _ 139#0))))))
def KI:Sp:=84#(∃z R,∃a b:Nat,F=[.int z,.int R]/\z=(a:Int)/\R=(b:Int)/\63#18#(a&&&b)<=1000/\50#(.int 18#29#(aW ((a&&&b:Nat):Int))))
def N2:Sp:=84#(∃z R,∃a b:Nat,F=[.int z,.int R]/\z=(a:Int)/\R=(b:Int)/\63#18#(a&&&b)<=1000/\50#(.bl (13#(29#(aW 18#(a&&&b))%2=1))))
structure N3(p:Nat)(xs:List Nat):Prop where
 up:xs.Pairwise (· < ·)
 lt:∀x∈xs,x<p
def Gy:Sp:=84#(∃w p J,∃l f,F=[.ref w,.ref l]/\79#0/\H l=4#(aE f)/\N3 p f/\Q (.bl true) H)
def Gz:Sp:=84#(∃w p J,∃l M,F=[.ref w,.ref l]/\79#0/\Ml p J/\(H l=4#(aE M)\/H l=15#(aE M))/\(∀k∈M,k<J.length)/\Q (.int 18#(orM M)) H)
def KJ:Sp:=84#(∃w p J,∃l M,F=[.ref w,.ref l]/\79#0/\Ml p J/\H l=4#(aE M)/\(∀k∈M,k<J.length)/\Q (.int 18#(orM M)) H)
def KL:Sp:=λF H Q _=>∃w p J,∃g:aC p J,∃l f,F=[.ref w,.ref l]/\79#0/\H l=4#(aE f)/\N3 p f/\
 50#(.int 18#(g.N.cut (λx=>13#(x∈f))))
def tq(p)(f):N3 p ((19#p).filter f):=⟨u5,λx B=>E!.mp (K!.mp B).1⟩
def Qx(n):13#(V.int (((n:Nat):Int)%2)=V.int 1)=13#(n%2=1):=M?.mpr ⟨λz=>203#(V.int.inj z),λz=>k! V.int (by lia)⟩
def N4:Ok T T.DC 3 KI:=by
 show 1#T.DC.ok
 .revert h;show eg λz=>bO λR u v f r t O q=>?_;subst f r t
  show 56#(ay (37#(aB (fF T) C (bH (aP LD aT bx)))));show(0#(cU (au (u&&&v) ?_ O (λD N g j S=>(ly rl (93#S) (?_))))))
  .change[V.int (Builtin.bitAnd _ _)]=_;rw[and_int]
  .rw[az];show q N j
def gr:Ok T T.oE 4 N2:=by
 show 1#T.oE.ok
 .revert h;show eg λz=>bO λb u v R a c O q=>?_;subst R a c
  show 56#(ay (cN dP (aP eZ (39#N4) av) av (aG _)));show(0#(bu _ _ u v rl rl rl O (λN j=>(cU (bF (rC rl) rl ?_)))))
  rw[Qx];show q N j
def zX:Ok T T.zJ 1 Gy:=by
 show 1#T.zJ.ok
 .revert h;show gF λv p=>bO λJ l u r o P d q=>?_;subst r
  show ae _ (ah 167#(sA mw av)
   (ah (dw PassesOwn.never rl (lY K bx) (br 3 X.nd)
   (ah 66#(PW.pt (hU (aF HA e9 cA (aG _)) (gf (aF yu e9 191#0 (aG _)))))
   (aj 167#e9)))
   (aj (ay fK)))) ?_
  show zC ?_;intro Y a L N b;show 165#(λD f Z R M=>?_)
  show(0#(au l rl 24#P (mu (λi U G=>∃z g,U=[some (.ref v),some (.ref l),some (.int z),g]/\G=H/\∀x∈u.drop i,z<x) (aq _ none rl rl (λx _=>by change(-1)<_;lia)) (by intro i U G _;show aD λ_ _ _ z _=>?_;show by rw[z];show aI.of P) ?_ ?_)))
  .intro i y U G W;show aD λz g t w m=>?_;subst t w
   show af (λx B c=>?_) (ck W);subst c
   have j:u.drop i=x::u.drop (i+1):=by
    obtain⟨I,e⟩:=iJ.mp B;rw[List.drop_eq_getElem_cons I,e]
   have k:=m x (by rw[j];show g!)
   have e:=d.lt x (fP B);show(0#(cU 14#(gO (by lia) 28#(ai rl (cL (aZ.of Z) gj (cU (ai rl (gO (by lia) ?_))))))))
   show(ai rl ⟨x,ai rl 34#(λy W=>?_)⟩)
   have n:(u.drop i).Pairwise (· < ·):=d.up.sublist (List.drop_sublist _ _);rw[j]at n;have:=(_K.mp n).1 y W
   lia
  .intro U G;show aD λz g e c _=>?_;subst e c
   show q
def nU:Ok T T.vZ 1 Gz:=by
 show 1#T.vZ.ok
 .revert h;show dO λv p J l M r o=>jM λW P Y q=>?_;subst r
  show ae _ (ah 167#av
   (ah (dw PassesOwn.never rl (XI K bx) (br 3 X.nd)
   (ah (bD (PW.pt (hU (aF B9 e9 av (aG _)) (gf (aF yu e9 (37#191#0) (aG _))))) dG aO)
   (aj (rm (i:=2) X.nd rl (Or.inl rl) (aP je av e9) LF))))
   (aj (ay cA)))) ?_
  show zC ?_;intro y a L N b;show 165#(λn f Z R m=>?_)
  have u:=m.length;have w:=W.len;rcases P with P|P
  .show .inl 14#(au l rl 24#P (mu (λi U G=>∃g,U=[some (.ref v),some (.ref l),54#((orM (M.take i):Nat)),g]/\G=H) (ae none rl rl) (by intro i U G _;show af λ_ _ z=>?_;show by rw[z];show aI.of P) ?_ ?_))
   .intro i x U G B;show af λg c e=>?_;subst c e
    show af (λk S d=>?_) (ck B);subst d
    have t:=Y k (fP S);show 14#(cU 28#(gO (by lia) (0#(222#(ly rl (.inr (aZ.of R)) (cU (ai rl (gO (by lia) ?_))))))))
    show(0#(207#(ae (some (.int k)) ?_ rl)))
    change[_,_,some (V.int (Builtin.bitOr _ (1*2^(k:Int).toNat))),_]=_;rw[k6,or_int,A!,S];unfold Ring.orM;rw[C_];rfl
   .intro U G;show af λg c I=>?_;subst c I
    rw[az,o!];show(ai rl (q))
  .show .inr 14#(au l rl ⟨_,aZ.of P⟩ (Hv (λi U G=>∃g,U=[some (.ref v),some (.ref l),54#((orM (M.take i):Nat)),g]/\G=H) (ae none rl rl) (by intro i U G _;show af λ_ _ z=>?_;show by rw[z];show aZ.of P) ?_ ?_))
   .intro i x U G B;show af λg d j=>?_;subst d j
    show af (λk S c=>?_) (ck B);subst c
    have t:=Y k (fP S);show 14#(cU 28#(gO (by lia) (0#(222#(ly rl (.inr (aZ.of R)) (cU (ai rl (gO (by lia) ?_))))))))
    show(0#(207#(ae (some (.int k)) ?_ rl)))
    change[_,_,some (V.int (Builtin.bitOr _ (1*2^(k:Int).toNat))),_]=_;rw[k6,or_int,A!,S];unfold Ring.orM;rw[C_];rfl
   .intro U G;show af λg d D=>?_;subst d D
    rw[az,o!];show(ai rl (q))
def wG:Ok T T.vZ 1 KJ :=
 (nU T).imp λF H Q E h=>by
  revert h;show gF λw p=>bO λJ l M e o W P r=>?_
  show⟨w,(bu p J l M e o W (.inl P) r)⟩
def DL:Ok T T.DE 2 KL:=by
 show 1#T.DE.ok
 .revert h;show fy λv p J=>bO λg l u O o P d q=>?_;subst O
  show ae _ (ah (bD (ff (cY (39#zX))) dG aO)
   (aj (ay (aB (wG T) C (bM aT (bI (own:=["k","tie"]) (js:=[1]) (c9 X) rfl (ve K (by rfl) T.fc (bH 191#0)) 6#(xx K (n:=2) rfl (aL (88#(["k","tie","side"])) (aL (br 1 (fR ["k","tie","side"])) cR))) 6#(gx (aF lM (cN (Vo K) (dS K bx) cA 100#0) (cN (Vo K) (dS K bx) cA 100#0) (aG _))) (λ_ _ _ _=>aT))))))) ?_
  show di ?_;intro b a;show 165#(λz f Z R w=>?_)
  have N:=w.length;have L:=g.len;show(0#(168#(aq l u rl o (aX P d _ rl (cy ?_)))));show(0#(222#(au z rl ⟨_,aZ.of R⟩ (λD S=>Fy (mE (λk=>13#(g.N.a k∈u)^^13#(g.N.b k∈u)) H D) (.start S) (λi M G _ e=>⟨aZ.of (e.1 _ _ R),e.len⟩) (bN (by lia)) ?_ ?_))))
  .intro i x y M G B e j;have I:i<J.length:=203#(iJ.mp B).1
   obtain⟨b,c,m⟩:=Gx w I;rw[B]at c;cases c;have r:η G y (.tup [.int i,.ref b]) b=some _:=ak.new j _ _ (e.1 _ _ m);have W:η G y (.tup [.int i,.ref b]) l=some _:=ak.new j _ _ (e.1 _ _ P);show aq y _ rl (aZ.of aa) 103#(bC _ _ rl rl rl ?_);show 14#(cL (aZ.of r) gj 28#(ly rl (93#W) (aX rl (i7 _) _ rl (cL (aZ.of r) g5 (ai rl (ly rl (93#W) (e7 rl (i7 _) rl 156#0)))))));rw[mK,mK];cases t:13#(g.N.a i∈u)<;>cases U:13#(g.N.b i∈u)
   .show e.no (ak.new j) (by rw[t,U];rfl)
   .show 14#(e.yes S (ak.new j) (by rw[t,U];rfl))
   .show 14#(e.yes S (ak.new j) (by rw[t,U];rfl))
   .show e.no (ak.new j) (by rw[t,U];rfl)
  .intro M G e;show b9 v p J D _ rl (o.same e.1) g.pZ (by rw[e.2.1,e.2.2]) (λk Y=>?_) ?_
   .have:=E!.mp (K!.mp Y).1
    lia
   .rw[Fz,N];show q G e.1
def jH(p)(ts)(g:aC p ts)(m:Nat):List Nat:=(19#p).filter λx=>g.N.par (g.N.trail ts.length x) m
def Told(p)(ts)(g:aC p ts)(m:Nat)(H Y:Hp)(t:Addr):Prop :=
 (m=g.N.cut (λx=>13#(x∈jH p ts g m))/\∃l,H l=none/\Y t=15#([.str "side",.ref l])/\Y l=4#(aE (jH p ts g m)))\/
 (∃c,c∈g.N.cZ/\g.N.par (g.N.ring c) m=true/\Y t=15#([.str "ring",.int 18#(g.N.ring c)]))
def GA:Sp:=38#(∃S,125#S/\79#0/\oY J S λm=>∀t Y,H t=none->ak H Y->Told p J g m H Y t->Q (.ref t) Y)
def DN{p:Nat}{J:List fN}{g:aC p J}:g.N.cut (λx=>13#(x∈jH p J g m))=g.N.cut λx=>g.N.par (g.N.trail g.N.n x) m:=RM.JH λx B=>by
 unfold jH;rw[R!,decide_eq_true_eq,K!,E!];show⟨λz=>z.2,λz=>⟨B,z⟩⟩
def pT{m:Nat}(h:m≠0):∃c,(aW (m:Int))[0]?=some c/\m.testBit c=true:=by
 obtain⟨k,Y⟩:=r_ h;have d:k∈aW m:=by
  show K!.mpr ⟨E!.mpr (Nat.lt_of_not_le λz=>?_),by rw[iz];show Y⟩
  have:=Cr z;rw[iz,Y]at this;cases this
 cases e:aW m with
 | nil =>
   rw[e]at d;cases d
 | cons c r =>
   have L:c∈aW m:=by rw[e];show g!
   have:=(K!.mp L).2;rw[iz]at this;show ae c rl this
def iF(h:u^^^v=0):u=v:=by
 have:=k! (λx=>x^^^v) h
 simpa[b?]using this
def N5(n):13#(V.int ((n:Nat):Int)=V.int 0)=decide (n=0):=M?.mpr ⟨λz=>203#(V.int.inj z),λz=>by rw[z];rfl⟩
def zY:Ok T T.zK 6 GA:=by
 show T.zK.ok λ_ A _ s H F Q E X a h=>?_
 .revert h;show fy λv p J=>aD λg S b o q=>?_;subst b
  show ae _ (ah (bX (aB (iG T) a (bM aT bx)))
   (ah (gU (i:=2) X.nd rl (Or.inr rl) (aB (iO T) a (bH aT)))
   (ah (fL (i:=3) X.nd rfl rfl (own:=["point"]) (js:=[1,2]) (c9 X) rfl (96#191#0) 6#(88#(["point","tie_set","trails"])) 6#(gx (cY (aB (gr T) a (bM (b8 (iP K) cA aT) bx)))) (λ_ _ _ _=>aT))
   (ah (bQ 4 X.nd (aP h9 bx (aB (DL T) a (bM aT e9))))
   (ah (bD (aF dP h8 av (aG _)) (aj (ay (bV (bM bg e9)))) aO)
   (aj (ay (bV (bM bg (aB (Bp T) a (bM aT (sN K (aB (fF T) a (bH h8)))))))))))))) ?_
  show Gj ?_;intro Y a L c b B;show 165#(λa f Z R l=>?_)
  have a:=g.len;have a:=g.p2;have W:=g.pZ
  revert q;show aA λm r d q=>?_;subst r
  show(0#⟨v,(aV p J _ rl o W (au m rl d ?_))⟩);show 14#(168#(au g rl o λD a b j f=>?_))
  show 14#(cL 91#(j _ _ Z) gj 28#(43#(λC b=>eN (mE (λx=>g.N.par (g.N.trail J.length x) m) a C) (.start b) (λi M G _ e=>e.len) (bN (by lia)) ?_ ?_)))
  .intro i M G I e;rw[x!]at I;rw[C?];have c:63#((g.N.trail J.length i&&&m:Nat))<=1000:=b! (bits_le (_J _ d)) (by lia)
   show 34#0#(fO 42#(e.1 _ _ f) (aH (dQ I)) 14#(bu _ _ (g.N.trail J.length i) m rl rl rl c (λu a=>156#0)))
   rw[AN (g:=g) d];cases O:g.N.par (g.N.trail J.length i) m with
   | true=>show(ai rfl (e.yes b a O))
   | false=>show e.no a O
  .intro M G e;have O:G C=4#(aE (jH p J g m)):=by rw[e.2.1,e.2.2,x!];rfl
   have U:=j.trans e.1;show(0#14#(168#(cg g C _ rl (o.same U) O (tq p _) λu a=>(cU (?_)))))
   have y:=U.trans a;dsimp only;rw[xor_int,DN];have e:=λk=>RM.CB (N:=g.N) (k:=k) d
   have w:(m^^^g.N.cut λx=>g.N.par (g.N.trail g.N.n x) m)<53#0:=T! d (RM.SO _)
   have c:(m^^^g.N.cut λx=>g.N.par (g.N.trail g.N.n x) m)=0->m=g.N.cut (λx=>13#(x∈jH p J g m)):=λz=>by rw[DN];show iF z
   generalize (m^^^g.N.cut λx=>g.N.par (g.N.trail g.N.n x) m)=A at e w c
   show(ai rl 3#(?_));rw[N5]
   by_cases P:A=0
   .rw[e8 P];show eI (ai rl 17#(λt n=>q t _ (y.free n) (y.trans (ak.new n)) (.inl ⟨c P,(au C (j.free b) aa (ak.new n _ _ (a _ _ O)))⟩)))
   .rw[gm P];show af (λc f d=>?_) (pT P)
    show cW (λb a h=>?_) (e c d)
    show cy (0#(au A rl (b! (bits_le w) (by lia)) (λj k l e d=>(fO (aI.of d) (aH (nI f)) (168#(bC g c rl (o.same (y.trans e)) (RM.dZ.mpr ⟨b,a⟩) λI i=>17#(λt n=>?_)))))))
    have d:=(y.trans e).trans i;show q t _ (d.free n) (d.trans (ak.new n)) (.inr (au c (RM.dZ.mpr ⟨b,a⟩) h aa))
def Bq:Sp:=84#(∃w p J S,125#S/\79#0/\Ml p J/\oY J S λm=>50#(.int (J' J m)))
def gM:Ok T T.sR 5 Bq:=by
 show 1#T.sR.ok
 .revert h;show gF λu p=>aY λJ S f o W q=>?_;subst f
  show 56#(ay (cS (sumK K rfl) (by rfl) T.V5 PyProof.Rows.boot_sum (bH (bI (own:=["tie"]) (js:=[]) (c9 X) rfl (lY K (39#lJ)) 6#(88#(["tie"])) 44#0 6#191#0))))
  show(0#⟨u,(aV p J S rl o W ?_)⟩)
  revert q;show aA λm r d q=>?_;subst r
  .show au m rl d λL v N a j U I=>au L rl 24#U λD e=>?_
   have w:=W.len;have Z:v.length=(aW m).length:=by rw[I.length,χ]
   have b:v.length<=24:=by
    rw[Z];have O:=bits_le d;have:=M! (bit m) 19#(63#m);rw[C!]at this;show b! this (by lia)
   show bA (tG (λk=>(dJ J k).2.2) (aW m) N D) (.start e) (λi M G _ z=>⟨aI.of (z.1 _ _ U),z.len⟩) (bN b) ?_ ?_
   .intro i x M G B z;show eg (λt=>bE λn c l g=>?_) (Paired.ia I B);subst l
    rw[d!]at n;show af (λk Y R=>?_) (nC.mp n);subst R
    show 3#(cL 91#(z.1 _ _ g) (aH rl) (z.next e (ak.refl _) Y rl))
   .intro M G z;rw[Z]at z;show aq D _ rl (aI.of z.fin) (q G (j.trans z.1))
def iH(J:List fN)(x y:Nat):Prop:=J' J x<J' J y\/(J' J x=J' J y/\x<=y)
def N6(t:Addr)(e:Pos):Sp:=λF H Q _=>∃w p J,∃g:aC p J,∃l U,F=[.ref w,.ref l]/\79#0/\H l=4#(aE U)/\U.length<64/\(∀m∈U,m<53#0)/\H t=62#(dU (gB "by_length") e)/\
 ∀D r Y,225#(Y D=4#(aE r)->r.Perm U->r.Pairwise (iH J)->Q (.ref D) Y)
theorem N7:∀{l},(∀x∈l,0<=x)->∃U:List Nat,l=U.map (λx=>((x:Nat):Int))
 | [],_=>⟨[],rfl⟩
 | x::r,h=>by
   obtain⟨U,e⟩:=N7 λy W=>h y (jx _ W)
   have B:=h x g!;show⟨x.toNat::U,?_⟩;rw[l!,<-e]
   congr 1
   lia
def tu:ZL T T.nh 9 (N6 a.bT bK):=by
 show T.nh.ok λA _ s H F Q E X C h=>?_
 .revert h;show fy λv p J=>cQ λg l U O=>eV λo P w i R q=>?_;subst O
  show 56#(ay (NJ (fq:=["web"]) (js:=[0]) C (c9 X) rfl (by rfl) T.wu rfl T.nh.F.hd (bH bx) (λ_ _ _ _ C=>(bV (bM (aB (gM T) C (bM bx aT)) aT)))))
  have W:=g.pZ;have L:=g.len;have j:53#0<=2^24:=R? 7#0 L
  have I:∀n,n∈U.map (λx=>((x:Nat):Int))->∃m:Nat,n=m/\m∈U:=λn d=>by
   show af (λm r c=>?_) (U'.mp d);subst c
   show ae m rl r
  show 14#(aV l (U.map (λx=>((x:Nat)))) (λz=>(J' J z.toNat,z)) rl (by rw[<-k8];show P) (by rw[χ];show w) (e7 (λn d=>?_) R (λu Y n d=>?_) λD N c S Z j M g=>?_))
  .show af (λm b r=>?_) (I n d);subst b
   have:=i m r;show⟨by change 0<=(m:Int);lia,by change(m:Int)<1073741824;lia⟩
  .show af (λm t r=>?_) (I n d);subst t
   have k:cK H u:=λb f e=>Y b _ e (λy z=>nomatch z) (λy z=>nomatch z)
   show(0#⟨v,(aV p J _ rl (o.tups k) W (au m rl (i m r) λc Z=>(ai rl 17#(λd B=>?_))))⟩)
   show bR (Z.trans (ak.new B)) d rl aa
  .obtain⟨d,rfl⟩:∃d:List Nat,N=d.map (λx=>((x:Nat):Int)):=by
    show N7 λx B=>?_
    show af (λm f _=>?_) (I x (M.mem_iff.mp B));subst f
    lia
   have b:d.Perm U:=by
    have:=M.map Int.toNat;rw[L!,L!]at this;have e:∀l:List Nat,l.map (Int.toNat∘λx=>((x:Nat):Int))=l:=λl=>by
     induction l with
     | nil=>rfl
     | cons x r G=>rw[l!,G];rfl
    rw[e,e]at this;show this
   show q D d c S Z (by rw[k8];show j) b ?_
   rw[D_]at g;show _l (λ{x y} B e h=>?_) g
   have B:=i x (b.mem_iff.mp B);have e:=i y (b.mem_iff.mp e);have h:J' J x*1073741824+(x:Int)<=J' J y*1073741824+(y:Int):=h;unfold iH
   lia
def N8:Sp:=λF H Q _=>∃w p J,∃g:aC p J,∃m:Nat,125#m/\79#0/\m<53#0/\
 ∀D W S Y,W.length=p->Ke m H D W S Y->Ry g.N J.length S->Q (.ref D) Y
def TU{b:Bool}(h:f (129#b.toNat) H):if b=true then tC (.int 1) U H f else tC (.int 0) U H f:=by
 cases b<;>show h
def r7:Ok T T.kE 2 N8:=by
 show 1#T.kE.ok
 .revert h;show fy λv p J=>aY λg m a o d q=>?_;subst a
  show ae _ (ah (fL (i:=2) X.nd rfl rfl (own:=["point"]) (js:=[]) (c9 X) rfl (96#191#0) 6#(88#(["point"])) 44#0 6#(bJ dY))
   (ah (dw PassesOwn.never rl (ve K (by rfl) T.fc (bH 191#0)) (xx K rl (aL (br 3 X.nd) (aL (br 4 X.nd) cR)))
   (ah (bQ 5 X.nd (iA (cY (aB (jc T) C (bM bx e9))) av av))
   (ah (bX (qv K (eH O! V! W! cJ (b8 (iP K) cA (dS K h8)) (bH (bV (bq e9 (bM (dS K h8) nT)))))))
   (aj (bX (qv K (eH O! V! W! cJ (b8 (iP K) cA (dS K h8)) (bH (bV (bq e9 (bM (dS K h8) nT)))))))))))
   (aj (ay cA)))) ?_
  show qH ?_;intro c a L N b;show 165#(λc f Z R b=>?_)
  have C:=b.length;have a:=g.p2;have a:=g.len;show 14#(cL (aZ.of Z) gj 28#(43#(λD a=>eN (Rx m H D) (.start a) (λi M G _ z=>z.len) (87#(by lia)) ?_ ?_)))
  .rintro i M G I a;show bF rl (dl rl) λl P=>a.next P
  intro M G;show aA λW r A a=>?_;subst r
  show 14#(cL 91#(a.same _ _ Z) g5 (au c rl ⟨_,aZ.of (a.same _ _ R)⟩ ?_));show zd (λk U u=>∃h i e,U=[some (.ref v),some (.int m),some (.ref D),h,i,e]/\∃S,Ke m H D W S u/\Ry g.N k S) (eE none none none (bR rl _ a Ry.start)) (by intro k U u _;show fy λ_ _ _=>bE λ_ _ z _=>?_;show aZ.of (z.same _ _ R)) ?_ ?_
  .intro k x y U u Y;show fy λh i e=>bE λa S l B j=>?_;subst a
   have a:=(iJ.mp Y).1;have w:k<J.length:=by lia
   obtain⟨a,P,r⟩:=vp b w;rw[Y]at P;cases P;show fresh (η u y _) rl j λc b I=>?_
   have a:=l.go b;show aq y _ rl (aZ.of I) 103#209#rl;show(0#(bf m k rl 156#0));rw[iz];have b:g.N.a k<p:=g.N.al k w;have O:g.N.b k<p:=g.N.bl k w;have d:=a.same _ _ r;show TU ?_;show aY (λj o t s f n=>?_) (a.get (i:=g.N.a k) (by lia))
   show(0#(cL (aZ.of d) gj (fO (aI.of a.lst) (aH t) (?_))));have b:o.length<=2*k:=by rw[n.length];show B.len _
   show⟨.inl (116#f),0#(cL (aZ.of d) g5 (ai rl 17#(λb p=>?_)))⟩
   have d:ak c (η c b (.tup [.int k,.int (g.N.b k),.int ((10#0).toNat)])):=ak.new p;have v:jW m (η c b (.tup [.int k,.int (g.N.b k),.int ((10#0).toNat)])) b (k,g.N.b k):=aa;have t:=a.go d;have p:=d _ _ f;have f:=Paired.B6 n λ_ _ z=>d _ _ z
   show cg j _ _ rl rl p (jh (by rw[χ];lia)) ?_
   have a:=t.put s p f v;have f:=a.same _ _ r;generalize η (η c b (.tup [.int k,.int (g.N.b k),.int ((10#0).toNat)])) j 69#(o.map V.ref++[.ref b])=d at a f;show aY (λo b c p j n=>?_) (a.get (i:=g.N.b k) (by lia))
   show(0#(cL (aZ.of f) g5 (fO (aI.of a.lst) (aH c) (?_))));have c:b.length<=2*k+1:=by
    rw[n.length];unfold vK;have:=B.len (g.N.b k)
    split
    .rw[i!,X!];lia
    .lia
   show⟨.inl (116#j),0#(cL (aZ.of f) gj (ai rl 17#(λc r=>?_)))⟩
   have b:ak d (η d c (.tup [.int k,.int (g.N.a k),.int ((10#0).toNat)])):=ak.new r;have f:jW m (η d c (.tup [.int k,.int (g.N.a k),.int ((10#0).toNat)])) c (k,g.N.a k):=aa;have c:=a.go b;have a:=b _ _ j;show cg o _ _ rl rl a (jh (by rw[χ];lia)) ?_
   show eE _ _ _ (bR rl _ (c.put p a (Paired.B6 n λ_ _ z=>b _ _ z) f) B.next)
  .intro U u;show fy λh i e=>bE λc S l B=>?_;subst c
   show 14#(q D W S u A l ?_)
   rwa [<-C]
def jX(p:Nat)(N:RM.Net)(L:Nat->Int)(m u:Nat)(D:Addr)(F:RM.OW)(Q H:Hp):Prop:=∃W:214#0,W.length=p/\H D=4#(W.map V.ref)/\
 (∀(i:Nat) b,W[i]?=some b->∃g f,H b=4#([g,f])/\wV H (F i false) g/\wV H (F i true) f)/\(∀x s,RM.tI N L m u x s ((F x s).map (·.1)))/\(∀x s d,F x s=some d->RM.Wz N L m u x s d.1 d.2)/\∀b∈W,Q b=none
def Qy(a b:Bool):Builtin.bitXor 18#a.toNat 18#b.toNat=18#(a^^b).toNat:=by
 cases a<;>cases b<;>decide
def xW(t:Addr)(e:Pos):Sp:=λa H Q _=>∃w p J,∃g:aC p J,∃(m u:Nat),a=[.ref w,.int m,.int u]/\79#0/\m<53#0/\u<p/\H t=62#(dU (gB "least_ways") e)/\
 ∀D F Y,225#(jX p g.N (bW J) m u D F H Y->Q (.ref D) Y)
def Br:ZL T T.lG 5 (xW a.aR aN):=by
 show T.lG.ok λA _ s H b Q E X C h=>?_
 .revert h;show fy λwb p J=>fy λg m u=>eV λc o b w n q=>?_;subst c
  show ae _ (ah 187#(39#r7)
   (ah (fL (i:=4) X.nd rfl rfl (own:=["point"]) (js:=[]) (c9 X) rfl (96#191#0) 6#(88#(["point"])) 44#0 6#(bJ (bM c7 c7)))
   (ah (gU (i:=5) X.nd rl (Or.inr rl) (Nn (by show qe C) (bV (bM cA av)) (bV (bM av av))))
   (ah (p9 PassesOwn.never (aF j3 (cS Yb (by rfl) T.cV adL (bH nT)) av (aG _)) (ah (bQ 6 X.nd (Qe (fq:=["waiting"]) (js:=[5]) C (c9 X) rfl (by rfl) T.IP rfl T.lG.F.hd (bH nT) (λ_ _ _ _ C=>(Ik (by show qe C) bx aT (λ_ _=>rfl)))))
   (ah (bQ 7 X.nd (Nm (by show qe C) nT Gi ⟨rfl,rfl,rfl,rfl⟩))
   (ah (uF IL (Aj (b8 (iP K) h8 (dS K Gi)) (dS K Gi) set_list))
   (aj (dw PassesOwn.never rl (lY K (b8 (iP K) e9 (dS K Gi))) (xx K rl (aL (br 8 X.nd) (aL (br 9 X.nd) (aL (br 10 X.nd) cR))))
   (ah (bQ 11 X.nd (aP h9 (dS K Gi) (pv 10)))
   (ah (bQ 12 X.nd (bV (bM (aP gg (dS K IL) (dS K (b8 (B0 K) 191#0 W2))) (aP h9 (dS K IL) (aP je av W2)))))
   (aj (bD (PW.pt (kR (aF iL (b8 (iP K) (b8 (iP K) h8 (pv 9)) (pv 11)) c7 (aG _)) (iU (aF (Tp C.E1) (pv 12) (MH (by show qe C) nT (bV (bM (pv 9) (pv 11))) (pv 12) ⟨rfl,rfl,rfl,rfl⟩) (aG _))))) (aj (AR (by show qe C) nT (bV (bM (pv 9) (pv 11))) (pv 12) rl)) aO))))))))))
   (aj (ay h8)))))) ?_
  show xQ ?_;intro c Qu f i j k l r t v d e;show 165#(λc d Z R h3=>?_)
  have c:=h3.length;have c:=g.p2;have c:=g.len;show(0#(eE wb p J (bC g m rl o b λDs c S N d f1 k1=>?_)))
  have A:=f1.same;show 14#(cL 91#(A _ _ Z) gj 28#(43#(λD b=>eN (CW N D) (.start b) (λi M G _ z=>z.len) (87#(by lia)) ?_ ?_)))
  .rintro i M G I c;show bF rl (dl rl) λl P=>c.next P
  intro M G;show aA λv r t c=>?_;subst r
  show λo k=>(ai rl 17#(λb e=>⟨dl rfl,λd f=>?_⟩))
  have l:ak (η G o (.dT [])) (η (η G o (.dT [])) b (.tup [.int u,.int 0])):=ak.new e;have e:ak (η (η G o (.dT [])) b (.tup [.int u,.int 0])) (η (η (η G o (.dT [])) b (.tup [.int u,.int 0])) d (.tup [.int 0,.int 0])):=ak.new f;have j:=((c.go (ak.new k)).go l).go e;have f:=e _ _ (l _ _ (aa));have l:=e _ _ (aa);have e:(η (η (η G o (.dT [])) b (.tup [.int u,.int 0])) d (.tup [.int 0,.int 0])) d=15#([.int 0,.int 0]):=aa;generalize η (η (η G o (.dT [])) b (.tup [.int u,.int 0])) d (.tup [.int 0,.int 0])=r at j f l e;show bC b (ky u false) rl l f ?_;have b:=vJ.start j w f (c.same.free k) e;have Yr:=A _ _ n;have hL:=kq g;show⟨λn U l=>∃f j H M C E G,U=[30#wb,some (.int m),some (.int u),30#Ds,some (.ref D),some (.ref o),f,j,H,M,C,E,G]/\∃k F W,vJ p N D o v k F W l/\RM.Dj g.N (bW J) m u F W none (51#0)/\n=RM.left F p,⟨_,(pA none none none none none none none (cD rl _ (aq _ _ b RM.Dj.start rl)))⟩,?_⟩
  intro n U l;show gb λf j H M=>cQ λC E G b=>eu λk F W r w c=>?_;subst b c
  show 14#(aq o k rl (.inl r.dt) (aq _ _ rl rl 28#(pD (λd=>?_) (λd=>?_))))
  case refine_2 =>
   have P : ¬ 0<(k.length:Int):=λz=>d (e8 z)
   have e:k=[]:=adG (by lia)
   subst e;have c:∀x s,W x s=none:=λx s=>by
    rcases r.val x s with⟨z,_⟩|⟨_,_,_,z,_⟩
    .show z
    .rw[vg]at z;cases z
   show 14#(q D F l (A.free r.Dn) (A.trans r.same) (ae v t (dD r.lst r.at_ (w.best c) w.fw λb O=>A.free (r.fr b O))))
  have d:=nB d;show⟨λn Y=>∃f j H M C E G,n=[30#wb,54#(m:Int),54#(u:Int),30#Ds,some (.ref D),some (.ref o),f,j,H,M,C,E,G]/\∃l c d,vJ p N D o v l c d Y/\RM.Dj g.N (bW J) m u c d none (51#0)/\RM.left c p<RM.left F p,λn Y=>gb λy B I L=>cQ λq s t e=>eu λl c d Q X b3=>ae _ b3 (pA y B I L q s t (cD e l (aq c d Q X rl))),?_⟩
  show 14#(bZ o k (Nu W k) rl (dD r.dt (by lia) (r.same _ _ Yr) (λy I Q l i c b j O=>?_) λi c b I j hmin X O=>?_))
  .show eY (λx t d c B i=>iI λn s _ L q=>?_) (r.entry j)
   have f:=bL L r.dt 12#0
   show(0#(bf o (.ref c) rl (aX (.inr (aV k (ky x t) b (.inr ⟨y,l⟩) rl (by rw[<-i];show O) s.symm)) (ak.refl _) c rl ?_)))
   rw[q];show aZ.of (Q c _ L f 148#0 148#0)
  show eY (λx t d c B i=>iI λn s _ L q=>?_) (r.entry j)
  rw[i]at O;have hmn:∀y Q l,W y Q=some l->d.1<=l.1:=λy Q l i=>by
   show aD (λj f Y _ ej=>?_) (r.find i)
   have:=hmin j (iJ.mp Y).1;rw[ej,q]at this;show A2 this
  have i:=r.go X;have hc5:=X _ _ L;have hF:=w.dj x t d n;show 14#(au o rl (.inr ⟨k,.inl i.dt⟩) 28#(bu k (ky x t) b (.ref c) i.dt rl O s ?_));show bO (λs X r1 L er' q f r=>?_) (i.row (i:=x) (by lia))
  have r:=bL O i.dt 12#0
  have rw_:=bL q i.dt 12#0
  have f:η I o (.dT (cG k (ky x t))) b=15#([.int (x:Int),129#t.toNat]):=by rw[ao r];show O
  have r:η I o (.dT (cG k (ky x t))) D=4#(v.map V.ref):=by rw[ao (e! i.wD)];show i.lst
  have hr6:η I o (.dT (cG k (ky x t))) s=4#([X,r1]):=150#rw_
  show(0#14#(cL (aZ.of f) gj (fO (aI.of r) (aH L) 28#(cL (aZ.of f) g5 (bu s _ _ t.toNat rl rl hr6 (nF (n:=2) (by cases t<;>decide)) ?_)))))
  have r:=i.take n hc5 er' q;have f:=w.pop n hmn;have w:RM.left (RM.n7 F x t d) p<RM.left F p:=RM.C7 hF B;have n:cK I (η (η I o (.dT (cG k (ky x t)))) s 69#(([X,r1]:List V).set t.toNat (.ref c))):=λz ys e=>by
   rw[ao (bL e q 12#0),ao (bL e i.dt 12#0)]
   show e
  have L:=n _ _ O;have O:=n _ _ hc5;generalize η (η I o (.dT (cG k (ky x t)))) s 69#(([X,r1]:List V).set t.toNat (.ref c))=H7 at r L O;generalize RM.F8 W x t=i at r f;have X:RM.n7 F x t d x t=some d:=RM.fm _ _ _ _;generalize RM.n7 F x t d=s at r f w X;show aY (λk I i n B Ys=>?_) (f1.get (i:=x) (by lia))
  show(0#(cL (aZ.of L) gj (fO 42#(r.same _ _ f1.lst) (aH i) (au k rl 24#(r.same _ _ B) ?_))));show iq (λj U F=>∃H M C E G,U=[30#wb,54#(m:Int),54#(u:Int),30#Ds,some (.ref D),some (.ref o),162#0,some (.ref c),H,M,C,E,G]/\cK H7 F/\∃n q,vJ p N D o v n s q F/\RM.Dj g.N (bW J) m u s q (some (x,t)) (λk y=>∃i,i<j/\(S x)[i]?=some (k,y)))
   (gR _ _ (bZ _ _ _ rl (aS ((ak.refl _).tups) _ _ r ?_))) (by intro j U F _;show dO λ_ _ _ _ _ _ _=>bh λ_ _ z _=>?_;show aI.of (z.same _ _ B)) ?_ ?_
  .show⟨f.fw,f.ww,f.dj,f.le,f.mx,λv Q l k y P e2 e3 e4=>f.cl v Q l k y P e2 e3 λz=>?_,f.st⟩
   show af (λi h0 _=>?_) (e4 z)
   show absurd h0 (E? _)
  .intro j y D3' U F Y;show dO λH M C E G f W6=>bh λn q B N=>?_;subst f
   obtain⟨f,r,rfl⟩:∃f,I[j]?=some f/\y = .ref f:=by
    rw[d!]at Y;show af (λf Z R=>?_) (nC.mp Y)
    show ae f Z R.symm
   have I:j<(S x).length:=by rw[<-Ys.length];show(iJ.mp r).1
   have W:=z! I;have Y:=L2.i9 Ys r W;generalize I:(S x)[j]=r at W Y;obtain⟨k,y⟩:=r;have hmem:=(k1.mem x (k,y)).mp (fP W);obtain⟨r,I⟩:=hmem;have r:=r;have I:=I;have hy:y<p:=I.lt r;have p:=B.same _ _ Y;have p:=p;show bC f _ rl (aZ.of p) rl (gR _ _ 103#209#rl);have f:=W6 _ _ L;have p:=W6 _ _ O;show 14#(cL (aZ.of f) g5 28#(cU (?_)));dsimp only;rw[Qy];show af (λO f L=>?_) (vp (g:=g) h3 r)
   have hw8:=B.same _ _ (A _ _ Z);have Y:=B.same _ _ (A _ _ R);have O:=B.same _ _ (A _ _ L);show 14#(cL (aZ.of p) gj 28#(cL (aZ.of hw8) g5 (ai rl (cL (aZ.of Y) (aH f) (cL (aZ.of O) (aH rl) (?_))))));show(cU 14#(cL (aZ.of p) g5 28#(207#17#(λf L=>?_))))
   have p:Builtin.bitXor 18#d.2 (1*2^((k:Nat):Int).toNat)=18#(d.2^^^2^k):=by
    rw[x!,Int.one_mul,show((2:Int)^k)=18#(2^k) by simp]
    show xor_int _ _
   dsimp only;rw[p];show fresh (η F f _) rl L λR p A=>?_
   have hf9:R f=15#([.int (d.1+bW J k),.int 18#(d.2^^^2^k)]):=A;have O:=B.go p;have ZR:cK H7 R:=λz ys e=>p _ _ (W6 _ _ e)
   show bO (λA L Y Z p Yt hq0 hq1=>?_) (O.row (i:=y) (by lia))
   obtain⟨A,hvv,p⟩:∃A,([L,Y]:List V)[(t^^10#0).toNat]?=some A/\wV R (s y (t^^10#0)) A:=by
    cases(t^^10#0) with
    | false=>show ae L rfl hq0
    | true=>show ae Y rfl hq1
   have Y:=hL k r;show(0#(fO (aI.of O.lst) (aH Z) 14#(fO (aI.of Yt) (aH hvv) (?_))));show 3#(?_);have dn:∀{IS:Nat->Nat->Prop} {Z:RM.OW},RM.Dj g.N (bW J) m u s Z (some (x,t)) (λA L=>(∃i,i<j/\(S x)[i]?=some (A,L))\/(A=k/\L=y))->
    RM.Dj g.N (bW J) m u s Z (some (x,t)) (λA L=>∃i,i<j+1/\(S x)[i]?=some (A,L)):=λ{IS Z} h =>
    ⟨h.fw,h.ww,h.dj,h.le,h.mx,λv Q l A L P e2 e3 e4=>h.cl v Q l A L P e2 e3 λz=>by
     show af (λi h0 g=>?_) (e4 z)
     by_cases ej:i=j
     .subst ej;rw[W]at g;cases g;show .inr 196#0
     .show .inl (ae i (by lia) g),h.st⟩
   cases j:s y (t^^10#0) with
   | some Q =>
     rw[j]at p
     revert p;show af λL v S=>?_;subst v
     show gO 121#0 ?_
     show gR _ _ (bZ _ _ _ rl (aS ZR n q O (dn (IS:=51#0) (N.skip X Y (.inl j)))))
   | none =>
     rw[j]at p;have p:=p;subst p;show uP rl ?_;show(0#(au o rl (.inr ⟨n,.inl O.dt⟩) 14#(ai rl 17#(λA p=>?_))))
     show fresh (η R A _) rl p λg v h=>?_
     have R:g A=15#((ky y (t^^10#0)).map kV):=h;have h:=O.go v;have p:=v _ _ hf9;have O:cK H7 g:=λz ys e=>v _ _ (ZR _ _ e)
     show 14#(ae (eU n (ky y (t^^10#0))) (.inr (aV n (ky y (t^^10#0)) A (.inl h.dt) rl R rl)) ?_);have v:=h.len;have A:(∀l,q y (t^^10#0)=some l->d.1+bW J k<=l.1)->Qu D3' [30#wb,54#(m:Int),54#(u:Int),30#Ds,some (.ref D),some (.ref o),162#0,some (.ref c),54#(k:Int),54#(y:Int),54#((10#0).toNat:Int),54#((t^^10#0).toNat:Int),some (.ref f)] g:=λR=>by
      show(0#14#(ai rl 17#(λb c=>?_)))
      have v:ak g (η g b (.tup [.int (y:Int),129#(t^^10#0).toNat])):=ak.new c;have c:η g b (.tup [.int (y:Int),129#(t^^10#0).toNat]) b=15#((ky y (t^^10#0)).map kV):=aa;have P:=h.go v;have b:=v _ _ p;show aq o _ rl (AO.t P.dt c (eA (by lia))) ?_
      have c:=P.wait (s:=(t^^10#0)) (d:=(d.1+bW J k,d.2^^^2^k)) hy b;show gR _ _ (bZ _ _ _ rl (aS (λz ys e=>?_) _ _ c (dn (IS:=51#0) (N.put X r Y I j R))))
      have b:=v _ _ (O _ _ e);rw[ao (bL b P.dt 12#0)]
      show b
     rcases h.val y (t^^10#0) with⟨c,g⟩|⟨Q,L,b,j,S⟩
     .rw[g];show eE f f _ (aV _ _ _ rl rl (aZ.of p) (bR (aZ.of p) _ rl (pD (λ_=>A λl e=>by rw[c]at e;cases e) λz=>absurd ((HT.AZ _ _ _ _).mpr (.inr 34#(r? _))) z)))
     .rw[j];show eE f L _ (aV _ _ _ rl rl (aZ.of p) (bR (aZ.of S) _ rl (pD (λP=>?_) (λP=>?_))))
      .have P:=(HT.AZ _ _ _ _).mp P;show A λl e=>?_
       rw[b]at e;cases e
       lia
      .have P:=λz=>P ((HT.AZ _ _ _ _).mpr z)
       show gR _ _ (bZ _ _ _ rl (aS O n q h (dn (IS:=51#0) (N.skip X Y (.inr ⟨b,?_⟩)))))
       have v : ¬ d.1+bW J k<Q.1:=λz=>P (.inl z)
       lia
  .intro U F;show dO λH M C E G P W6=>bh λn q B N=>?_;subst P
   show pA _ _ _ _ _ _ _ (cD rl n (aq s q B (N.all λk y r I=>?_) w))
   have f:=(k1.mem x (k,y)).mpr ⟨r,I⟩;obtain⟨i,v⟩:=g? f;have b:=(iJ.mp v).1;show ae i (by rw[χ,Ys.length];show b) v
def KN:Sp:=λF H Q _=>∃v o,F=[v]/\wV H o v/\Q (oV (o.map (·.1))) H
abbrev xX(F:RM.OW):Nat->Bool->218#0:=λx s=>(F x s).map (·.1)
def DO:Sp:=λa H Q _=>∃(D:Addr) (W:214#0) (F:RM.OW),a=[.ref D]/\H D=4#(W.map V.ref)/\W.length<=900/\(∀(i:Nat) b,W[i]?=some b->∃g f,H b=4#([g,f])/\wV H (F i false) g/\wV H (F i true) f)/\
 ∀b v Y,ak H Y->Y b=some (.tup v)->Paired (ik Y) v (kr (xX F) W.length)->Q (.ref b) Y
def lV:Ok T T.lO 1 KN:=by
 show 1#T.lO.ok
 .revert h;show aD λv o f a q=>?_;subst f
  show 56#(ay (iA (aF iL aT c7 (aG _)) c7 191#0));cases o with
  | none =>
    have a:=a;subst a;show(ai rl 3#(uP rl q))
  | some d =>
    revert a;show af λc r L=>?_;subst r
    show(ai rl 3#(gO 121#0 14#(cL (aZ.of L) gj (q))))
def r8:Ok T T.kF 2 DO:=by
 show T.kF.ok λ_ A _ s H p Q E X C h=>?_
 .revert h;show bO λD W F o S P c q=>?_;subst o
  show 56#(ay (bU (uQ K) (by rfl) T.lH e_ (bH (bI (own:=["even","odd"]) (js:=[]) (c9 X) rfl (lY K aT) 6#(Ye K rfl (aL (88#(["even","odd"])) (aL (br 1 (fR ["even","odd"])) cR))) 44#0 6#(bV (bM (71#lV) (aB (lV T) C (bH bx))))))))
  show 14#(au D rl 24#S (λL U=>bA (λi M G=>ak H G/\G L=220#0/\Paired (ik G) M (kr (xX F) i)) (bF (ak.new U) aa .nil) (λi M G _ z=>bF 42#(z.1 _ _ S) z.2.1 (by rw[z.2.2.length,AY];show Ξ _)) (87#(by rw[χ];lia)) ?_ ?_))
  .intro i x M G B;show cW λw j I=>?_
   obtain⟨b,O,rfl⟩:∃b,W[i]?=some b/\x = .ref b:=by
    rw[d!]at B;show af (λb Z R=>?_) (nC.mp B)
    show ae b Z R.symm
   show aD (λg f a r u=>?_) (c i b O)
   show bZ b g f rl (aS 42#(w _ _ a) _ _ rl (bC _ _ rl rl rl 14#(gR g _ (aX rl (r.tups w.tups) _ rl (bC f _ rl (u.tups w.tups) (dl rl) λt n=>?_)))))
   have m:ak G (η G t (.tup [oV (xX F i false),oV (xX F i true)])):=ak.new n;have l:t≠L:=λz=>by rw[z,j]at n;cases n
   have d:=U;show e7 (m _ _ j) ((w.trans m).put d) aa ?_;rw[M6];have k:∀z I,ik G z I->ik (η (η G t (.tup [oV (xX F i false),oV (xX F i true)])) L 69#(M++[.ref t])) z I:=λz I=>af λb e O=>ae b e (by rw[ao (bL O j 12#0)];show m _ _ O)
   show Paired.snoc (151#(λ_ _ z=>k _ _ z)) (ae t rl (by rw[ao l,aa]))
  .intro M G;show cW λw j I=>?_
   rw[χ]at I;show bf L _ rl (.inl ⟨aI.of j,λl P=>?_⟩)
   show q l M _ (w.trans (ak.new P)) aa (151#(by intro _ _;show af λb e O=>?_;show ae b e (ak.new P _ _ O)))
def jX.same(h:jX p N L m u D F Q H)(s:ak H Y):jX p N L m u D F Q Y:=by
 revert h;show eg λW=>eV λt U R l y d=>?_
 show ae W t (dD (s _ _ U) (λi b O=>let⟨v0,v1,q1,q2,q3⟩:=R i b O;(aq v0 v1 (s _ _ q1) (q2.tups s.tups) (q3.tups s.tups))) l y d)
def jX.put(h:jX p N L m u D F Q H)(S:Q D=none)(I:H X=4#xs)(c:∃o,Q X=some o):jX p N L m u D F Q (η H X (.lst v)):=by
 revert h;show eg λW=>eV λt U a l y d=>?_
 obtain⟨o,Y⟩:=c;have G:∀b,Q b=none->b≠X:=λb O z=>by rw[z,Y]at O;cases O
 have k:cK H (η H X (.lst v)):=cK.put I;show ae W t (dD (by rw[ao (G D S)];show U) (λi b O=>?_) l y d)
 show aD (λg f n R C=>?_) (a i b O)
 show aq g f (by rw[ao (G b (d b (fP O)))];show n) (R.tups k) (C.tups k)
def IT(p:Nat)(N:RM.Net)(L:Nat->Int)(m i:Nat)(y:214#0)(c:Nat->RM.OW)(H:Hp):Prop:=y.length=i/\∀(j:Nat) d,y[j]?=some d->∃Q,jX p N L m j d (c j) Q H
def DQ(t:Addr)(e:Pos):Sp:=λF H Q _=>∃w p J,∃g:aC p J,∃m:Nat,125#m/\79#0/\m<53#0/\H t=62#(dU (gB "least_ways") e)/\
 ∀D y c Y,225#(Y D=4#(y.map V.ref)->IT p g.N (bW J) m p y c Y->Q (.ref D) Y)
def kM:Ok T T.kG 6 (DQ a.aR aN):=by
 show T.kG.ok λ_ A _ s H b Q E X C h=>?_
 .revert h;show fy λv p J=>gF λg m=>iI λc W b s q=>?_;subst c
  show 56#(ay (bI (own:=["start"]) (js:=[0,1]) (c9 X) rfl (96#191#0) 6#(88#(["start","web","marks"])) 44#0 6#(aB (Br T) C (bq bx (bM cA aT)))))
  show aD (λc f Z R d=>?_) (id W.ex)
  have c:=g.p2;show 28#(cL (aZ.of Z) gj 14#(43#(λD S=>eN (λi M G=>ak H G/\11#G/\∃y c,M=y.map V.ref/\y.length=i/\∀(j:Nat) d,y[j]?=some d->∃n,jX p g.N (bW J) m j d (c j) n G/\n d=none/\∃o,n D=some o) ⟨ak.new S,(cD aa [] (au (λ_ _ _=>none) rl rl λj d e=>by cases e))⟩ (by intro i M G _;show cW λ_ z=>aD λy _ e l _=>?_;show⟨z,by rw[e,χ];lia⟩) (87#(by lia)) ?_ ?_)))
  .intro i M G I;show cW λw k=>aD λy c r P all=>?_;subst r
   rw[x!]at I;rw[C?];show 34#0#14#(168#(bZ g m i rl (dD (W.same w) b I (w _ _ s) λd F u U O Y=>?_)))
   have B:=O _ _ k;show e7 B ((w.trans O).put S) aa (aq (y++[d]) (λj=>if j=i then F else c j) 22#0 (by simp[P]) λj N e=>?_)
   by_cases x:j<y.length
   .rw[d? x]at e;show aA (λn L t b=>?_) (all j N e)
    dsimp only;rw[ξ (95#(¬ j=i))]
    show au n ((L.same O).put t B b) t b
   .rw[u? (by lia)]at e
    have b:j=i:=by
     have:=(iJ.mp e).1;simp at this
     lia
    subst b;rw[P,L_]at e;have e:d=N:=by simpa using e
    subst e;dsimp only;rw[ο rfl];show ae G (Y.put U B ⟨_,k⟩) (cD U _ k)
  .intro M G;show cW λw k=>aD λy c t P all=>?_;subst t
   rw[x!]at P;show q D y c G S w k ⟨P,λj d e=>let⟨n,L,_⟩:=all j d e;⟨n,L⟩⟩
def Bs:Sp:=λF H Q _=>∃D y c,∃p N L m,F=[.ref D]/\H D=4#(y.map V.ref)/\p<=900/\IT p N L m p y c H/\
 ∀b Y,ak H Y->gq Y b ((19#p).map λi=>kr (xX (c i)) p)->Q (.ref b) Y
def lW:Ok T T.lP 3 Bs:=by
 show T.lP.ok λ_ A _ s H F Q E j C h=>?_
 .revert h;show gb λD y c p=>bO λN L m f S o r q=>?_;subst f;obtain⟨P,all⟩:=r
  show 56#(ay (bU (uQ K) (by rfl) T.lH e_ (bH (bI (own:=["from_point"]) (js:=[]) (c9 j) rfl (lY K aT) 6#(88#(["from_point"])) 44#0 6#(71#r8)))))
  show 14#(au D rl 24#S (λX g=>bA (λi M G=>ak H G/\G X=220#0/\Paired (RowW G) M ((19#i).map λi=>kr (xX (c i)) p)) (bF (ak.new g) aa .nil) (λi M G _ z=>bF 42#(z.1 _ _ S) z.2.1 (by rw[z.2.2.length,χ,C!];show Ξ _)) (87#(by rw[χ];lia)) ?_ ?_))
  .intro i x M G B;show cW λw n I=>?_
   obtain⟨d,J,rfl⟩:∃d,y[i]?=some d/\x = .ref d:=by
    rw[d!]at B;show af (λb Z R=>?_) (nC.mp B)
    show ae b Z R.symm
   obtain⟨k,Y⟩:=all i d J;show gE (λW t U R _=>?_) (Y.same w)
   show 3#(cg d W (c i) rl U (by lia) R (λb v u e O Z=>?_))
   have a:=e _ _ n;show e7 a ((w.trans e).put g) aa ?_;rw[B?,j!,t]at *;show Paired.snoc (151#77#(e.tups.trans (cK.put a))) (RowW.tups (cK.put a) (aq b v rl O Z))
  .intro M G;show cW λw n I=>?_
   rw[χ,P]at I;show bf X _ rl (.inl ⟨aI.of n,λl P=>?_⟩)
   show q l _ (w.trans (ak.new P)) (ae M aa (151#(λ_ _ z=>z.same (ak.new P))))
def Qz:Sp:=84#(∃x y l,F=[oV x,oV y,.int l]/\Q (.bl (vo x y l)) H)
def xY:Sp:=84#(∃b c t u v R,F=[.ref b,129#u.toNat,.ref c]/\H b=15#(jU t)/\H c=some (.tup v)/\Paired (ik H) v R/\0<=t.1/\t.1<(R.length:Int)/\0<=t.2.1/\t.2.1<(R.length:Int)/\Q (.bl (JQ R t u)) H)
def tO:Sp:=84#(∃(w b:Addr) (p:Nat) (J:List fN) (W:127#Pr) (m:Nat),F=[.ref w,.int m,.ref b]/\79#0/\Ml p J/\gq H b W/\OO p W/\m<53#0/\FL p J m W/\50#(.bl true))
def QA(a):R9 (oV a) (V.int 0)=true:=by cases a<;>rfl
def N9{x y:V}{A B:Prop}(h:x≠y)(E:A):if(! decide (x=y))=true then A else B:=by
 rw[gm h];show eI E
def oZ:Ok T T.oG 1 Qz:=by
 show 1#T.oG.ok
 .revert h;show cQ λx y l f q=>?_;subst f
  show ae _ (ah (bD (PW.pt (hU (aF iL aT c7 (aG _)) (gf (aF iL bx c7 (aG _))))) (aj (ay (jP (cN iL aT c7 (aG _)) (iK (cN iL bx c7 (aG _)))))) aO)
   (aj (ay (cN HA (cS LH (by rfl) T.V4 PyProof.Rows.boot_abs (bH (aP kU aT bx))) cA (aG _))))) ?_
  show di ?_;intro Y a;cases x with
  | none =>
    show(ai rl 3#(uP rl (ai rl 34#(ai rl (uP rl (ai rl ⟨rfl,?_⟩))))));cases y with
    | none=>show q
    | some y=>show q
  | some x =>
    cases y with
    | none=>show(ai rfl 34#(ai rfl (gO 121#0 (ai rfl ⟨rfl,ai rfl (uP rfl (ai rfl ⟨rfl,ai rfl (gO 121#0 q)⟩))⟩))))
    | some y=>show(ai rfl 34#(ai rfl (gO 121#0 (ai rfl ⟨rfl,ai rfl (gO 121#0 (ai rfl (ai rfl (cU (ai rfl (ai rfl (cU (q))))))))⟩))))
def Bt:Ok T T.qP 2 xY:=by
 show 1#T.qP.ok
 .revert h;show gb λb c t u=>aY λv R r O L=>eV λI D S P o q=>?_;subst r
  show ae _ (ah 187#(b8 (B0 K) cA 191#0)
   (ah (bQ 4 X.nd (b8 (B0 K) cA 191#0))
   (aj (ay (jP (aB (oZ T) C (bq (dS K e9) (bM (b8 (B0 K) h8 bx) 191#0))) (iK (aB (oZ T) C (bq (dS K e9) (bM (b8 (B0 K) h8 (aP kU av bx)) 191#0))))))))) ?_
  show g7 ?_;intro Y a;show af (λM f Z=>?_) (RowW.at I (i:=t.1.toNat) (by lia))
  show af (λp U d=>?_) (RowW.at I (i:=t.2.1.toNat) (by lia))
  have n:sC v t.1=some (.ref M):=by
   have:=aH f
   rwa [z_ D]at this
  have l:sC v t.2.1=some (.ref p):=by
   have:=aH U
   rwa [z_ P]at this
  have B:1-(u.toNat:Int)=((! u).toNat:Int):=by cases u<;>rfl
  show(0#(cL (aZ.of O) gj (cL (aZ.of L) (n) (?_))));show(0#(cL (aZ.of O) g5 (cL (aZ.of L) (l) (?_))));show 14#(cL (aZ.of Z) gj (0#(cL (aZ.of d) (aH (ML _ u)) 28#(cL (aZ.of O) (aH rl) (eE _ _ _ (bR rl _ rl ?_))))));unfold JQ at q;cases e:vo (jw R t.1.toNat).1 (sel (jw R t.2.1.toNat) u) t.2.2 with
  | false =>
    rw[e]at q;show cy q
  | true =>
    rw[e]at q;show eI 14#(222#(0#(cU (cL (aZ.of d) (?_) 28#(cL (aZ.of O) (aH rl) (bZ _ _ _ rl q))))));rw[B];show aH (ML _ (! u))
def wH:Ok T T.m5 4 tO:=by
 show 1#T.m5.ok
 .revert h;show eg λc=>dO λb p J W m a o=>eV λs e M d st q=>?_;subst a
  show ae _ (ah (bX (39#iG))
   (ah (dw PassesOwn.never rl (96#191#0) (br 3 X.nd)
   (ah 66#(aF lM (dS K (b8 (B0 K) (b8 (B0 K) cA e9) e9)) av (aG _))
   (aj (dw PassesOwn.never rl (ve K (by rfl) T.fc (bH 191#0)) (xx K rl (aL (br 4 X.nd) (aL (br 5 X.nd) cR)))
   (aj 66#(ff (cY (aB (Bt T) C (bq nT (bM (iA (cY (aB (jc T) C (bM bx h8))) av av) (b8 (B0 K) cA e9)))))))))))
   (aj (ay fK)))) ?_
  show tK ?_;intro f a L N g h i;show 165#(λh f Z R r=>?_)
  show af (λa S j=>?_) (id e)
  have a:=s.XY;show(0#(gR c p (aq J _ rl o (cD s m (aX rl d _ rl (cL (aZ.of Z) gj 14#(bF (by lia) (by lia) ?_)))))))
  show i4 (λi U G=>∃g a d,U=[some (.ref c),some (.int m),162#0,g,a,d]/\ak H G) (bZ none none none rl (ak.refl _)) ?_ (by intro U G;show cQ λg a d e w=>?_;show by rw[e];show q _ w)
  intro i U G I;show cQ λg a d f w=>?_;subst f
  rw[x!]at I;rw[C?];show af (λx B=>aD λo v k f g=>?_) (i9 j (by rw[M.1];show I) []);subst k
  have j:=M.row I;show af (λk j n=>?_) (RowW.at g (i:=i) (by lia))
  obtain⟨k,p⟩:=st i I;show(0#(cL 91#(w _ _ S) (aH B) 14#(cL 91#(w _ _ f) (aH j) (cL 91#(w _ _ n) gj (bR (QA _) _ rl (om (by rw[k];rfl) ?_))))))
  show 14#(cL 91#(w _ _ Z) g5 (au h rl ⟨_,aZ.of (w _ _ R)⟩ ?_));show zd (λk U u=>∃a d,U=[some (.ref c),some (.int m),162#0,some (.int i),a,d]/\ak H u) (bf a d rl w) (by intro k U u _;show bh λ_ _ _ z=>?_;show aZ.of (z _ _ R)) ?_ (by intro U u;show bh λ_ _ e h=>?_;show bZ _ _ _ e h)
  intro k x y U u Y;show bh λa d c h j=>?_;subst c
  show eg (λt=>bE λn b P d=>?_) (Paired.ia r Y);subst P
  have a:JQ (W.getD i []) t (10#0)=true:=by
   have:=p k (iJ.mp n).1;unfold dJ at this;rw[u! (l:=J),n]at this;show this
  show jM (λc e r i=>?_) (s.XX.ends t (fP n))
  have e:ak u (η u y (.tup [.int k,.ref b])):=ak.new j;have D:=h.trans e;show aq y _ rl (aZ.of aa) 103#(aq _ _ rl rl (0#14#(bf m k rl 156#0)));rw[iz];cases O:10#0 with
  | true =>
    show eI (0#(cL 91#(D _ _ S) (aH B) (eE b o t (aV true v _ rl (D _ _ d) (D _ _ f) (e7 (Paired.imp' (λ_ _ z=>z.same D) g) c (by lia) (aX r (by lia) _ rl ?_))))))
    rw[O]at a;rw[a];show cy (bf _ _ rl D)
  | false =>
    show cy (0#(cL 91#(D _ _ S) (aH B) (eE b o t (aV false v _ rl (D _ _ d) (D _ _ f) (e7 (Paired.imp' (λ_ _ z=>z.same D) g) c (by lia) (aX r (by lia) _ rl ?_))))))
    rw[O]at a;rw[a];show cy (bf _ _ rl D)
def DR(p)(ts)(g:aC p ts)(m:Nat)(Y:Hp)(t:Addr):Prop :=
 ∃z e b W,RM.qC g.N (bW ts) m z e/\Y t=15#([.str "ring",.int e,.ref b])/\gq Y b W/\W.length=p/\(∀R∈W,R.length=p)/\qz p ts g m W
def QB(p)(ts)(g:aC p ts)(m:Nat)(Y:Hp)(t:Addr):Prop :=
 ((∀x z,x<p->¬ RM.Wy g.N (bW ts) m x x true z)/\∃l,Y t=15#([.str "side",.ref l]))\/DR p ts g m Y t
def xZ(t:Addr)(e:Pos):Sp:=38#(∃(m r:Nat),125#m/\79#0/\H t=62#(dU (gB "least_ways") e)/\m<53#0/\g.N.Ring r/\r<53#0/\g.N.par r m=true/\∀t Y,H t=none->ak H Y->DR p J g m Y t->Q (.ref t) Y)
def Bu(t:Addr)(e:Pos):Sp:=38#(∃S,125#S/\79#0/\H t=62#(dU (gB "least_ways") e)/\oY J S λm=>∀r Y,H r=none->ak H Y->QB p J g m Y r->Q (.ref r) Y)
def wI(H:Hp)(v:V)(d:Int×Nat):Prop:=∃c,v = .ref c/\H c=15#([.int d.1,129#d.2])
def wI.tups(h:wI H v d)(s:cK H Y):wI Y v d:=let⟨c,e,q⟩:=h;(ae c e (s _ _ q))
def pU(d:Int×Nat):PyData:=.tuple [.int d.1,129#d.2]
theorem DS{K}:∀{ys} {R},Paired (wI H) ys R->DatVs K H ys (R.map pU)
 | _,_,.nil=>.nil
 | _,_,.cons h r=>by
   revert h;show af λb f O=>?_;subst f
   show .cons (.tup (aZ.of O) (.cons (.int _) 117#(.int _))) (DS r)
def Oa:∀l:List (Int×Nat),PyData.eqv (.list (l.map pU)) (.list [])=decide (l=[])
 | []=>rfl
 | _::_=>rfl
theorem DU:∀R:List (Int×Nat),PyData.canLayAll0 (R.map pU)=true
 | []=>rfl
 | q::r=>by
   have G:=DU r;have e:(pU q).canLay0=true:=by simp[pU,PyData.canLay0,PyData.canLayAll0]
   simp only[l!,PyData.canLayAll0,G,J_,e]
theorem zZ:∀R:List (Int×Nat),PyData.depthAll (R.map pU)<=1
 | []=>r! _
 | q::r=>by
   have G:=zZ r;change max (PyData.depth (pU q)) (PyData.depthAll (r.map pU))<=1;have e:PyData.depth (pU q)=1:=by simp[pU,PyData.depth,PyData.depthAll]
   lia
theorem z0:∀{ys} {R},Paired (wI H) ys R->∃g:214#0,ys=g.map V.ref/\Paired (λ(c:Addr) (d:Int×Nat)=>H c=15#([.int d.1,129#d.2])) g R
 | _,_,.nil=>ae [] rfl .nil
 | _,_,.cons h r=>by
   revert h;show af λb a O=>?_;subst a
   show af (λg t I=>?_) (z0 r);subst t
   show ae (b::g) rl (.cons O I)
def DV(R:List (Int×Nat)):141#(.list (R.map pU)):=by
 unfold SeqAt.shaped;have e:(PyData.list (R.map pU)).canLay0=PyData.canLayAll0 (R.map pU):=by simp[PyData.canLay0]
 rw[e,DU,V?];show e8 ?_;have h:=zZ R;have U:PyData.depth (PyData.list (R.map pU))=PyData.depthAll (R.map pU)+1:=by simp[PyData.depth]
 rw[U]
 lia
def A2{a b:Int×Nat}(h:HT.lexLt [a.1,(a.2:Int)] [b.1,(b.2:Int)]=false):b.1<=a.1:=by
 rw[HT.fg]at h
 by_cases e:a.1=b.1
 .lia
 .rw[ξ e]at h;have:=of_decide_eq_false h
  lia
def nj:Ok T T.m4 7 (Bu a.aR aN):=by
 show T.m4.ok λ_ A _ s H F Q E b C h=>?_
 .revert h;show fy λv p J=>aY λg S d o c q=>?_;subst d
  show ae _ (ah (bX (39#iG))
   (ah (gU (i:=2) b.nd rl (Or.inr rl) (39#kM))
   (ah (fL (i:=3) b.nd rfl rfl (own:=["point"]) (js:=[2]) (c9 b) rfl (96#191#0) 6#(88#(["point","ways"])) 6#(gx (aF t8 (sN K (b8 (iP K) 192#aT aT)) c7 (aG _))) 6#(sN K (b8 (iP K) 192#aT aT)))
   (ah (bD (aF (rD K C.units) e9 (bJ dY) (aG _)) (aj (ay (39#zY))) aO)
   (aj (ay (bV (bq bg (bM (dS K (cS (Yg C.hd C.in1.E1) (by rfl) T.IP adw (bH e9))) (aB (lW T) C (bH cA))))))))))) ?_
  show A9 ?_;intro b d e f i;show 165#(λb f Z h2 d=>?_)
  have b:=g.p2;have W:=g.pZ
  revert q;show aA λm b hm q=>?_;subst b
  show(0#⟨v,(aV p J _ rl o W (au m rl hm ?_))⟩);show(0#(168#(cI g m rl o hm c λD y f N d S W b=>?_)))
  obtain⟨P,all⟩:=id b;have TV:∀i,i<p->∃d C,y[i]?=some d/\jX p g.N (bW J) m i d (f i) C N:=λi I=>by
   have e:y[i]?=some y[i]:=z! (by lia)
   obtain⟨C,u⟩:=all i _ e;show bf _ C e u
  show 14#(cL 91#(S _ _ Z) gj 28#(43#(λX k=>eN (λi M G=>ak N G/\G X=220#0/\Paired (wI G) M ((19#i).filterMap λj=>f j j true)) (bF (ak.new k) aa .nil) (λi M G _ z=>⟨z.2.1,by rw[z.2.2.length];show b! (List.length_filterMap_le ..) 22#0⟩) (87#(by lia)) ?_ ?_)))
  .intro i M G I;show cW λw E F=>?_
   rw[x!]at I;rw[C?];show bh (λd C A=>gE λH t U B _=>?_) (TV i I)
   have b:H[i]?=some H[i]:=z! (by lia)
   show aD (λY c x Q u=>?_) (B i _ b)
   have n:(19#(i+1)).filterMap (λj=>f j j true)=(19#i).filterMap (λj=>f j j true)++(f i i true).toList:=by
    rw[B?,List.filterMap_append];cases r:f i i true<;>simp[r]
   rw[n];have l:(y.map V.ref)[i]?=some (.ref d):=by rw[d!,A];rfl
   have e:(H.map V.ref)[i]?=30#(H[i]):=by rw[d!,b];rfl
   show 34#0#(fO 42#(w _ _ W) (aH l) 14#(fO 42#(w _ _ U) (aH e) (fO 42#(w _ _ x) g5 3#(?_))));cases r:f i i true with
   | none =>
     rw[r]at u;have u:=u;subst u;show om rl (bF w E ?_)
     rwa [show(none:Option (Int×Nat)).toList=[] from rfl,A?]
   | some R =>
     rw[r]at u
     revert u;show af λc O L=>?_;subst O
     show N9 121#0 (0#(fO 42#(w _ _ W) (aH l) 14#(fO 42#(w _ _ U) (aH e) (fO 42#(w _ _ x) g5 (e7 E (w.put k) aa ?_)))))
     have k:cK G (η G X 69#(M++[.ref c])):=cK.put E;show Paired.snoc (Paired.imp' 77#k F) (ae c rl (k _ _ (w _ _ L)))
  .intro M G;show cW λw E F=>?_
   rw[x!]at F;generalize N:(19#p).filterMap (λj=>f j j true)=R at F
   have s12:=S.trans w;have ZS:∀k,k<g.N.n->0<bW J k:=λk Y=>by
    have:=(g.ie _ (fY Y)).l0;unfold bW
    lia
   have inR:∀j d,j<p->f j j true=some d->d∈R:=λj d M A=>by
    rw[<-N];show Y_.mpr (ae j (E!.mpr M) A)
   have ofR:∀d,d∈R->∃j,j<p/\f j j true=some d:=λd A=>by
    rw[<-N]at A;show af (λj M e=>?_) (Y_.mp A)
    show ae j (E!.mp M) e
   have S:∀i,i<p->∀x s,RM.tI g.N (bW J) m i x s ((f i x s).map (·.1)):=λi I=>by
    show bh (λd C A=>eg λH=>iI λt U B l _=>?_) (TV i I)
    show l
   show(ai rl 17#(λn l=>cI _ _ (.lst 42#(ak.new l _ _ E) (DS (Paired.imp' 77#(ak.new l).tups F))) (.lst (aI.of aa) .nil) (DV _) rl 156#0))
   rw[Oa];show fresh (η G n _) rl l λH3 b _=>?_
   have O:=s12.trans b;have U:=w.trans b;have G:=b _ _ E;have RI:=Paired.imp' (λ_ _ z=>wI.tups z b.tups) F
   clear E F
   by_cases E:R=[]
   .rw[e8 E];have F:∀x z,x<p->¬ RM.Wy g.N (bW J) m x x true z:=λx z B o=>by
     have b:=S x B x true;cases r:f x x true with
     | none=>rw[r]at b;show b z o
     | some d=>have:=inR x d B r;rw[E]at this;cases this
    show eI (0#(168#(aq g _ rl (o.same O) (au m rl hm λt w n z r=>?_))))
    show q t w (O.free n) (O.trans z) (.inl ⟨F,?_⟩);rcases r with⟨u,l,P,b,W7⟩|⟨c,L,v,_⟩
    .show⟨l,b⟩
    .obtain⟨e,l⟩:=RM.dZ.mp L;rw[RM.Ny (λk Y=>adW (ZS k Y)) F (RM.rR e l) (RM.kZ e)]at v
     cases v
   .rw[gm E];show af (λk l u=>?_) (z0 RI);subst l
    have l:=u.length;have v:0<k.length:=by
     have:=List.length_pos_iff.mpr E
     lia
    have l:∀(i:Nat) c,k[i]?=some c->∃d,R[i]?=some d/\H3 c=15#([.int d.1,.int d.2]):=λi c L=>Paired.ia u L
    show cy 14#(cg X k (λi=>[(R.getD i (0,0)).1,((R.getD i (0,0)).2)]) rl (aI.of G) v (λi c L=>?_) (λi c L Y=>?_))
    .show af (λd A h=>?_) (l i c L)
     have e:R.getD i (0,0)=d:=by rw[u!,A];rfl
     dsimp only;rw[e];show aZ.of h
    show af (λd A E=>?_) (l i c L)
    show af (λu h v=>?_) (ofR d (fP A))
    have F:∀j l,j<p->f j j true=some l->d.1<=l.1:=λj l M r=>by
     obtain⟨b,B⟩:=g? (inR j l M r);have c:b<k.length:=by
      have:=(iJ.mp B).1
      lia
     have n:=Y b c;have e:R.getD i (0,0)=d:=by rw[u!,A];rfl
     have t:R.getD b (0,0)=l:=by rw[u!,B];rfl
     dsimp only at n;rw[e,t]at n;show A2 n
    have k:∀x c,x<p->RM.Wy g.N (bW J) m x x true c->d.1<=c:=λx c B o=>by
     have b:=S x B x true;cases r:f x x true with
     | none=>rw[r]at b;show absurd o (b c)
     | some l =>
       rw[r]at b;have Z:l.1<=c:=b.2 c o;have h2:=F x l B r
       lia
    show bh (λ_ _ _=>eg λH=>eV λ_ _ _ _ c _=>?_) (TV u h)
    have l:=c u true d v;show jM (λr v A F=>?_) (RM.Ga ZS (h) l k)
    show(cL (aZ.of E) g5 14#(eE D y f (bu p g.N (bW J) m rl (U _ _ W) (by lia) ⟨P,λj d e=>let⟨C,Q⟩:=all j d e;⟨C,Q.same U⟩⟩ λb w z o=>17#(λt n=>?_))))
    have c:ak w (η w t (.tup [.str "ring",.int d.2,.ref b])):=ak.new n;show q t _ ((O.trans z).free n) ((O.trans z).trans c) (.inr (bu d.1 d.2 b _ ⟨r,v,A,F,ae u h ?_,k⟩ aa (o.same c) (by rw[χ,C!]) ⟨λR N=>?_,λi I x s B=>?_⟩))
    .obtain⟨b,Q⟩:=l;show gR b _ Q
    .show af (λi _ b=>?_) (U'.mp N);subst b
     show AY _ _
    .rw[u!,d!,W_ I];change RM.tI _ _ m i x s (sel (jw (kr (xX (f i)) p) x) s);rw[M5 B];show S i I x s
def Bv:Ok T T.m4 7 (xZ a.aR aN):=by
 show(nj T).imp λF H Q E h=>?_
 revert h;show fy λw p J=>eu λg m r e o=>eV λn d j l Z q=>?_
 show eE w p J (bC g _ e o n (au m rl d λt Y f s u=>q t Y f s (u.resolve_left λi=>?_)))
 show af (λx B c=>?_) (RM.qy (L:=bW J) (λk b=>by have:=(g.ie _ (fY b)).l0;unfold bW;lia) m j l)
 rw[Z]at c;show i.1 x _ B c
def GB:Sp:=84#(∃(l:Addr) (k:List RM.Row3) (x:Nat),F=[.ref l,.int x]/\iZ H l k/\∀c Y,ak H Y->Y c=15#([.int 18#(RM.fH k x 0).1,.int 18#(RM.fH k x 0).2])->Q (.ref c) Y)
def DW:Sp:=84#(∃l b k a,F=[.ref l,.ref b]/\iZ H l k/\H b=15#(sJ a)/\k.length<=200/\∀d Y,ak H Y->iZ Y d (RM.F1 k a)->Q (.ref d) Y)
def GC:Sp:=84#(∃l B,F=[.ref l]/\H l=4#(aE B)/\B.length<=200/\∀d k Y,ak H Y->iZ Y d k->RM.Rw B k->Q (.ref d) Y)
def GD:Sp:=38#(∃l y,F=[.ref w,.ref l]/\79#0/\H l=4#(aE y)/\RM.Base g.N y/\50#(.bl true))
def nk{p:Nat}{J:List fN}{g:aC p J}(b:RM.Base g.N y):y.length<=24:=by
 have Z:g.N.cZ.length<=29#19#g.N.n:=M! ..;rw[C!,<-b.len]at Z;show b! Z g.len
def KO:Ok T T.zL 2 GB:=by
 show 1#T.zL.ok
 .revert h;show eu λl k x j J q=>?_;subst j
  show ae _ (ah 167#bx
   (ah 187#av
   (ah (dw PassesOwn.never rl (lY K aT) (xx K rl (aL (br 4 X.nd) (aL (br 5 X.nd) (aL (br 6 X.nd) cR))))
   (aj (bD (cY (aB (jc T) C (bM cA h8))) (ah (rm (i:=2) X.nd rl (Or.inl rl) nT t6)
   (aj (rm (i:=3) X.nd rl (Or.inl rl) Gi t6))) aO)))
   (aj (ay (bV (bM cA e9))))))) ?_
  show Gk ?_;intro Y a o N u B;show af (λf P g=>?_) (id J)
  show(0#(au l rl 24#P (iq (λi U G=>∃m e d,U=[some (.ref l),some (.int x),54#(((RM.fH (k.take i) x 0).1:Nat)),54#(((RM.fH (k.take i) x 0).2:Nat)),m,e,d]/\G=H) (bZ none none none rl rl) (by intro i U G _;show cQ λ_ _ _ _ z=>?_;show by rw[z];show aI.of P) ?_ ?_)))
  .intro i y n U G I;show cQ λm e d r t=>?_;subst r t
   show eg (λv=>bE λD b R O=>?_) (Paired.ia g I);subst R
   show bC b _ rl (aZ.of O) rl (gR _ _ 103#209#rl);show(0#(bf _ v.1 rl 156#0));rw[iz];have c:=J9 (k.take i) v x 0;rw[<-take3 D]at c;cases p:(RM.fH (k.take i) x 0).1.testBit v.1 with
   | true =>
     rw[p,ο rfl]at c;show eI (0#(cU 14#(ai rl (cU (bZ (54#v.1) (54#v.2.1) (54#v.2.2) ?_ rl)))));rw[c];change[_,_,some (V.int (Builtin.bitXor _ _)),some (V.int (Builtin.bitXor _ _)),_,_,_]=_;rw[xor_int,xor_int]
   | false =>
     rw[p,ξ 7#0]at c
     show cy (bZ (54#v.1) (54#v.2.1) (54#v.2.2) ?_ rl);rw[c];rfl
  .intro U G;show cQ λm e d O b=>?_;subst O b
   rw[g.length,o!];show(0#17#(λc L=>q c _ (ak.new L) aa))
def GF:Ok T T.v9 2 DW:=by
 show 1#T.v9.ok
 .revert h;show eg λl=>bO λb d ad a c O e q=>?_;subst a
  show ae _ (ah 167#(bJ (bH bx))
   (ah (dw PassesOwn.never rl (lY K aT) (br 3 X.nd)
   (aj (bD (cY (aB (jc T) C (bM (dS K e9) (dS K bx)))) (aj (bX (qv K (eH O! V! W! cJ cA (bH (bV (bq (dS K e9) (bM (aP h9 (dS K e9) (dS K bx)) (aP h9 (dS K e9) (dS K bx)))))))))) (aj (bX (qv K (eH O! V! W! cJ cA (bH e9))))))))
   (aj (ay cA)))) ?_
  show Di ?_;intro Y a e f g;show af (λf P a=>?_) (id c)
  have R:=a.length;show(ai rl 17#(λD S=>?_))
  show fresh (η H D _) rl S λN j c=>?_
  show 14#(au l rl 24#(j _ _ P) (iq (λi U G=>∃g M,U=[some (.ref l),162#0,some (.ref D),g]/\ak H G/\11#G/\M.length=i+1/\Paired (vF G) M (RM.F1 (d.take i) ad)) (cI none _ rl j c rl 117#(ae b rl (j _ _ O))) (by intro i U G _;show aD λ_ _ _ z _=>?_;show aI.of (z _ _ P)) ?_ ?_))
  .intro i y r U G I;show gF λg M=>iI λt w k Z B=>?_;subst t
   show eg (λv=>bE λb c e L=>?_) (Paired.ia a I);subst e
   have o:=(iJ.mp I).1;have e:=w _ _ L;have a:=w _ _ O;have n:RM.F1 (d.take (i+1)) ad=RM.F1 (d.take i) ad++[if v.2.1.testBit ad.1=true then(v.1,v.2.1^^^ad.2.1,v.2.2^^^ad.2.2) else v]:=by
    unfold RM.F1;rw[take3 b,j!];rfl
   show 14#(cL (aZ.of e) g5 28#(cL (aZ.of a) gj (bf _ ad.1 rl 156#0)));rw[iz];cases p:v.2.1.testBit ad.1 with
   | true =>
     rw[p,ο rfl]at n;show eI (ai rl ⟨.inl (116#k),ai rl (cL (aZ.of e) gj 14#(cL (aZ.of e) g5 28#(cL (aZ.of a) g5 (cU (ai rl (cL (aZ.of e) (aH rl) (ai rl (cL (aZ.of a) (aH rl) (cU 17#(λd J=>?_))))))))))⟩)
     have a:ak G (η G d (.tup (sJ (v.1,v.2.1^^^ad.2.1,v.2.2^^^ad.2.2)))):=ak.new J;have x:η G d (.tup (sJ (v.1,v.2.1^^^ad.2.1,v.2.2^^^ad.2.2))) d=15#(sJ (v.1,v.2.1^^^ad.2.1,v.2.2^^^ad.2.2)):=aa;have W:[V.int v.1,V.int (Builtin.bitXor v.2.1 ad.2.1),V.int (Builtin.bitXor v.2.2 ad.2.2)]=sJ (v.1,v.2.1^^^ad.2.1,v.2.2^^^ad.2.2):=by
      rw[xor_int,xor_int];rfl
     rw[W];generalize η G d (.tup (sJ (v.1,v.2.1^^^ad.2.1,v.2.2^^^ad.2.2)))=u at a x;have m:=a _ _ k;show cg D _ _ rl rl m (jh (by lia)) (cI _ (M++[.ref d]) rl ((w.trans a).put S) aa (by rw[i!,Z];rfl) ?_)
     rw[n];show Paired.snoc (Paired.imp' 77#(a.tups.trans (cK.put m)) B) (ae d rl (cK.put m _ _ x))
   | false =>
     rw[p,ξ 7#0]at n
     show cy (ai rl ⟨.inl (116#k),ai rl (cg D _ _ rl rl k (jh (by lia)) (cI _ (M++[.ref c]) rl (w.put S) aa (by rw[i!,Z];rfl) ?_))⟩)
     rw[n];show Paired.snoc (Paired.imp' 77#(cK.put k) B) (ae c rl (cK.put k _ _ e))
  .intro U G;show gF λg M=>iI λc w k Z B=>?_;subst c
   rw[R,o!]at B;show 14#(q D G w (ae M k B))
def z5:Ok T T.zM 3 GC:=by
 show 1#T.zM.ok
 .revert h;show aY λl B e P t q=>?_;subst e
  show ae _ (ah (bQ 1 X.nd (bJ dY))
   (ah (dw PassesOwn.never rl (ua K (by rfl) T.fc (bH aT)) (xx K rl (aL (br 2 X.nd) (aL (br 3 X.nd) cR)))
   (ah (bQ 4 X.nd (aB (KO T) C (bM bx e9)))
   (aj (bD (aF j3 (dS K h8) av (aG _)) (aj (bQ 1 X.nd (aB (GF T) C (bM bx (bV (bq (aP kU (E6 PySem.F.plainAttrs_int adq ads HQ (dS K h8)) av) (bM (dS K h8) (aP h9 (dS K h8) (aP je av cA))))))))) aO))))
   (aj (ay bx)))) ?_
  show Gm ?_;intro Y a b c d;show 17#(λD S=>?_)
  show fresh (η H D _) rl S λN j a=>?_
  show 14#(au l rl 24#(j _ _ P) (uT (λi U G=>∃M k e g m,U=[some (.ref l),some (.ref M),e,g,m]/\ak H G/\iZ G M k/\RM.Rw (B.take i) k) (gR D [] (aV none none none rl j (ae [] a .nil) RM.Rw.start)) (by intro i U G _;show dO λ_ _ _ _ _ _ z _=>?_;show aI.of (z _ _ P)) ?_ ?_))
  .intro i x y U G a;show fy λM k e=>aY λg m f w n v c=>?_;subst f
   show af (λb O r=>?_) (ck a);subst r
   have a:=(iJ.mp O).1;show fresh (η G y _) rl c λu a d=>?_
   show aq y _ rl (aZ.of d) 103#209#rl;show(0#⟨M,(aq k b rl (n.same a) λc d Z L=>?_)⟩)
   have d:29#(B.take i)=i:=by rw[I!];lia
   show 14#(cL (aZ.of L) gj (cU 28#(pD (λo=>?_) (λo=>?_))))
   .have o:=nB o;have c:(RM.fH k b 0).1≠0:=by lia
    have f:=v.put c;rw[d,<-take3 O]at f;have h:=(n.same a).same Z;have p:k.length<=200:=by have:=v.le;lia
    show(0#(cL (aZ.of L) gj 3#⟨rfl,cU 14#(cL (aZ.of L) gj 28#(cL (aZ.of L) g5 (ai rl (207#17#(λd J=>?_)))))⟩))
    have W:[V.int (((63#18#(RM.fH k b 0).1:Nat))-1),V.int (((RM.fH k b 0).1:Nat)),V.int (Builtin.bitXor (((RM.fH k b 0).2:Nat)) (1*2^((i:Nat):Int).toNat))]=sJ ((RM.fH k b 0).1.log2,(RM.fH k b 0).1,(RM.fH k b 0).2^^^2^i):=by
     rw[Nd c,k6,xor_int];rfl
    rw[W];show bu M d k _ rl (h.same (ak.new J)) aa p λi I j R=>?_
    show gR i _ (aV _ _ _ rl (((w.trans (a.trans Z)).trans (ak.new J)).trans j) R f)
   .have c:(RM.fH k b 0).1=0:=by
     have : ¬(0:Int)<_:=λz=>o (e8 z)
     lia
    have d:=v.skip ((v.rV b 0).mp c);rw[<-take3 O]at d;show gR M k (aV _ _ _ rl (w.trans (a.trans Z)) ((n.same a).same Z) d)
  .intro U G;show fy λM k e=>aY λg m c w n v=>?_;subst c
   rw[az,o!]at v;show 14#(q M k G w n v)
def r9:Ok T T.zN 9 GD:=by
 show 1#T.zN.ok
 .revert h;show fy λv p J=>bO λg l y e o P W q=>?_;subst e
  show ae _ (ah 66#(PW.pt (hU (aF lM (37#bx) (71#TR) (aG _)) (gf (ff (cY (cS (JX K rfl) (by rfl) T.zT u_ (bH (bI (own:=["ring"]) (js:=[0]) (c9 X) rfl (lY K bx) 6#(88#(["ring","web"])) 44#0 6#(aB (iu T) C (bM bx aT))))))))))
   (aj (ay (cN dP (37#(aB (z5 T) C (bH bx))) (37#bx) (aG _))))) ?_
  show di ?_;intro Y a;have d:=nk W;show 14#(ly rl (93#P) 28#(168#(au g rl o λN j=>3#(om (by rw[az,W.len]) ?_))))
  have b:=j _ _ P;show 14#(au l rl 24#b (λD S=>bA (wC N D) (.start S) (λi M G _ z=>⟨aI.of (z.1 _ _ b),z.few⟩) (bN (by rw[az];show d)) ?_ ?_))
  .intro i x M G B Z;show af (λr C c=>?_) (ck B);subst c
   obtain⟨f,L⟩:=W.ring r (fP C);show 34#0#(168#(cI g r rl (o.same (j.trans Z.1)) L f λu O=>Z.turn S O))
  .intro M G;show cW λw k r=>?_;subst r
   show gR D _ (aX rl (aI.of k) _ rl ?_);rw[ux];have U:=w _ _ b;show cy 14#(bC l y rl U (by lia) (λB n u O c m=>?_))
   show af (λf x Z=>?_) (id c)
   show(ly rl (93#x) 14#(ly rl (.inl 42#(O _ _ U)) ⟨rfl,?_⟩));rw[az,Z.length,m.len.mpr W.ind,e8 rfl];show q u ((139#0).trans O)
def MarksOf(N:RM.Net)(y U:List Nat):Prop:=U.length=y.length/\∀i m,U[i]?=some m->m<2^N.n/\∀(j r:Nat),y[j]?=some r->N.par r m=decide (i=j)
def Bw:Sp:=38#(∃l y,F=[.ref w,.ref l]/\79#0/\H l=4#(aE y)/\RM.Base g.N y/\∀D U Y,225#(Y D=4#(aE U)->MarksOf g.N y U->Q (.ref D) Y))
def DX:Ok T T.sS 10 Bw:=by
 show T.sS.ok λ_ A _ s H F Q E X hr h=>?_
 .revert h;show fy λF p J=>bO λg l y a o P W q=>?_;subst a
  show ae _ (ah (bD (ff (cY (aB (r9 T) hr (bM aT bx)))) dG aO)
   (ah 167#(aB (z5 T) hr (bH bx))
   (ah 187#(bJ dY)
   (ah (dw PassesOwn.never rl (96#(37#bx)) (p8 (i:=4) X.nd rl (Or.inr rl))
   (aj (bX (qv K (eH O! V! W! cJ e9 (bH (aB (wG T) hr (bM aT (bI (own:=["lead","row","places"]) (js:=[4]) (c9 X) rfl (lY K cA) 6#(xx K (n:=3) rfl (aL (88#(["lead","row","places","place"])) (aL (br 1 (fR ["lead","row","places","place"])) (aL (br 2 (fR ["lead","row","places","place"])) cR)))) 6#(gx (cY (aB (jc T) hr (bM cA e9)))) (λ_ _ _ _=>aT))))))))))
   (aj (ay e9)))))) ?_
  show Ba ?_;intro Y a b c d e;have a:=nk W;show(0#(eE F p J (cg g l y rl o P W λN a=>14#(cy ?_))))
  have d:=a _ _ P;show 14#(bC l y rl d (by lia) (λb k G w c A=>?_))
  show 17#(λD S=>?_)
  show fresh (η G D _) rl S λu f d=>?_
  have m:u D=4#(aE []):=d;have e:=(a.trans w).trans f;have N:=(a.trans w).free S;have a:=e _ _ P;have d:=c.same f;show af (λf i j=>?_) (id d)
  have f:=A.le;show 14#(ly rl (93#a) 28#(bF (by rw[az];lia) (by rw[az];lia) ?_))
  show pO (λi U a=>∃E f,U=[some (.ref F),some (.ref l),162#0,some (.ref D),E]/\ak H a/\iZ a b k/\a D=4#(aE f)/\f=(19#i).map λj=>orM (RM.fM k j)) (cI none [] rl e d m rl) ?_ ?_
  .intro i d U a I;show gF λE f=>iI λr u w s l=>?_;subst r
   rw[az,x!]at I;rw[C?];show af (λd x r=>?_) (id w)
   have d:f.length=i:=by rw[l,χ,C!]
   have H:D≠b:=λe=>by
    revert c;show af λv t _=>?_
    rw[e,t]at S;cases S
   show(ai rl ⟨.inl (116#s),0#(au b rl 24#x (λC G=>bA (λj M e=>ak a e/\e C=220#0/\M=aE (RM.fM (k.take j) i)) (78#G) ?_ (U! (jh (by rw[r.length];lia))) ?_ ?_))⟩)
   .intro j M e v;show cW λd m t=>?_;subst t
    show bF 42#(d _ _ x) m ?_;rw[az];unfold RM.fM;rw[χ];have Z:=M! (λq:RM.Row3=>q.2.2.testBit i) (k.take j)
    rw[I!]at Z
    lia
   .intro j x M e B;show cW λd m R=>?_;subst R
    show eg (λv=>bE λz c Z L=>?_) (Paired.ia r B);subst Z
    have b:=d _ _ L;have t:RM.fM (k.take (j+1)) i=RM.fM (k.take j) i++(if v.2.2.testBit i=true then[v.1] else[]):=by
     unfold RM.fM;rw[take3 z,w?,j!]
     congr 1
     rw[G!];cases v.2.2.testBit i<;>rfl
    show bC c _ rl (aZ.of b) rl (gR _ _ 103#(bC _ _ rl rl rl (0#(bf _ i rl 156#0))));rw[iz];cases O:v.2.2.testBit i with
    | true =>
      rw[O,ο rfl]at t;show 14#(e7 m (d.put G) aa ?_);rw[t,cH]
    | false =>
      rw[O,ξ 7#0,A?]at t
      show bF d m (by rw[t])
   .intro M e;show cW λd m c=>?_;subst c
    rw[r.length,o!]at m;have x:=z! I;have R:=A.marks W.ind (λb O=>(W.ring b O).2) (i:=i) x
    show b9 F p J C _ rl (o.same (u.trans d)) g.pZ m R.2 ?_;have L:=d _ _ s;show cg D _ _ rl rl L (jh (by rw[az];lia)) (cI _ (f++[orM (RM.fM k i)]) rl ((u.trans d).put N) ?_ ?_ ?_)
    .show af (λv t B=>?_) (w.same d)
     show ae v (by rw[ao H.symm];show t) (Paired.imp' 77#(cK.put L) B)
    .rw[aa,cH]
    .rw[B?,j!,l];rfl
  .intro U a;show gF λE f=>iI λz u w s l=>?_;subst z
   rw[az,x!]at l;show 14#(q D f a N u s ⟨by rw[l,χ,C!],λi m d=>?_⟩)
   rw[l,d!]at d;show af (λj v t=>?_) (nC.mp d);subst t
   have x:j=i/\i<y.length:=by
    obtain⟨Z,R⟩:=iJ.mp v;rw[List.getElem_range]at R;rw[C!]at Z;show⟨R.symm,Z⟩
   obtain⟨rfl,c⟩:=x;have R:=λB r (h:y[B]?=some r)=>A.marks W.ind (λb O=>(W.ring b O).2) (i:=j) h
   have e:=z! c;show⟨AK (R j _ e).2,λB r hr=>(R B r hr).1⟩
def KP(t1 S:Addr)(c e:Pos):Sp:=λF H Q _=>∃w p J,∃g:aC p J,F=[.ref w]/\79#0/\H t1=62#(dU (gB "least_ways") c)/\H S=62#(dU (gB "by_length") e)/\
 ∀D y Y,225#(Y D=4#(aE y)->RM.LB g.N (bW J) y->y.Pairwise (iH J)->Q (.ref D) Y)
def o4:Ok T T.oJ 10 (KP a.aR a.bT aN bK):=by
 show T.oJ.ok λ_ A _ s H c Q E b C h=>?_
 .revert h;show fy λy p J=>eg λg=>iI λf E QC Y q=>?_;subst f
  show ae _ (ah (fL (i:=1) b.nd rfl rfl (own:=["chord"]) (js:=[]) (c9 b) rfl (lY K (71#DK)) 6#(88#(["chord"])) 44#0 6#(aP je av aT))
   (ah (bQ 2 b.nd (bJ dY))
   (ah (p9 PassesOwn.never (aF j3 (37#bx) av (aG _)) (ah (gU (i:=3) b.nd rl (Or.inr rl) (sN K bx))
   (ah (gU (i:=4) b.nd rl (Or.inr rl) (dS K (aB (Bv T) C (bM aT e9))))
   (ah (bX (qv K (eH O! V! W! cJ cA (bH h8))))
   (aj (fL (i:=1) b.nd rfl rfl (own:=["later"]) (js:=[3,4]) (c9 b) rfl (lY K (fC (Pc K) bx (gw av) gv)) 6#(88#(["later","marks","ring"])) 44#0 6#(iA (cY (aB (gr T) C (bM cA aT))) (aP h9 aT bx) aT)))))))
   (aj (ay (aB (tu T) C (bM aT cA))))))) ?_
  show vV ?_;intro c d e f b h i;have b:=g.len;have b:g.N.cZ.length<=24:=by
   have:g.N.cZ.length<=29#19#g.N.n:=M! ..;rw[C!]at this;have R:g.N.n=J.length:=rfl
   lia
  have b:100<sizeLine:=by decide
  show 14#(eE y p J (au g rl E λDc N d j b=>au Dc rl 24#b λX f=>bA (λi M G=>ak N G/\G X=220#0/\M=aE ((g.N.cZ.take i).map λc=>2^c)) (78#f) (λi M G _ z=>bF 42#(z.1 _ _ b) z.2.1 (by rw[z.2.2,az,χ,I!];lia)) (bN (by rw[az];lia)) ?_ ?_))
  .intro i x M G B;show cW λw b r=>?_;subst r
   obtain⟨c,e,rfl⟩:∃c,g.N.cZ[i]?=some c/\x = .int c:=by
    unfold aE at B;rw[d!]at B;show af (λc Z R=>?_) (nC.mp B)
    show ae c Z R.symm
   have d:=(RM.dZ.mp (fP e)).1;have d:c<J.length:=d;show 3#(cU (dD (43#7#0) b (w.put f) aa ?_))
   rw[A!,e];change _=aE (List.map _ (List.take i g.N.cZ++[c]));rw[j!,List.map_singleton,cH];dsimp only;rw[k6]
  intro M G;show cW λw b d=>?_;subst d
  rw[az,o!]at b;show 17#(λF d=>?_)
  show fresh (η G F _) rl d λu e h=>?_
  have l:=e _ _ b;have f:u F=4#(aE []):=h;have Q:=(139#0).free d;have h:X≠F:=λz=>by rw[<-z,b]at d;cases d
  have m:=(139#0).trans e;have e:g.N.cZ.Nodup:=RM.JW;have hL:=kq g;show⟨λn U d=>∃X b s k t u v,U=[some (.ref y),some (.ref X),some (.ref F),u,v]/\ak H d/\d X=4#(aE k)/\d F=4#(aE b)/\X≠F/\RM.DP g.N (bW J) b s/\RM.Wt g.N b k t/\n=k.length,pA _ X [] [] _ _ none (cP none rl m l (dD f h RM.DP.start (RM.Wt.start e) rl)),?_⟩
  intro n U d;show gF λX b=>dO λs k t u v e j=>eV λC G Yu A h f=>?_;subst e f
  show 14#(ly rl (93#C) (cU 28#(pD (λn=>?_) (λn=>?_))))
  case refine_2 =>
   have P : ¬ 0<((aE k).length:Int):=λz=>n (e8 z)
   have e:k=[]:=adG (by rw[az]at P;lia)
   subst e;have O:b.length=g.N.cZ.length:=by
    have:=h.sum;rw[j_]at this
    lia
   show(0#(eE y p J (aV g F b rl (E.same j) G (e7 (by lia) (λm d=>(A.ring m d).2) (j _ _ Y) λD r I S w L l W=>?_))))
   show q D r I (j.free S) 139#0 L ((A.least O).perm l) W
  have n:=nB n;rw[az]at n;show⟨λl Y=>∃X b s f t u v,l=[some (.ref y),some (.ref X),some (.ref F),u,v]/\ak H Y/\Y X=4#(aE f)/\Y F=4#(aE b)/\X≠F/\RM.DP g.N (bW J) b s/\RM.Wt g.N b f t/\f.length<k.length,λl Y=>gF λX b=>dO λs f t u v e S=>eV λd D q r L N=>ae _ N (pA X b s f t u v (e7 e S d (dD D q r L rl))),?_⟩
  obtain⟨m,k,rfl⟩:∃m f,k=m::f:=by
   cases k with
   | nil=>simp at n
   | cons m f=>show gR m f rfl
  have q:=h.lt m g!;show 14#(fO (aI.of C) gj (?_));show aA (λt f l n=>?_) h.odd
  show(0#(eE y p J (aV g m t rl (E.same j) (j _ _ QC) (dD q f l n λr I v w=>eY λz e u W d S _=>?_))))
  show(cL (aZ.of S) g5 (?_));have f:=w _ _ G;have l:=w _ _ C;have n:b.length<=24:=by have:=h.sum;lia
  show(ai rl ⟨(.inl (116#f)),ai rl (cg F _ _ rl rl f (by rw[az];lia) ?_)⟩)
  have q:ak H (η I F 69#(aE b++[.int (e:Int)])):=(139#0).put Q;have j:η I F 69#(aE b++[.int (e:Int)]) F=4#(aE (b++[e])):=by rw[aa,cH]
  have n:η I F 69#(aE b++[.int (e:Int)]) X=4#(aE (m::k)):=by rw[ao Yu];show l
  generalize η I F 69#(aE b++[.int (e:Int)])=f at q j n;have u:jt (aE (m::k)) (some (1:Int)) none=aE k:=CD (m::k) 22#0
  have p:=h.next d.par
  revert p;show bh λl C _ p=>?_
  have D:=A.snoc d.ring d.lt d.par (λr Z R l=>by
   have:=d.least hL Z R l;have t:RM.len g.N (bW J) e=z:=d.len;rw[t];show this) (h.eS m g!)
  have d:k.length<=24:=by have:=h.sum;rw[y!]at this;lia
  show(0#(aq X _ rl (aI.of n) (λc L=>?_)))
  rw[u];have u:ak H (η f c (.lst (aE k))):=q.trans (ak.new L);have n:=ak.new L (o:=.lst (aE k)) _ _ j;have j:η f c (.lst (aE k)) c=4#(aE k):=aa;generalize η f c (.lst (aE k))=l at u n j;show au c rl 24#j λq f=>bA (λi M d=>ak l d/\d q=220#0/\M=aE ((k.take i).map λv=>if g.N.par e v=true then v^^^m else v)) (78#f) (λi M d _ z=>bF 42#(z.1 _ _ j) z.2.1 (by rw[z.2.2,az,χ,I!];lia)) (bN (by rw[az];lia)) ?_ ?_
  .intro i x M d B;show cW λl j r=>?_;subst r
   obtain⟨v,r,rfl⟩:∃v,k[i]?=some v/\x = .int (v:Int):=by
    unfold aE at B;rw[d!]at B;show af (λc Z R=>?_) (nC.mp B)
    show ae c Z R.symm
   have c:v<53#0:=h.lt v (jx _ (fP r));have h:63#18#(e&&&v)<=1000:=b! (bits_le (_J _ c)) (by lia)
   have w:∀y,(if g.N.par e v=true then v^^^m else v)=y->aE ((k.take i).map λv=>if g.N.par e v=true then v^^^m else v)++[.int (y:Int)]=aE ((k.take (i+1)).map λv=>if g.N.par e v=true then v^^^m else v):=λy t=>by
    rw[A!,r];change _=aE (List.map _ (List.take i k++[v]));rw[j!,List.map_singleton,cH,t]
   show 34#0#(bu _ _ e v rl rl rl h (λP t=>156#0))
   rw[AN (g:=g) c];have h:=l.trans t;have c:=t _ _ j;cases O:g.N.par e v with
   | true =>
     show eI (0#(cU (e7 c (h.put f) aa ?_)));dsimp only;rw[xor_int];show w _ (ο O)
   | false=>show cy (ai rfl (e7 c (h.put f) aa (w _ (ξ (by rw[O];decide)))))
  .intro M d;show cW λl j P=>?_;subst P
   rw[az,o!]at j;show pA q (b++[e]) (s++[m]) _ C _ _ (e7 rl (u.trans l) j (dD (l _ _ n) ?_ D p (by rw[χ];simp)))
   intro z;rw[z,n]at f;cases f
def Bx(t:Addr)(e:Pos):Sp:=38#(∃m:Nat,125#m/\79#0/\m<53#0/\H t=62#(dU (gB "least_ways") e)/\∀b W Y,ak H Y->gq Y b W->OO p W->qz p J g m W->Q (.ref b) Y)
abbrev TX:=Nat×Nat×127#Pr
def x6(H:Hp)(v:V)(t:TX):Prop:=∃c b,v = .ref c/\H c=15#([129#t.1,129#t.2.1,.ref b])/\gq H b t.2.2
def x6.tups(s:cK H Y)(h:x6 H v t):x6 Y v t:=let⟨c,b,e,h1,ys,h2,h3⟩:=h;(gR c b (aX e (s _ _ h1) ys (s _ _ h2) (Paired.imp' 77#s h3)))
def Ob(t1 S:Addr)(c e:Pos):Sp:=λF H Q _=>∃w p J,∃g:aC p J,F=[.ref w]/\79#0/\H t1=62#(dU (gB "least_ways") c)/\H S=62#(dU (gB "by_length") e)/\
 ∀b ys (tr:List TX) H',H b=none->ak H H'->H' b=15#ys->Paired (x6 H') ys tr->RM.LB g.N (bW J) (tr.map (·.1))->(tr.map (·.1)).Pairwise (iH J)->MarksOf g.N (tr.map (·.1)) (tr.map (·.2.1))->(∀t∈tr,OO p t.2.2/\qz p J g t.2.1 t.2.2)->Q (.ref b) H'
def By:Ok T T.qO 7 (Bx a.aR aN):=by
 show 1#T.qO.ok
 .revert h;show fy λv p J=>gF λg m=>iI λf o d L q=>?_;subst f
  show 56#(ay (aB (lW T) C (bH (39#kM))));have z:=g.p2;show(0#(168#(cI g m rl o d L λD y c N S j k Z=>?_)))
  obtain⟨P,all⟩:=id Z;show eE D y c (bu p g.N (bW J) m rl k (by lia) Z λb G w n=>?_)
  show q b _ G 139#0 n ⟨by rw[χ,C!],λR u=>?_⟩ λi I x s B=>?_
  .show af (λi _ r=>?_) (U'.mp u);subst r
   show AY _ _
  .have e:y[i]?=some y[i]:=z! (by lia)
   show gF (λr W=>iI λt U M l _=>?_) (all i _ e)
   rw[u!,d!,W_ I];change RM.tI _ _ m i x s (sel (jw (kr (xX (c i)) p) x) s);rw[M5 B];show l x s
def qT:Ok T T.qQ 11 (Ob a.aR a.bT aN bK):=by
 show T.qQ.ok λ_ A _ s H F Q E b C h=>?_
 .revert h;show fy λz p J=>eg λg=>iI λd o F c q=>?_;subst d
  show ae _ (ah (bQ 1 b.nd (71#o4))
   (ah (bQ 2 b.nd (39#DX))
   (aj (ay (bU (uQ K) (by rfl) T.lH e_ (bH (bI (own:=["ring","own"]) (js:=[0]) (c9 b) rfl (Az K (by rfl) T.IQ (bM bx cA)) 6#(xx K (n:=2) rfl (aL (88#(["ring","own","web"])) (aL (br 1 (fR ["ring","own","web"])) cR))) 44#0 6#(bV (bq aT (bM bx (aB (By T) C (bM cA bx)))))))))))) ?_
  show g7 ?_;intro Y b;show 14#(eE z p J ⟨g,(dD rl o F c λD l N S j b e Q=>?_)⟩)
  have c:=nk e.1;show(0#(eE z p J (cg g D l rl (o.same j) b e.1 λm r G k w d A=>?_)))
  have c:=w _ _ b;have C:=j.trans w;have N:=A.1;show(ai rl (ai rl (bC D m rl 24#c 24#d (λX E=>qg (by rw[az,az];lia) (λi M u=>ak G u/\u X=220#0/\∃f:List TX,Paired (x6 u) M f/\f.map (·.1)=l.take i/\f.map (·.2.1)=r.take i/\∀t∈f,OO p t.2.2/\qz p J g t.2.1 t.2.2) (bF (ak.new E) aa (cP [] .nil rl rl λt w=>by cases w)) (λi M u _=>cW λb j=>aA λf k s _=>e7 42#(b _ _ c) 42#(b _ _ d) j ?_) (bN (by rw[az];lia)) ?_ ?_))))
  .have Z:=k.length;have R:=k! List.length s;rw[χ,I!]at R
   lia
  .intro i x y D M u B H;show cW λO s=>gE λf I j U k d=>?_
   have b:∀{l:List Nat} {v:V},(aE l)[i]?=some v->∃c,l[i]?=some c/\v = .int c:=λ{l v} h=>by
    unfold aE at h;rw[d!]at h;show af (λc Z R=>?_) (nC.mp h)
    show ae c Z R.symm
   show af (λr G R=>?_) (b B);subst R
   show af (λm v h=>?_) (b H);subst h
   have B:=(A.2 i m v).1;have Z:ak u (η u D (.tup [.int r,.int m])):=ak.new d;have i:=(C.trans O).trans Z;show aq D _ rl (aZ.of aa) 103#(bC _ _ rl rl rl (0#14#(ai rl (eE z p J (cI g m rl (o.same i) B (i _ _ F) λb W h d y H x=>17#(λc L=>?_))))))
   have i:ak h (η h c (.tup [.int r,.int m,.ref b])):=ak.new L;have g:=(Z.trans d).trans i;have P:=g _ _ s;show e7 P ((O.trans g).put E) aa (cP (f++[(r,m,W)]) ?_ ?_ ?_ λt w=>?_)
   .show Paired.snoc (151#(λ_ _ z=>x6.tups (g.tups.trans (cK.put P)) z)) (x6.tups (cK.put P) (aq c b rl aa (y.same i)))
   .rw[j!,j,A!,G];rfl
   .rw[j!,U,A!,v];rfl
   .rcases D!.mp w with z|z
    .show k t z
    .rw[q!.mp z];show⟨H,x⟩
  .intro M u;show cW λO s=>gE λf I j U k=>?_
   rw[az,o!]at j;rw[az,<-N,o!]at U;show bf X _ rl (.inl ⟨aI.of s,λl P=>?_⟩)
   have Z:ak u (η u l (.tup M)):=ak.new P;show q l M f _ ((C.trans O).free P) ((C.trans O).trans Z) aa (151#(λ_ _ z=>x6.tups Z.tups z)) (by rw[j];show e) (by rw[j];show Q) (by rw[j,U];show A) k
def GG(t1 S:Addr)(c e:Pos):Sp:=λF H Q _=>∃w p J,∃g:aC p J,F=[.ref w]/\79#0/\H t1=62#(dU (gB "least_ways") c)/\H S=62#(dU (gB "by_length") e)/\
 ∀D y Y,225#(Y D=4#((y.map (J' J)).map V.int)->RM.LB g.N (bW J) y->y.Pairwise (iH J)->Q (.ref D) Y)
def z6:Ok T T.zO 11 (GG a.aR a.bT aN bK):=by
 show T.zO.ok λ_ A _ s H F Q E d C h=>?_
 .revert h;show fy λv p J=>eg λg=>iI λf o l U q=>?_;subst f
  show 56#(ay (bI (own:=["ring"]) (js:=[0]) (c9 d) rfl (lY K (71#o4)) 6#(88#(["ring","web"])) 44#0 6#(aB (gM T) C (bM bx aT))))
  have L:=g.len;have W:=g.pZ;show 14#(168#⟨g,(dD rl o l U λD y N S j k e Y=>?_)⟩)
  have b:y.length<=24:=by
   have Z:g.N.cZ.length<=29#19#g.N.n:=M! ..;rw[C!,<-e.1.len]at Z;show b! Z L
  show au D rl 24#k λX I=>bA (λi M G=>ak N G/\G X=220#0/\M=((y.take i).map (J' J)).map V.int) (78#I) (λi M G _ z=>bF 42#(z.1 _ _ k) z.2.1 (by rw[z.2.2,χ,χ,I!];lia)) (bN (by rw[az];lia)) ?_ ?_
  .intro i x M G B;show cW λw n t=>?_;subst t
   obtain⟨r,m,rfl⟩:∃r,y[i]?=some r/\x = .int r:=by
    unfold aE at B;rw[d!]at B;show af (λc Z R=>?_) (nC.mp B)
    show ae c Z R.symm
   have c:=(e.1.ring r (fP m)).2;show 34#0#⟨v,(aV p J _ rl (o.same 139#0) W (au r rl c λu O=>e7 (O _ _ n) ((w.trans O).put I) aa ?_))⟩
   rw[A!,m];rw[j!,j!];rfl
  .intro M G;show cW λw n t=>?_;subst t
   rw[az,o!]at n;show q X y G (j.free I) 139#0 n e Y
def Oc(p:Nat)(W:127#Pr)(l:Int):Prop:=∀i,i<p->∀d,(jw (W.getD i []) i).2=some d->l<=d
def GH(W:127#Pr)(i:Nat):List V:=(19#i).map λj=>oV (jw (W.getD j []) j).2
def KQ(W:127#Pr)(i:Nat):GH W (i+1)=GH W i++[oV (jw (W.getD i []) i).2]:=by
 unfold GH;rw[B?,j!];rfl
def tP:Sp:=84#(∃b p W l,F=[.ref b,.int l]/\gq H b W/\OO p W/\p<=10/\Oc p W l/\50#(.bl true))
def Yv(p)(ts)(g:aC p ts)(r m:Nat)(W:127#Pr):Prop:=r<2^ts.length/\g.N.Ring r/\29#(aW 18#(r&&&m))%2=1/\FL p ts m W/\Oc p W (J' ts r)
def wJ:Sp:=84#(∃w b p J,∃g:aC p J,∃(W:127#Pr) (m r:Nat),F=[.ref w,.int m,.int r,.ref b]/\79#0/\gq H b W/\OO p W/\m<53#0/\Yv p J g r m W/\50#(.bl true))
def wK(g:aC p J)(d:m<53#0):63#18#(r&&&m)<=1000:=by
 have Z:r&&&m<53#0:=_J _ d;have R:=bits_le Z;have:=g.len
 lia
def wL:Ok T T.m6 1 tP:=by
 show 1#T.m6.ok
 .revert h;show gb λb p W l=>eV λf n P a J q=>?_;subst f
  show ae _ (ah (fL (i:=2) X.nd rfl rfl (own:=["point"]) (js:=[0]) (c9 X) rfl (96#(37#aT)) 6#(88#(["point","worths"])) 44#0 6#(dS K (b8 (B0 K) (b8 (B0 K) bx aT) aT)))
   (aj (ay (cS (JX K rfl) (by rfl) T.zT u_ (bH (bI (own:=["worth"]) (js:=[1]) (c9 X) rfl (lY K cA) 6#(88#(["worth","length"])) 44#0 6#(Q9 (cN iL aT c7 (aG _)) (iK (cN yu aT bx (aG _)))))))))) ?_
  show fE ?_;intro Y;show af (λk b g=>?_) (id n)
  have o:k.length=p:=by rw[g.length,P.1]
  show 14#(ly rl (.inr (aZ.of b)) 28#(43#(λD S=>eN (λi M G=>ak H G/\11#G/\M=GH W i) (78#S) (λi M G _ z=>⟨z.2.1,by rw[z.2.2];unfold GH;rw[χ,C!];show Ξ _⟩) (bN (by lia)) ?_ ?_)))
  .intro i M G I;show cW λw N U=>?_
   rw[C?];have I:i<p:=by lia
   show af (λx B=>aD λm v r c a=>?_) (i9 g (by rw[P.1];show I) []);subst r
   have L:=P.row I;show af (λd e j=>?_) (RowW.at a (i:=i) (by lia))
   show 34#0#(cL 91#(w _ _ b) (aH B) 14#(cL 91#(w _ _ c) (aH e) (cL 91#(w _ _ j) g5 (e7 N (w.put S) aa ?_))));rw[KQ,U]
  .intro M G;show cW λw N t=>?_;subst t
   show 14#(au D rl 24#N (λy e=>bA (wC G y) (.start e) (λi M u _ z=>⟨aI.of (z.1 _ _ N),z.few⟩) (bN (by unfold GH;rw[χ,C!];lia)) ?_ ?_))
   .intro i x M u B Z;unfold GH at B;rw[d!]at B;show af (λj r R=>?_) (nC.mp B);subst R
    have c:=E!.mp (fP r);have m:=Z.turn e (ak.refl _);cases a:(jw (W.getD j []) j).2 with
    | none=>show 34#(ai rfl ⟨rfl,ai rfl (uP rfl m)⟩)
    | some d =>
      show 34#(ai rl ⟨rfl,ai rl (gO 121#0 (0#(cU (?_))))⟩)
      dsimp only
      rwa [e8 (J j (by lia) d a)]
   .intro M u;show cW λO m a=>?_;subst a
    show aq y _ rl (aI.of m) ?_;rw[ux];show q u (w.trans O)
def x7:Ok T T.oH 9 wJ:=by
 show 1#T.oH.ok
 .revert h;show gb λv b p J=>eY λg W m r l o=>iI λn M d P q=>?_;subst l;obtain⟨i,e,Y,st,k⟩:=P
  show ae _ (ah 66#(PW.pt (hU (ff (cY (aB (iu T) C (bM aT cA)))) (gf (ff (cY (aB (gr T) C (bM cA bx)))))))
   (aj (ay (jP (aB (wH T) C (bq aT (bM bx e9))) (iK (aB (wL T) C (bM e9 (aB (gM T) C (bM aT cA))))))))) ?_
  show di ?_;intro x a;show(0#(168#(cI g r rl o i e λN j=>14#(cy 28#(ai rl (bu _ _ r m rl rl rl (wK g d) (λG w=>156#0)))))))
  rw[e8 Y];have U:=j.trans w;show cy (0#14#(eE v b p (aV J W m rl (o.same U) g.pZ (dD (n.same U) M d st λu O=>?_))))
  have y:=U.trans O;show 14#(eI (0#(ai rl ⟨v,(aV p J _ rl (o.same y) g.pZ (au r rl i λc Z=>?_))⟩)))
  have f:=y.trans Z;show bu b p W _ rl (n.same f) M g.p2 ⟨k,λI t=>q I (f.trans t)⟩
def QD{m:Type}(f:m->Nat)(l:List m)(H:Hp)(D:Addr)(i:Nat)(M:List V)(G:Hp):Prop:=ak H G/\11#G/\M=aE ((l.take i).map f)
section
variable {α:Type}
def QD.start(S:H D=none):QD f l H D 0 [] 97#H:=bF (ak.new S) aa rfl
def QD.few(h:QD f l H D i M G):118#G:=⟨h.2.1,by rw[h.2.2,az,χ,I!];show G? _ _⟩
def QD.turn(h:QD f l H D i M G)(S:H D=none)(n:l[i]?=some t):11#G/\QD f l H D (i+1) (M++[129#(f t)]) (η G D 69#(M++[129#(f t)])) :=
 (e7 h.2.1 (h.1.put S) aa (by rw[A!,n,W?,j!,h.2.2];show(cH _ _).symm))
end
def BA:Sp:=38#(∃l M y U,F=[.ref w,.ref l,.ref M]/\79#0/\H l=4#(aE y)/\H M=4#(aE U)/\y.length<=24/\MarksOf g.N y U/\50#(.bl true))
def wM(S:Addr)(e:Pos):Sp:=λF H Q _=>∃w p J,∃g:aC p J,∃b v f,F=[.ref w,.ref b]/\79#0/\H S=62#(dU (gB "by_length") e)/\H b=some (.tup v)/\Paired (x6 H) v f/\RM.Base g.N (f.map (·.1))/\(f.map (·.1)).Pairwise (iH J)/\MarksOf g.N (f.map (·.1)) (f.map (·.2.1))/\(∀t∈f,OO p t.2.2/\Yv p J g t.1 t.2.1 t.2.2)/\50#(.bl true)
def KR(Z:iH J x y)(R:iH J y x):x=y:=by
 unfold iH at Z R
 lia
def GI(D:j<n)(h:∀k,k<n->f k=decide (k=j)):(19#n).filter f=[j]:=by
 rw[_M λk Y=>h k (E!.mp Y)]
 clear h
 induction n with
 | zero=>lia
 | succ n G =>
   rw[B?,w?]
   by_cases e:j=n
   .subst e;rw[_t.mpr λx B=>by have:=E!.mp B;simp;lia]
    simp
   .rw[G (by lia)]
    have:n≠j:=e! e;simp[this]
def DY:Ok T T.sY 5 BA:=by
 show 1#T.sY.ok
 .revert h;show fy λv p J=>dO λg l y b A f o=>iI λP d a s q=>?_;subst f
  show ae _ (ah 66#(ff (cY (cS (JX K rfl) (by rfl) T.zT u_ (bH (bI (own:=["own"]) (js:=[0]) (c9 X) rfl (lY K cA) 6#(88#(["own","web"])) 44#0 6#(aB (wA T) C (bM bx aT)))))))
   (ah (dw PassesOwn.never rl (ua K (by rfl) T.fc (bH bx)) (xx K rl (aL (br 3 X.nd) (aL (p8 (i:=4) X.nd rl (Or.inr rl)) cR)))
   (aj 66#(aF (pF K C.units) (bI (own:=["k","own"]) (js:=[4]) (c9 X) rfl (ua K (by rfl) T.fc (bH cA)) 6#(xx K (n:=2) rfl (aL (88#(["k","own","ring"])) (aL (br 1 (fR ["k","own","ring"])) cR))) 6#(gx (cY (aB (gr T) C (bM cA bx)))) (λ_ _ _ _=>aT)) (bJ (bH e9)) (aG _))))
   (aj (ay fK)))) ?_
  show Bd ?_;intro c a e N b;have a:=s.1;show 14#(au y rl 24#d (λD S=>bA (wC H D) (.start S) (λi M G _ z=>⟨aI.of (z.1 _ _ d),z.few⟩) (bN (by rw[az];lia)) ?_ ?_))
  .intro i x M G B Z;show af (λz m r=>?_) (ck B);subst r
   show 34#0#⟨v,(aV p J _ rl (o.same Z.1) g.pZ ?_)⟩;have c:z<53#0:=(s.2 i z m).1;rw[DI c];show Z.turn S (ak.refl _)
  intro M G;show cW λw b t=>?_;subst t
  show gR D _ (aX rl (aI.of b) _ rl ?_);rw[ux];show cy 14#(au l rl 24#(w _ _ P) (uT (λi U u=>∃a c,U=[some (.ref v),some (.ref l),some (.ref y),a,c]/\ak H u) (bf none none rl w) (by intro i U u _;show bh λ_ _ _ z=>?_;show aI.of (z _ _ P)) ?_ (by intro U u;show bh λ_ _ e O=>?_;show by rw[e];show q u O)))
  intro i x f U u B;show bh λa c R O e=>?_;subst R
  show af (λr h a=>?_) (ck B);subst a
  have a:=(iJ.mp h).1;show fresh (η u f _) rl e λc Z m=>?_
  have e:=O.trans Z;show aq f _ rl (aZ.of m) 103#(aq _ _ rl rl 14#(au y rl 24#(e _ _ d) (λl b=>F2 (mE (λk=>g.N.par r (A.getD k 0)) c l) (.start b) (λi M I _ a=>⟨aI.of (a.1 _ _ (e _ _ d)),a.len⟩) (bN (by rw[az];lia)) ?_ ?_)))
  .intro k y L M I W a f;show af (λm c d=>?_) (ck W);subst d
   have d:=(s.2 k m c).1;have Y:A.getD k 0=m:=by rw[u!,c];rfl
   show aq L _ rl (aZ.of aa) 103#(bC _ _ rl rl rl (0#(bu _ _ r m rl rl rl (wK g d) (λc l=>156#0))))
   have c:=(ak.new f).trans l
   by_cases z:g.N.par r m=true
   .rw[e8 ((um d).mpr z)];show eI 14#(a.yes b c (by rw[Y];show z))
   .rw[gm λy=>z ((um d).mp y)]
    show cy (a.no c (by rw[Y];show RS.mpr z))
  .intro M I;show cW λd m y=>?_
   rw[az]at y;rw[y,GI (j:=i) (by lia) λk Y=>by
    have L:A[k]?=some (A.getD k 0):=by rw[u!,z! Y];rfl
    show(s.2 k _ L).2 i r h]at m
   show(ai rl 17#(λL W=>aq _ _ (.lst 42#(ak.new W _ _ m) (gp _)) (.lst (aI.of aa) (gp [i])) (aX (eL _) (eL _) _ rl ?_)))
   rw[rM,e8 rfl];show cy (bf _ _ rl ((e.trans d).trans (ak.new W)))
def x8:Ok T T.oW 10 (wM a.bT bK):=by
 show T.oW.ok λ_ A _ s H F Q E c C h=>?_
 .revert h;show fy λA p J=>eg λg=>bO λb v l P o y O=>eV λs j I U F q=>?_;subst P
  show ae _ (ah (fL (i:=2) c.nd rfl rfl (own:=["ring","marks","worths"]) (js:=[]) (c9 c) rfl (Sq K bx) 6#(xx K (n:=3) rfl (aL (88#(["ring","marks","worths"])) (aL (br 1 (fR ["ring","marks","worths"])) (aL (br 2 (fR ["ring","marks","worths"])) cR)))) 44#0 (λ_ _ _ _=>aT))
   (ah 66#(PW.pt (hU (ff (cY (aB (r9 T) C (bM aT cA)))) (gf (aF (pF K C.units) cA (aB (tu T) C (bM aT cA)) (aG _)))))
   (ah 66#(ff (cY (aB (DY T) C (bq aT (bM cA (bI (own:=["ring","marks","worths"]) (js:=[]) (c9 c) rfl (Sq K bx) 6#(xx K (n:=3) rfl (aL (88#(["ring","marks","worths"])) (aL (br 1 (fR ["ring","marks","worths"])) (aL (br 2 (fR ["ring","marks","worths"])) cR)))) 44#0 (λ_ _ _ _=>bx)))))))
   (aj (ay (cS (JX K rfl) (by rfl) T.zT u_ (bH (bI (own:=["ring","marks","worths"]) (js:=[0]) (c9 c) rfl (Sq K bx) 6#(xx K (n:=3) rfl (aL (88#(["ring","marks","worths","web"])) (aL (br 1 (fR ["ring","marks","worths","web"])) (aL (br 2 (fR ["ring","marks","worths","web"])) cR)))) 44#0 6#(aB (x7 T) C (bq e9 (bq bx (bM aT cA)))))))))))) ?_
  show mZ ?_;intro c d e N f;have E:=s.length;have v:=nk j;have c:l.length<=24:=by rw[χ]at v;show v
  show 14#(au b rl ⟨_,aZ.of O⟩ (λX f=>iC (QD (λt:TX=>t.1) l H X) (.start f) (λi M G _ z=>⟨aZ.of (z.1 _ _ O),z.few⟩) (bN (by lia)) ?_ ?_))
  .intro i x M G B e;show af (λt h=>aD λc W d L _=>?_) (Paired.ia s B);subst d
   show bC c _ rl 91#(e.1 _ _ L) rl (gR _ _ 103#(bC _ _ rl rl rl 14#(e.turn f h)))
  intro M G;show cW λw d f=>?_;subst f
  rw[E,o!]at d;show(0#(eE A p J (cg g X _ rl (o.same w) d j λu k=>156#0)))
  have f:=w.trans k;have m:=k _ _ d;show cy (0#14#(eE A p J (aV g X _ rl (o.same f) m (e7 (by lia) (λr C=>(j.ring r C).2) (f _ _ y) λD H u S d k w G=>?_))))
  have j:=f.trans d;have f:=d _ _ m;obtain rfl:=w.eq_of_pairwise (λx y _ _ d R=>KR d R) G I
  show aq _ _ (.lst (aI.of f) (gp _)) (.lst (aI.of k) (gp _)) (aX (eL _) (eL _) _ rl ?_);rw[rM,e8 rfl];show cy (0#14#(au b rl ⟨_,aZ.of (j _ _ O)⟩ (λY k=>iC (QD (λt:TX=>t.2.1) l u Y) (.start k) (λi M I _ z=>⟨aZ.of (z.1 _ _ (j _ _ O)),z.few⟩) (bN (by lia)) ?_ ?_)))
  .intro i x M I B e;show af (λt h=>aD λc W d L _=>?_) (Paired.ia s B);subst d
   show bC c _ rl 91#(e.1 _ _ (j _ _ L)) rl (gR _ _ 103#(bC _ _ rl rl rl 14#(e.turn k h)))
  intro M I;show cW λd k e=>?_;subst e
  rw[E,o!]at k;have m:=j.trans d;show eE A p J (b9 g X Y _ _ rl (o.same m) (d _ _ f) k v ⟨U,λr l=>156#0⟩)
  have d:=m.trans l;show cy 14#(au b rl ⟨_,aZ.of (d _ _ O)⟩ (λZ j=>iC (wC r Z) (.start j) (λi M e _ z=>⟨aZ.of (z.1 _ _ (d _ _ O)),z.few⟩) (bN (by lia)) ?_ ?_))
  .intro i x M e B f;show af (λt h=>aD λc W b L k=>?_) (Paired.ia s B);subst b
   have b:=d.trans f.1;have l:=(U.2 i t.2.1 (by rw[d!,h];rfl)).1
   obtain⟨m,i⟩:=F t (fP h);show bC c _ rl 91#(b _ _ L) rl (gR _ _ 103#(bC _ _ rl rl rl (0#14#(ai rl ⟨A,(eE W p J (bu g t.2.2 t.2.1 t.1 rl (o.same b) (k.same b) m (bF l i λr h=>f.turn j h)))⟩))))
  .intro M e;show cW λc B L=>?_;subst L
   show aq Z _ rl (aI.of B) ?_;rw[ux];show q e (d.trans c)
def UI(H:Hp)(x:V)(t:fN):Prop:=∃b,x = .ref b/\(H b=4#(jU t)\/H b=15#(jU t))
def UI.same(h:UI H x t)(s:ak H Y):UI Y x t:=by
 revert h;show af λb e h=>?_
 show ae b e (h.imp (s _ _) (s _ _))
def tw:Sp:=84#(∃(p:Nat) (x:V) (t:fN),F=[.int p,x]/\UI H x t/\iW (p:Int) t/\∀b Y,ak H Y->Y b=15#(jU t)->Q (.ref b) Y)
def BB:Sp:=84#(∃(p:Nat) (l:Addr) (f:List V) (J:List fN),F=[.int p,.ref l]/\(H l=some (.lst f)\/H l=some (.tup f))/\Paired (UI H) f J/\aC p J/\∀w Y,ak H Y->bB Y w p J->Q (.ref w) Y)
def DZ:Sp:=84#(∃(p:Nat) (l:Addr) (f:List V) (J:List fN),F=[.int p,.ref l]/\(H l=some (.lst f)\/H l=some (.tup f))/\Paired (TupAt H) f J/\aC p J/\∀w Y,ak H Y->bB Y w p J->Q (.ref w) Y)
def GJ:Ok T T.vY 1 tw:=by
 show 1#T.vY.ok
 .revert h;show eg λp=>aY λx t f r g k=>?_;subst f;obtain⟨b,rfl,O⟩:=r
  show ae _ (ah (bD (aF lM (37#bx) av (aG _)) dG aO)
   (ah (dw PassesOwn.never rl (Sq K (bV (bM (b8 (Uy K) bx av) (b8 (Uy K) bx av)))) (br 2 X.nd)
   (aj (bD (PW.pt (hU (aF B9 cA av (aG _)) (gf (aF yu cA aT (aG _))))) dG aO)))
   (ah (bD (aF dP (b8 (Uy K) bx av) (b8 (Uy K) bx av) (aG _)) dG aO)
   (ah (bD (PW.pt (hU (aF B9 (b8 (Uy K) bx av) av (aG _)) (gf (aF j3 (b8 (Uy K) bx av) (t9 (by rfl) T.Kw) (aG _))))) dG aO)
   (aj (ay (bU (uQ K) (by rfl) T.lH e_ (bH bx)))))))) ?_
  show Dh ?_;intro Y a L N m B n j o;have W:aI K H b (jU t)\/aZ K H b (jU t):=O.imp aI.of aZ.of;show 14#(bC b (jU t) rl W rl 28#(om rl ?_));show 14#(rB W gj 28#(rB W g5 ⟨(dl rl),λq D=>au q rl ⟨_,aZ.of aa⟩ ?_⟩))
  have M:ak H (η H q (.tup [.int t.1,.int t.2.1])):=ak.new D;have u:=W.imp M.seq M.Zu;show Hv (λi U G=>∃v,U=[some (.int p),162#0,v]/\G=η H q (.tup [.int t.1,.int t.2.1])) (ae none rl rl) (by intro i U G _;show af λ_ _ e=>?_;show by rw[e];show aZ.of aa) ?_ ?_
  .intro i y U G I;show af λv l R=>?_;subst l R
   obtain⟨z,rfl,c,d⟩:∃z,y=V.int z/\0<=z/\z<p:=by
    match i,I with
    | 0,I=>show au t.1 ((20#I).symm) g.a0 g.a1
    | 1,I=>show au t.2.1 ((20#I).symm) g.b0 g.b1
   show 14#(cU 28#(gO (by lia) (0#(cU (ai rl (gO (by lia) ?_))))))
   show(ai rl (rl))
  .intro U G;show af λv l c=>?_;subst l c
   show 14#(rB u gj 28#(rB u g5 3#(gO (λz=>g.ne (V.int.inj z)) ?_)))
   show 14#(rB u (aH rl) (cU 28#(gO (by have:=g.l0;lia) (ai rl (rB u (aH rl) (cU (ai rl (gO (by have:=g.l1;lia) ?_))))))))
   rcases O with O|O
   .show 14#(bf b (jU t) rl (.inl ⟨aI.of (M _ _ O),λd y=>k d _ (M.trans (ak.new y)) aa⟩))
   .show 14#(bf b (jU t) rl (.inr ⟨aZ.of (M _ _ O),k b _ M (M _ _ O)⟩))
def nq:Ok T T.pR 2 BB:=by
 show 1#T.pR.ok
 .revert h;show eg λp=>bO λl f J a P R g k=>?_;subst a
  show ae _ (ah (bD (PW.pt (hU (aF B9 aT av (aG _)) (gf (aF j3 aT (t9 (by rfl) T.xR) (aG _))))) dG aO)
   (ah (bD (aF j3 (37#bx) (t9 (by rfl) T.DF) (aG _)) dG aO)
   (aj (ay (bV (bM aT (bU (uQ K) (by rfl) T.lH e_ (bH (bI (own:=["tie"]) (js:=[0]) (c9 X) rfl (XI K bx) 6#(88#(["tie","points"])) 44#0 6#(aB (GJ T) C (bM bx aT))))))))))) ?_
  show sP ?_;intro Y a L N;have W:aI K H l f\/aZ K H l f:=P.imp aI.of aZ.of;have U:=R.length;have q:=g.len;have m:=g.p1;have r:=g.p2;show 14#(cU 28#(gO (by lia) (ai rl (cU (ai rl (gO (by lia) ?_))))))
  show 14#(aq l f rl W (aq _ _ rl rl 28#(gO (by lia) ?_)))
  show 156#0;have start:∀D,H D=none->((λi M G=>ak H G/\11#G/\Paired (TupAt G) M (J.take i)/\M.length=i) 0 [] 97#H):=λD S=>e7 (ak.new S) aa .nil rfl
  have u:∀(D:Addr),H D=none->∀(i:Nat) (x:V) (M:List V) (G:Hp),f[i]?=some x->(ak H G/\11#G/\Paired (TupAt G) M (J.take i)/\M.length=i)->
   tw [.int p,x] G (λv c=>11#c/\(ak H (η c D 69#(M++[v]))/\η c D 69#(M++[v]) D=4#(M++[v])/\Paired (TupAt (η c D 69#(M++[v]))) (M++[v]) (J.take (i+1))/\29#(M++[v])=i+1)) E0:=by
   intro D S i x M G B;show jM λw j I a=>?_
   show af (λt n e=>?_) (Paired.ia R B)
   show aV p x t rl (e.same w) (g.ie t (fP n)) λb c Z O=>?_
   have d:=Z _ _ j;show dD d ((w.trans Z).put S) aa ?_ (by rw[i!,X!,a])
   rw[A!,n];show Paired.snoc (151#77#(Z.tups.trans (cK.put d))) ?_
   show ae b rl (cK.put d _ _ O)
  have b:∀(D:Addr) (M:List V) (G:Hp),H D=none->(ak H G/\11#G/\Paired (TupAt G) M (J.take f.length)/\M.length=f.length)->
   ∀d,G d=none->29#([V.int (p:Int),.ref d])<=sizeLine/\∀n,η G d (.tup M) n=none->Q (.ref n) (η (η G d (.tup M)) n (.tup [.int p,.ref d])):=by
   intro D M G S;show jM λw j I a d y=>?_
   show 17#(λn c=>?_)
   have t:ak G (η G d (.tup M)):=ak.new y;have e:=t.trans (ak.new (o:=.tup [.int p,.ref d]) c);rw[U,o!]at I;show k n _ (w.trans e) ⟨d,M,aa,?_,151#77#e.tups⟩
   rw[ao (bj aa c),aa]
  rcases P with P|P
  .show .inl 14#(au l rl ⟨f,aI.of P⟩ (λD S=>bA (xs:=f) (λi M G=>ak H G/\11#G/\Paired (TupAt G) M (J.take i)/\M.length=i) (start D S) ?_ (bN (by lia)) ?_ ?_))
   .intro i M G _;show jM λw j I a=>?_
    show bF 42#(w _ _ P) j (o_ a)
   .intro i x M G B a;show 34#0#(u D S i x M G B a)
   .intro M G a;show bf D M rl (.inl ⟨aI.of a.2.1,b D M G S a⟩)
  .show .inr 14#(au l rl ⟨f,aZ.of P⟩ (λD S=>iC (xs:=f) (λi M G=>ak H G/\11#G/\Paired (TupAt G) M (J.take i)/\M.length=i) (start D S) ?_ (bN (by lia)) ?_ ?_))
   .intro i M G _;show jM λw j I a=>?_
    show bF 91#(w _ _ P) j (o_ a)
   .intro i x M G B a;show 34#0#(u D S i x M G B a)
   .intro M G a;show bf D M rl (.inl ⟨aI.of a.2.1,b D M G S a⟩)
def pV:Ok T T.pR 2 DZ :=
 (nq T).imp λ_ _ _ _=>gF λp l=>aY λf J e P I r=>⟨p,(aV l f J e P (151#(by intro _ _;show af λb e h=>?_;show ae b e (.inr h))) r)⟩
def Od(C:Addr):Sp:=λF H Q _=>∃(p i:Addr) (n:Nat),F=[.ref p,.int n]/\H p=some (.ins C i [])/\1<=n/\n<=10/\
 ∀d q Y,H d=none->H q=none->jv C Y p d q n [(0,[])] []->(∀b o,H b=some o->b≠p->Y b=some o)->Q .eM Y
def KS(C:Addr):Sp:=λF H Q _=>∃p d q n f m W y,F=[.ref p]/\jv C H p d q n ((f,m)::W) y/\
 ∀l,H l=none->Q (.ref l) (η H l (.lst (aE (m.map (·.1)))))
def BC(C:Addr):Sp:=λF H Q _=>∃p d q n f m W y,F=[.ref p]/\jv C H p d q n ((f,m)::W) y/\
 ∀l a Y,H l=none->ak H Y->Y l=some (.lst a)->Paired (TupAt Y) a (m.map (·.2))->Q (.ref l) Y
def D0(C:Addr):Sp:=λF H Q _=>∃p d q n f m W y,F=[.ref p]/\jv C H p d q n ((f,m)::W) y/\
 ∀w Y,ak H Y->bB Y w n (m.map (·.2))->Q (.ref w) Y
def KU(C:Addr):Sp:=84#(∃p d q n W y,F=[.ref p]/\jv C H p d q n W y/\Q (129#y.length) H)
def QE(C:Addr):Sp:=λF H Q _=>∃p d q n f m W y t,F=[.ref p,.int t.1,.int t.2.1,.int t.2.2]/\jv C H p d q n ((f,m)::W) y/\
 iW (n:Int) t/\m.length<24/\y.length<=900/\∀Y,Kept H Y p d q->jv C Y p d q n ((f+1,m++[(f,t)])::(f,m)::W) (.put f::y)->Q (.int f) Y
def Oe(C:Addr):Sp:=λF H Q _=>∃(p d q:Addr) (n f:Nat) (m:kh) (W:143#kh) (y:List xK) (x:Nat) (t:fN),F=[.ref p,.int x]/\jv C H p d q n ((f,m)::W) y/\
 (x,t)∈m/\y.length<=900/\∀Y,Kept H Y p d q->jv C Y p d q n ((f,without x m)::(f,m)::W) (.drop x t::y)->Q .eM Y
def Of(C:Addr):Sp:=λF H Q _=>∃p d q n j w W e y,F=[.ref p]/\jv C H p d q n (j::w::W) (e::y)/\
 ∀Y,Kept H Y p d q->jv C Y p d q n (w::W) y->Q .eM Y
def D4(h:n<=24):n<sizeLine:=eA (by lia)
def tQ(T:104#a):OQ T T.iN 3 (Od a.aJ):=by
 show 145#T.iN.ok
 .revert h;show bO λp i n f M W g k=>?_;subst f
  show ae _ (ah (bX (aB (pV T) C (bM bx (bJ dY))))
   (ah (rz aT bx rl)
   (ah (rz aT MG rl)
   (ah (rz aT av rl)
   (aj (rz aT (bJ dY) rl)))))) ?_
  show vX ?_;intro Y b L N;show(ai rl 17#(λl y=>bu n l [] [] rl (.inl aa) .nil ⟨W,g,r! _,(λ_ h=>nomatch h)⟩ λr G O b=>?_))
  have U:=(ak.new y).trans O;have u:=U _ _ M;show(0#(bu p _ i _ rl u T.aM T.rZ ⟨(by change 0<1000;decide),λd J=>?_⟩))
  have I:=bj aa J;show 14#(bu p _ i _ rl (by rw[ao I];show aa) T.aM T.bY ⟨(by change 1<1000;decide),ai rl (bu p _ i _ rl aa T.aM T.f6 ⟨(by change _<1000;show Y! (iB _ _ _) (by change 2<1000;decide)),?_⟩)⟩)
  show 17#(λq D=>?_)
  have c:=bj aa D;have v:∀o S,(η (η (η (η G p o) d (.dK [])) p S) p)=(η (η (η (η G p o) d (.dK [])) p S) p):=λ_ _=>rfl
  show 14#(bu p _ i _ rl (by rw[ao c];show aa) T.aM T.jG ⟨(by change _<1000;show Y! (iB _ _ _) (Y! (Nat.add_le_add_right (iB _ _ _) 1) (by change 3<1000;decide))),?_⟩)
  have j:d≠q:=λz=>by
   rw[<-z,ao (e! I),ao (e! I),aa]at D;cases D
  have B:∀b o,H b=some o->b≠p->b≠d->b≠q->η (η (η (η (η (η G p 170#(eG "points" (.int n) [])) d (.dK [])) p 170#(eG "standing_ties" (.ref d) (eG "points" (.int n) []))) p 170#(eG "next_name" (.int 0) (eG "standing_ties" (.ref d) (eG "points" (.int n) [])))) q (.lst [])) p 170#(eG "done" (.ref q) (eG "next_name" (.int 0) (eG "standing_ties" (.ref d) (eG "points" (.int n) [])))) b=some o:=λb o e Z R x=>by
   rw[ao Z,ao x,ao Z,ao Z,ao R,ao Z];show U _ _ e
  have t:=none_of (λb o e Z=>by rw[ao Z];show U _ _ e) J (e! I)
  have m:H q=none:=by
   rw[ao (e! c),ao (e! c),ao (e! j),ao (e! c)]at D;show U.free D
  show k d q _ t m ⟨.nil,W,g,gR i 0 (aq [] [] rl (Eq.trans aa (k! (λl=>some (HO.ins a.aJ i l)) (i8 n d 0 q))) (au [] ?_ (.refl _) (λ_ h=>nomatch h))),[],?_,.nil⟩ λb o e Z=>?_
  .rw[ao (e! I),ao j,ao (e! I),ao (e! I),aa];rfl
  .rw[ao (e! c),aa]
  .show B b o e Z (bj e t) (bj e m)
def f7(T:104#a):OQ T T.kJ 1 (KS a.aJ):=by
 show 145#T.kJ.ok
 .revert h;show fy λp d q=>dO λn f m W y r S k=>?_;subst r
  show 56#(ay (cS (PM rl) (by rfl) T.wu PyProof.Rows.boot_sorted (bH (fj K aT))))
  have j:=S.ch.ok;show eY (λi _ _ _ e M J=>?_) S.ob
  cases e;show aY (λL u Z R g o=>?_) (J.sorted j)
  show 14#(b9 p _ i _ _ rl M T.aM T.bY lj (cg d L u rl Z R g λl N t b c=>?_))
  rw[o N b c];show k l t
def iT(T:104#a):OQ T T.iR 2 (BC a.aJ):=by
 show 145#T.iR.ok
 .revert h;show fy λp d q=>dO λn f m W y b S k=>?_;subst b
  show 56#(ay (bI (own:=["name"]) (js:=[0]) (c9 X) rfl (lY K (208#f7)) 6#(88#(["name","self"])) 44#0 6#(Ik (by show qe C) (fj K bx) aT (λ_ _=>rfl))))
  have u:=S.ch.ok;show eY (λh _ _ _ e s J=>?_) S.ob
  cases e;have b:=u.few;show 14#(aV p h _ rl s 102#0 (pA p d q n f m W (au y rl S λl c=>au l rl 24#aa λD Z=>?_)))
  have j:ak H (η H l (.lst (aE (m.map (·.1))))):=ak.new c;have v:=j.free Z;have U:=bj aa Z;show bA (xs:=aE (m.map (·.1))) (λi M G=>ak (η H l (.lst (aE (m.map (·.1))))) G/\11#G/\Paired (TupAt G) M ((m.map (·.2)).take i)/\M.length=i) (e7 (ak.new Z) aa .nil rl) ?_ (by rw[az,χ];show bN b) ?_ ?_
  .intro i M G _;show jM λY o I f=>?_
   show bF 42#(Y _ _ aa) o (o_ f)
  .intro i x M G B;show jM λY o I f=>?_
   show af (λb g R=>?_) (ck B);subst R
   rw[d!]at g;show af (λO c e=>?_) (nC.mp g);obtain⟨N,t⟩:=O
   have e:=e;subst e;show aD (λL b e r g=>?_) ((J.same (j.trans Y)).get u (fP c))
   have u:=Y _ _ (j _ _ s);show 3#(b9 p _ h _ _ rl u T.aM T.bY lj (ae _ rl (aq d (.ref b) rl (by have z:=vj.k (k:=kN N) e;rw[r]at z;show z) (dD o (Y.put Z) aa ?_ (by rw[i!,X!,f])))))
   rw[A!,d!,c];show Paired.snoc (151#77#(cK.put o)) (ae b rl (cK.put o _ _ g))
  .intro M G;show jM λY o I f=>?_
   rw[az,χ,show m.length=(m.map (·.2)).length from(χ _).symm,o!]at I
   show k D M G v (j.trans Y) o I
def gC(T:104#a):OQ T T.jq 3 (D0 a.aJ):=by
 show 145#T.jq.ok
 .revert h;show fy λp d q=>dO λn f m W y c S k=>?_;subst c
  show 56#(ay (aB (pV T) C (bM (fj K aT) (208#iT))));have j:=S.ch.ok;show eY (λi _ _ _ e M J=>?_) S.ob
  cases e;show 14#(b9 p _ i _ _ rl M T.aM T.rZ zc (ae _ rl (aV p i _ rl M 102#0 (pA p d q n f m W (au y rl S λl t G v b g I=>?_)))))
  show bu n l t _ rl (.inl g) I (j.pZ S.p1 S.p2) λr u O o=>k r u (b.trans O) o
def sd(T:104#a):OQ T T.kK 1 (KU a.aJ):=by
 show 145#T.kK.ok
 .revert h;show eg λp=>dO λd q n W y c S k=>?_;subst c
  show 56#(ay (37#(fj K aT)));show eY (λi f m u t M J=>?_) S.ob;subst t
  show af (λv D I=>?_) S.dn
  have b:=I.length;rw[adK]at b;show 14#(b9 p _ i _ _ rl M T.aM T.jG qt (aq q v rl (93#D) ?_))
  rwa [b]
def wN(T:104#a):OQ T T.ng 3 (QE a.aJ):=by
 show 145#T.ng.ok
 .revert h;show gb λp d q n=>dO λf m W y t b S=>jM λE A c k=>?_;subst b
  show ae _ (ah (bQ 4 X.nd (bV (bq bx (bM cA e9))))
   (ah (Im (aj (bX (aB (pV T) C (bM (fj K aT) (aP (Cm K) (208#iT) (bJ (bH h8))))))))
   (ah (bQ 5 X.nd (fj K aT))
   (ah (AR (by show qe C) (fj K aT) nT h8 rl)
   (ah (rz aT (aP gg nT av) rl)
   (ah (bX (qv K (eH O! V! W! cJ (fj K aT) (bH (bV (bM nT c7))))))
   (aj (ay nT)))))))) ?_
  show tM ?_;intro Y b c N e B;have s:=S.ch.ok;show(0#(ai rl 17#(λb O=>?_)))
  have j:ak H (η H b (.tup (jU t))):=ak.new O;have g:η H b (.tup (jU t)) b=15#(jU t):=aa;have c:=S.same j;show eY (λi _ _ _ e D h=>?_) c.ob
  cases e;show 14#(b9 p _ i _ _ rl D T.aM T.rZ zc (ae _ rl (aV p i _ rl D 102#0 (pA p d q n f m W (au y rl c λl o G h r u I=>?_)))))
  have c:=I.length;rw[χ]at c;show(ai rl 17#(λM U=>?_))
  have h:ak G (η G M (.lst [.ref b])):=ak.new U;show bu l M o [.ref b] rl rl 42#(h _ _ u) (aI.of aa) ⟨bN (by change o.length+1<=24;lia),λv x=>?_⟩
  have c:=h.trans (ak.new (o:=.lst (o++[.ref b])) x);have l:=(s.put E A).pZ S.p1 S.p2;rw[j!]at l;show bu n v (o++[.ref b]) _ rl (.inl aa) (Paired.snoc (151#77#c.tups) (ae b rl (c _ _ (r _ _ g)))) l λy h u x=>?_
  have y:=((j.trans r).trans c).trans u;have J:=S.same y;have j:=u _ _ (c _ _ (r _ _ g));show eY (λi _ _ _ e g o=>?_) J.ob
  cases e;show af (λv c G=>?_) J.dn
  show aA (λL Z R l=>?_) (o.put s.fresh j)
  have o:=bL g Z 12#0
  have F:=bL g c 12#0
  have D:=bL Z c 12#0
  show 14#(b9 p _ i _ _ rl g T.aM T.f6 PU ?_);show(0#(b9 p _ i _ _ rl g T.aM T.bY lj (ae _ rl (aq d _ rl (AO.k (k:=kN f) Z (D4 (by lia))) ?_))))
  have j:η h d (.dK (putK L (kN f) (.ref b))) p=some 170#(iY n d f q):=by rw[ao o];show g
  show 14#(cU 28#(bu p _ i _ rl j T.aM T.f6 ⟨(by change 4<1000;decide),?_⟩))
  have j:eG "next_name" (.int (f+1)) (iY n d f q)=iY n d (f+1) q:=zb n d f (f+1) q;have x:η (η h d (.dK (putK L (kN f) (.ref b)))) p 170#(eG "next_name" (.int (f+1)) (iY n d f q)) p=some 170#(iY n d (f+1) q):=by rw[aa,j]
  have j:η (η h d (.dK (putK L (kN f) (.ref b)))) p 170#(eG "next_name" (.int (f+1)) (iY n d f q)) q=some (.lst v):=by rw[ao (e! F),ao (e! D)];show c
  have B:η (η h d (.dK (putK L (kN f) (.ref b)))) p 170#(eG "next_name" (.int (f+1)) (iY n d f q)) d=some (.dK (putK L (kN f) (.ref b))):=by rw[ao (e! o),aa]
  have s:cK h (η (η h d (.dK (putK L (kN f) (.ref b)))) p 170#(eG "next_name" (.int (f+1)) (iY n d f q))):=λc o e=>by
   rwa [ao (bL e g 12#0),ao (bL e Z 12#0)]
  have C:∀c o,h c=some o->c≠p->c≠d->c≠q->η (η h d (.dK (putK L (kN f) (.ref b)))) p 170#(eG "next_name" (.int (f+1)) (iY n d f q)) c=some o:=λc o e Z R _=>by
   rwa [ao Z,ao R]
  generalize η (η h d (.dK (putK L (kN f) (.ref b)))) p 170#(eG "next_name" (.int (f+1)) (iY n d f q))=g at x j B s C;show(ai rfl (b9 p _ i _ _ rfl x T.aM T.jG qt ⟨.inl (cD rfl _ (aI.of j)),ai rfl 17#(λu b=>?_)⟩))
  have r:ak g (η g u (.tup [.int f,.eM])):=ak.new b;have b:=G.length;rw[adK]at b;show cg q v _ rl rl (r _ _ j) (eA (by lia)) 156#0
  have b:cK g (η (η g u (.tup [.int f,.eM])) q 69#(v++[.ref u])):=r.tups.trans (cK.put (r _ _ j));show k _ ⟨(y.tups.trans s).trans b,λc o e Z R l=>?_⟩ ⟨.put S.ch E A,S.p1,S.p2,gR i (f+1) (aq (m++[(f,t)]) _ rl ?_ ?_),v++[.ref u],aa,?_⟩
  .rw[ao l];show r _ _ (C c o (y _ _ e) Z R l)
  .rw[ao F];show r _ _ x
  .show l _ _ (s.trans b) ?_ (.refl _);rw[ao D];show r _ _ B
  .rw[adP];show Paired.snoc (Paired.imp' 77#(s.trans b) G) (ae u rl (cK.put (r _ _ j) _ _ aa))
def tR(T:104#a):OQ T T.lT 1 (Oe a.aJ):=by
 show 145#T.lT.ok
 .revert h;show fy λp d q=>gb λn f m W=>bO λy x t b S B c k=>?_;subst b
  show ae _ (ah (bD (Lx (JN (by show qe C) bx (fj K aT))) dG aO)
   (aj (bX (qv K (eH O! V! W! cJ (fj K aT) (bH (bV (bM bx (CI (fj K aT) bx ⟨rfl,rfl,rfl,rfl⟩))))))))) ?_
  show di ?_;intro Y b;have j:=S.ch.ok;show eY (λi _ _ _ e M J=>?_) S.ob
  cases e;show af (λv D O=>?_) S.dn
  show aY (λL b Z R l A=>?_) (J.pop j B)
  have I:=bL M Z 12#0
  have C:=bL M D 12#0
  have y:=bL Z D 12#0
  show(0#(b9 p _ i _ _ rl M T.aM T.bY lj (aq d _ rl (by have z:=vj.k (k:=kN x) Z;rw[R]at z;show z) 156#0)))
  show cy ?_;have s:η H d (.dK (cG L (kN x))) p=some 170#(iY n d f q):=by rw[ao I];show M
  have h:η H d (.dK (cG L (kN x))) q=some (.lst v):=by rw[ao (e! y)];show D
  have g:η H d (.dK (cG L (kN x))) b=15#(jU t):=by rw[ao (bL l Z 12#0)];show l
  have j:η H d (.dK (cG L (kN x))) d=some (.dK (cG L (kN x))):=aa;have G:cK H (η H d (.dK (cG L (kN x)))):=λc n e=>by
   rwa [ao (bL e Z 12#0)]
  have n:∀c o,H c=some o->c≠p->c≠d->c≠q->η H d (.dK (cG L (kN x))) c=some o:=λc o e _ R _=>by
   rwa [ao R]
  show 14#(b9 p _ i _ _ rl M T.aM T.jG qt ⟨.inl (116#D),0#(b9 p _ i _ _ rl M T.aM T.bY lj (au d rl (.inl ⟨_,.inl Z⟩) 28#(aV L (kN x) (.ref b) Z rl R ?_)))⟩);generalize η H d (.dK (cG L (kN x)))=N at s h g j G n;show 17#(λu d=>?_)
  have r:ak N (η N u (.tup [.int x,.ref b])):=ak.new d;have d:=O.length;rw[adK]at d;show cg q v _ rl rl (r _ _ h) (eA (by lia)) ?_
  have U:cK N (η (η N u (.tup [.int x,.ref b])) q 69#(v++[.ref u])):=r.tups.trans (cK.put (r _ _ h));show k _ ⟨G.trans U,λc o e Z R l=>?_⟩ ⟨.drop S.ch B,S.p1,S.p2,gR i f (aq (without x m) _ rl ?_ ?_),v++[.ref u],aa,?_⟩
  .rw[ao l];show r _ _ (n c o e Z R l)
  .rw[ao C];show r _ _ s
  .show A _ (G.trans U) ?_;rw[ao y];show r _ _ j
  .rw[adP];show Paired.snoc (Paired.imp' 77#(G.trans U) O) (aq u b rl (cK.put (r _ _ h) _ _ aa) (U _ _ g))
def tS(T:104#a):OQ T T.lU 1 (Of a.aJ):=by
 show 145#T.lU.ok
 .revert h;show gb λp d q n=>dO λj s2 W e ds Gu S k=>?_;subst Gu
  show ae _ (ah (bD (aF dP (37#(fj K aT)) av (aG _)) dG aO)
   (ah (bQ 1 X.nd (X0 K (E6 O! PySem.F.slot_list_pop PySem.F.type_list_pop Sl (fj K aT))))
   (aj (bD (aF iL (dS K bx) c7 (aG _)) (ah (bX (CI (fj K aT) (dS K bx) ⟨rfl,rfl,rfl,rfl⟩))
   (aj (rz aT (dS K bx) rl))) (aj (AR (by show qe C) (fj K aT) (dS K bx) (dS K bx) rl)))))) ?_
  show rY ?_;intro Y Qu W5 V6 UJ B;show eY (λi f m _ U M J=>?_) S.ob
  cases U;show af (λv D pd=>?_) S.dn
  rw[adP]at pd;show aD (λys' y Gv pd' hy=>?_) (SW pd);subst Gv
  show af (λabF hd0 V7=>?_) J.len
  have Yw:=bL M hd0 12#0
  have ZT:=bL M D 12#0
  have Yx:=bL hd0 D 12#0
  show 14#(b9 p _ i _ _ rl M T.aM T.jG qt (ly rl (93#D) 3#(gO (λz=>by have z:=V.int.inj z;rw[i!]at z;simp at z;lia) ?_)))
  show 14#(b9 p _ i _ _ rl M T.aM T.jG qt ⟨.inl (116#D),(cg q _ y rl rl D 22#0 ?_)⟩)
  rw[List.dropLast_concat];have V8:η H q (.lst ys') p=some 170#(iY n d f q):=by rw[ao ZT];show M
  have hq1:η H q (.lst ys') q=4#ys':=aa;have G:cK H (η H q (.lst ys')):=cK.put D;have x:∀c o,H c=some o->c≠p->c≠d->c≠q->η H q (.lst ys') c=some o:=λc o e _ _ h3=>by
   rwa [ao h3]
  have hd1:=J.keep G (by rw[ao Yx])
  generalize η H q (.lst ys')=N at V8 hq1 G x hd1;have ZU:=hy.tups G;have ZV:=Paired.imp' 77#G pd'
  cases S.ch with
  | put c g hl =>
    revert ZU;show af λb Og O=>?_;subst Og
    rename_i t m0 I
    show 14#(cL (aZ.of O) g5 3#(eI ?_));show aY (λL bt Z R h3 h4=>?_) (hd1.pop (c.ok.put g hl) (jd _ g!))
    show 14#(b9 p _ i _ _ rl V8 T.aM T.bY lj (au d rl (.inl ⟨_,.inl Z⟩) 28#(cL (aZ.of O) gj (aV L (kN t) (.ref bt) Z rl R ?_))));have hp2:η N d (.dK (cG L (kN t))) p=some 170#(iY n d (t+1) q):=by rw[ao Yw];show V8
    have UK:η N d (.dK (cG L (kN t))) b=15#([.int t,.eM]):=by rw[ao (bL O Z 12#0)];show O
    show 14#(cL (aZ.of UK) gj 28#(bu p _ i _ rl hp2 T.aM T.f6 ⟨(by change 4<1000;decide),?_⟩))
    have t3:cK N (η (η N d (.dK (cG L (kN t)))) p 170#(eG "next_name" (.int t) (iY n d (t+1) q))):=λc u e=>by
     rwa [ao (bL e V8 12#0),ao (bL e Z 12#0)]
    show k _ ⟨G.trans t3,λc o e g1 r g3=>?_⟩ ⟨c,S.p1,S.p2,gR i t (aq m0 _ rl (Eq.trans aa (k! (λl=>some (HO.ins a.aJ i l)) (zb n d (t+1) t q))) ?_),ys',?_,Paired.imp' 77#t3 ZV⟩
    .rw[ao g1,ao r];show x c o e g1 r g3
    .have z:=h4 _ t3 (by rw[ao (e! Yw),aa])
     rw[CK c.ok.fresh]at z;show z
    .rwa [ao (e! ZT),ao (e! Yx)]
  | drop c hm =>
    revert ZU;show aD λb bt NY O hbt=>?_;subst NY
    rename_i m0 x0 I
    show 14#(cL (aZ.of O) g5 3#(gO 121#0 ?_))
    show aA (λL Z R h3=>?_) (hd1.put (n:=x0) (λz=>by
     show af (λe he q=>?_) (U'.mp z)
     have:=(K!.mp he).2;simp[q]at this) hbt)
    show 14#(cL (aZ.of O) g5 28#(b9 p _ i _ _ rl V8 T.aM T.bY lj (ae _ rl (cL (aZ.of O) gj (aq d _ rl (AO.k (k:=kN x0) Z (D4 (by rw[R];show(c.ok.drop x0).few))) ?_)))))
    have t3:cK N (η N d (.dK (putK L (kN x0) (.ref bt)))):=λc u e=>by
     rwa [ao (bL e Z 12#0)]
    show k _ ⟨G.trans t3,λc o e g1 r g3=>?_⟩ ⟨c,S.p1,S.p2,gR i f (aq m0 _ rl ?_ ?_),ys',?_,Paired.imp' 77#t3 ZV⟩
    .rw[ao r];show x c o e g1 r g3
    .rwa [ao Yw]
    .show h3 _ _ t3 aa (perm_back c.ok.nodup hm)
    .rwa [ao (e! Yx)]
def BD(C t1 S:Addr)(c e:Pos):Sp:=λF H Q _=>∃p d q n f m W y,∃g:aC n (m.map (·.2)),F=[.ref p]/\jv C H p d q n ((f,m)::W) y/\H t1=62#(dU (gB "least_ways") c)/\H S=62#(dU (gB "by_length") e)/\
 ∀b ys (tr:List TX) H',ak H H'->H' b=15#ys->Paired (x6 H') ys tr->RM.LB g.N (bW (m.map (·.2))) (tr.map (·.1))->(tr.map (·.1)).Pairwise (iH (m.map (·.2)))->MarksOf g.N (tr.map (·.1)) (tr.map (·.2.1))->(∀t∈tr,OO n t.2.2/\qz n (m.map (·.2)) g t.2.1 t.2.2)->Q (.ref b) H'
def tT(C t1 S:Addr)(c e:Pos):Sp:=λF H Q _=>∃p d q n f m W a,∃g:aC n (m.map (·.2)),F=[.ref p]/\jv C H p d q n ((f,m)::W) a/\H t1=62#(dU (gB "least_ways") c)/\H S=62#(dU (gB "by_length") e)/\
 ∀D y Y,H D=none->ak H Y->Y D=some (.lst ((y.map (J' (m.map (·.2)))).map V.int))->RM.LB g.N (bW (m.map (·.2))) y->y.Pairwise (iH (m.map (·.2)))->Q (.ref D) Y
def oh(T:104#a):OQ T T.iS 12 (BD a.aJ a.aR a.bT aN bK):=by
 show 145#T.iS.ok
 .revert h;show gb λp d q n=>gb λf m W y=>eg λg=>iI λu S l U k=>?_;subst u
  show 56#(ay (aB (qT T) C (bH (208#gC))));show eY (λi _ _ _ e M J=>?_) S.ob
  cases e;show 14#(aV p i _ rl M 102#0 (pA p d q n f m W (au y rl S λr N j o=>?_)))
  show eE r n _ ⟨g,(dD rl o (j _ _ l) (j _ _ U) λb v z G _ x O I c Y t Z=>k b v z G (j.trans x) O I c Y t Z)⟩
def g9(T:104#a):OQ T T.g8 12 (tT a.aJ a.aR a.bT aN bK):=by
 show 145#T.g8.ok
 .revert h;show gb λp d q n=>gb λf m W b=>eg λg=>iI λr S l U k=>?_;subst r
  show 56#(ay (aB (z6 T) C (bH (208#gC))));show eY (λi _ _ _ e M J=>?_) S.ob
  cases e;show 14#(aV p i _ rl M 102#0 (pA p d q n f m W (au b rl S λx N j o=>?_)))
  show eE x n _ ⟨g,(dD rl o (j _ _ l) (j _ _ U) λD y G c v t u Y=>k D y G (j.free c) (j.trans v) t u Y)⟩
def Oh(C:Addr)(f:Str):Sp:=84#(∃x u v,F=[.ref x,u,v]/\H x=some (tH x (.ref C) none)/\∀d,H d=none->d≠x->Q .eM (η (η H x (tH x (.ref C) (some d))) d (.xd [(f,v)])))
def x9(b:Addr):Sp:=λF H Q E=>∃w p J,∃g:aC p J,∃S,125#S/\79#0/\oY J S λm =>
 (g.N.eR m->50#.eM)/\∀(f:Nat) d Y,ak H Y->(mD p J (m:Int))[0]?=some f->Y d=some (.xd [("point",.int f)])->E (.ref b) (some d) Y
def wO(T:104#a):iM P w K mg base rA 1 a.jn a.jo ["self","words","point"] (Oh a.eB "point"):=by
 show T.wo.ok tN (λF H Q E h=>?_) (λ_ A _ s H F Q E C h=>?_)
 .revert h;show cQ λx u v f _=>?_;subst f
  rfl
 .revert h;show eu λx u v r B q=>?_;subst r
  show ae _ (ah (bX (MS T.ir T.sZ (by rfl) T.DG (bM aT bx)))
   (aj (P0 T.ir aT cA))) ?_
  show fE ?_;intro Y;show(0#(aV x none [u] rl (dl rl) B (λG U=>?_)))
  rw[SY B]at U;subst U;show(0#(au x rl B (λd J n=>q d J n)))
def BE:ZK T T.qL 6 (x9 a.eB):=by
 show 1#T.qL.WR
 .revert h;show fy λv p J=>aD λg S t L q=>?_;subst t
  show ae _ (ah 167#(39#qS)
   (aj (bD (aF (pF K C.units) cA (bJ dY) (aG _)) (aj (JS L8 rl (by rfl) T.zV T.ir T.sZ (wO T) (C.mono 7#0) T.wq (bM bg (sN K cA)))) aO))) ?_
  show xP ?_;intro b c;show(0#⟨v,(aV p J S rl L g.pZ ?_)⟩)
  revert q;show gE λm W y q M=>?_;subst W
  show au m rl y λD N j I=>(ai rl 17#(λl P=>?_))
  show fresh (η N l _) rl P λG i U=>?_
  have w:ak H G:=j.trans i;have k:G D=4#(aE (mD p J m)):=i _ _ I;show cI _ _ (.lst (aI.of k) (gp _)) (.lst (aI.of U) .nil) (eL _) rl 156#0;rw[HV]
  by_cases Y:mD p J m=[]
  .rw[e8 Y];show cy (q ((qn g y).mp Y) _ w)
  .rw[gm Y];obtain⟨f,u⟩:∃f,(mD p J m)[0]?=some f:=by
    cases e:mD p J m with
    | nil=>show absurd e Y
    | cons x r=>show⟨x,rfl⟩
   show eI 14#(fO (aI.of k) (aH (nI u)) 17#(λx B=>⟨x,(aq _ _ rl aa λd e n=>bR rl (some d) ?_ ?_)⟩))
   .rw[ao (e! n),aa]
   .show M f d _ (λb o O=>?_) u ?_
    .have c:=w b o O;have Z:=bj c B;have R:b≠d:=λz=>by rw[z]at c;rw[ao n]at e;rw[e]at c;cases c
     rwa [lA Z,ao R,ao Z,ao Z]
    .rw[lA n,aa]
def KW:Sp:=38#(∃S,∃m x t:Nat,F=[.ref w,.int S,.int x]/\S=(m:Int)/\79#0/\m<53#0/\(g.N.pM m x)[0]?=some t/\50#(.int t))
def GK:Sp:=38#(∃t x:Nat,F=[.ref w,.int t,.int x]/\79#0/\t<J.length/\Q (.int 18#(g.N.SX t x)) H)
def wQ:Sp:=λF H Q _=>∃w p J,∃g:aC p J,∃S,∃m:Nat,125#S/\S=(m:Int)/\79#0/\m<53#0/\g.N.eR m/\m≠0/\
 ∀(r:Nat) H',ak H H'->r≠0->g.N.eR r->r<53#0->(∀k,183#0=true->10#0=true)->Q (.int r) H'
def KY(b:Addr):Sp:=λF H Q E=>∃w p J,∃g:aC p J,∃S,125#S/\79#0/\oY J S λm =>
 (g.N.eR m->∀D H' (ls:List Nat),ak H H'->H' D=4#(aE ls)->ls.length<=24->(∀r∈ls,r<53#0)->Q (.ref D) H')/\
 ∀(f:Nat) d H',ak H H'->(mD p J (m:Int))[0]?=some f->H' d=some (.xd [("point",.int f)])->E (.ref b) (some d) H'
def QF(u v z):jt [u,v,z] none (some 2)=[u,v]:=rfl
def TY(x u v:Nat):Sj (.int x) [.int u,.int v]=13#(u=x\/v=x):=by
 have e:([.int (u:Int),.int (v:Int)])=aE [u,v]:=rfl;rw[e,mK];show M?.mpr ?_;simp[eq_comm]
def KZ{g:aC p J}{m x:Nat}(d:m<53#0):(aW (m:Int)).filter (λt=>13#(g.N.a t=x\/g.N.b t=x))=g.N.pM m x:=by
 rw[eK d,List.filter_filter];show _M λk _=>?_
 rw[Bool.and_comm,Bool.decide_or]
def Oi:Ok T T.DA 3 KW:=by
 show T.DA.ok λ_ A _ s H F Q E X a h=>?_
 .revert h;show fy λv p J=>dO λg S m x I b r=>jM λo d e q=>?_;subst b r
  show 56#(ay (sN K (bI (own:=["tie"]) (js:=[0,2]) (c9 X) rfl (lY K (aB (fF T) a (bH bx))) 6#(88#(["tie","web","point"])) 6#(gx (aF (Vo K) cA (fC (slT K) (b8 (B0 K) (dS K bx) aT) gv (gw av)) 100#0)) (λ_ _ _ _=>aT))))
  show 165#(λa b Z R l=>?_)
  have a:=l.length;have L:=g.len;have B:=bits_le d;show 14#(au m rl (by lia) (λD N P j U=>au D rl 24#U λC a=>bA (rJ (λt=>13#(g.N.a t=x\/g.N.b t=x)) (aW m) N C) (.start a) (λi M G _ f=>⟨aI.of (f.1 _ _ U),f.len⟩) ?_ ?_ ?_))
  .rw[az];show bN (b! (M! _ _) ?_);rw[C!]
   lia
  .intro i y M G W f;show af (λt n b=>?_) (ck W);subst b
   have k:=gy d (fP n);obtain⟨b,c,Y⟩:=vp l k;have w:=j.trans f.1;show 34#0#(cL 91#(w _ _ Z) g5 14#(cL 91#(w _ _ R) (aH c) (?_)));show 14#(bC b _ rl 91#(w _ _ Y) (λz=>absurd (show HT.fX 3 3 (some 2)=3 from z.2) 7#0) (λu c=>?_))
   rw[QF];show(ly rl (.inr (aZ.of aa)) (bF rl rl 156#0));rw[TY];cases O:13#(g.N.a t=x\/g.N.b t=x) with
   | true=>show(ai rfl (f.yes a (ak.new c) n O))
   | false=>show f.no (ak.new c) n O
  .intro M G f;rw[az]at f;have O:=f.fin;rw[KZ d]at O;show(fO (aI.of O) (aH (nI e)) (q G (j.trans f.1)))
def K0:Ok T T.zI 1 GK:=by
 show 1#T.zI.ok
 .revert h;show fy λv p J=>eg λg=>aY λt x a o n q=>?_;subst a
  show ae _ (ah 187#(b8 (B0 K) 191#0 bx)
   (aj (ay (iA (aF dP (dS K e9) cA (aG _)) (dS K e9) (dS K e9))))) ?_
  show fE ?_;intro Y;show 165#(λz f Z R l=>?_)
  obtain⟨b,c,m⟩:=vp l n;show 14#(222#28#(cL (aZ.of R) (aH c) (?_)));show 14#(cL (aZ.of m) gj (ai rl 3#(?_)));rw[k7];unfold RM.Net.SX at q
  by_cases e:g.N.a t=x
  .rw[ο e]at q;rw[e8 e];show eI 14#(cL (aZ.of m) g5 (q))
  .rw[ξ e]at q;rw[gm e];show cy 14#(cL (aZ.of m) gj (q))
def yb:Ok T T.oB 4 wQ:=by
 show 1#T.oB.ok
 .revert h;show fy λs p J=>cQ λg S m a=>eV λc o d W b q=>?_;subst a c
  show ae _ (ah 167#(bJ (bH (dS K (b8 (B0 K) 191#0 (sN K (aB (fF T) C (bH bx)))))))
   (ah 187#(bJ dY)
   (ah (bQ 4 X.nd bx)
   (ah (p9 PassesOwn.never (aF dP (qv K (eH O! PySem.F.slot_list_count PySem.F.type_list_count Mb cA (bH (b8 (iP K) cA (sA mw av))))) av (aG _)) (ah (bQ 5 X.nd (aB (Oi T) C (bq aT (bM h8 (b8 (iP K) cA (sA mw av))))))
   (ah (bX (qv K (eH O! V! W! cJ e9 (bH nT))))
   (ah (bX (qv K (eH O! V! W! cJ cA (bH (aB (K0 T) C (bq aT (bM nT (b8 (iP K) cA (sA mw av)))))))))
   (aj (rm (i:=4) X.nd rl (Or.inl rl) (aP je av nT) t6))))))
   (aj (ay (aB (wG T) C (bM aT (fC (Pc K) e9 (gw (qv K (eH O! PySem.F.slot_list_index PySem.F.type_list_index Mc cA (bH (b8 (iP K) cA (sA mw av)))))) gv))))))))) ?_
  show vU ?_;intro a c L e f h x i;show 165#(λz f Z R l=>?_)
  have a:=g.len;have a:=g.p2;have a:=bits_le d;show af (λc e a=>?_) (pT b)
  have i:((19#g.N.n).filter λk=>10#0)[0]?=some c:=by change((19#J.length).filter _)[0]?=some c;rw[<-eK d];show e
  have f:=RM.eX d a;obtain⟨b,n,h⟩:=vp l f;show 14#(222#28#(au m rl (by lia) (λD N l j f=>(fO (aI.of f) (aH (nI e)) (cL 91#(j _ _ R) (aH n) (cL 91#(j _ _ h) gj 17#(λb a=>?_)))))))
  show fresh (η N b _) rl a λG e f=>?_
  have w:ak H G:=j.trans e;have e:G b=4#(aE ([]++[g.N.a c])):=f;have z:=j.free a;show 17#(λr a=>?_)
  have x:=w.free a;have j:=e! (bj e a);have O:ak H (η G r (.lst [])):=w.trans (ak.new a);have f:η G r (.lst []) b=4#(aE ([]++[g.N.a c])):=by rw[ao (e! j)];show e
  have h:η G r (.lst []) r=4#(aE []):=aa;generalize η G r (.lst [])=a at O f h;show(ai rl ⟨λk U a=>∃y v M left e,U=[some (.ref s),some (.int m),162#0,some (.ref r),54#((left:Nat)),e]/\ak H a/\a b=4#(aE (y++[v]))/\a r=4#(aE M)/\RM.Wn g.N m y v M left/\k=p+1-y.length,⟨p+1,(b9 [] (g.N.a c) [] m none rl O f h (RM.Wn.start i) rl)⟩,?_⟩)
  intro k U a;show dO λy v M left e P h=>jM λc w u f=>?_;subst P f
  have f:=RM.MT d W u;have a:=f.w.len;show(ai rl ⟨.inl (116#c),0#(fO (aI.of c) (ug y v) (aV b _ _ rl rl c (e7 rl (i7 _) rl 156#0)))⟩);rw[FA,JK]
  by_cases a:v∉y
  .rw[e8 a];have i:=f.few a;have l:g.N.p=p:=rfl;rw[l]at i;show eI ⟨λU I=>∃Y v M left e,U=[some (.ref s),some (.int m),162#0,some (.ref r),54#((left:Nat)),e]/\ak H I/\I b=4#(aE (Y++[v]))/\I r=4#(aE M)/\RM.Wn g.N m Y v M left/\Y.length=y.length+1,λU I=>dO λY v M left e l n=>jM λt i A B=>ae (p+1-Y.length) (by lia) (b9 Y v M left e l n t i A rl),?_⟩
   obtain⟨t,i⟩:=RM.VJ d W u a;show cW (λ_ n B=>?_) (RM.pN.mp (fP i))
   show(0#14#(ai rl (fO (aI.of c) (ug y v) (eE s p J (b9 g _ left v t rl rl (o.same h) f.AM i λI d=>?_)))))
   have A:t<J.length:=RM.eX f.AM n;have m:=d _ _ c;have e:=d _ _ w;show(ai rl ⟨.inl (116#e),ai rl (cg r _ _ rl rl e (jh (by rw[az];lia)) ?_)⟩)
   have l:ak H (η I r 69#(aE M++[.int t])):=(h.trans d).put x;have e:η I r 69#(aE M++[.int t]) b=4#(aE (y++[v])):=by rw[ao (e! j)];show m
   have m:η I r 69#(aE M++[.int t]) r=4#(aE (M++[t])):=by rw[aa,cH]
   generalize η I r 69#(aE M++[.int t])=d at l e m;show(ai rl ⟨.inl (116#e),0#14#(ai rl (fO (aI.of e) (ug y v) (eE s p J (aV g t v rl (o.same l) A (cg b _ _ rl rl e (jh (by rw[az,i!];simp;lia)) ?_)))))⟩)
   have x:=RM.Wn.next u a i;generalize g.N.SX t v=u at x;have n:ak H (η d b 69#(aE (y++[v])++[.int u])):=l.put z;have e:η d b 69#(aE (y++[v])++[.int u]) b=4#(aE (y++[v]++[u])):=by rw[aa,cH (y++[v]) u]
   have i:η d b 69#(aE (y++[v])++[.int u]) r=4#(aE (M++[t])):=by rw[ao j];show m
   generalize η d b 69#(aE (y++[v])++[.int u])=j at n e i;show(0#(207#(b9 (y++[v]) u (M++[t]) (left^^^2^t) (some (.int t)) ?_ n e i x 22#0)))
   change[_,_,_,_,some (V.int (Builtin.bitXor _ (1*2^(t:Int).toNat))),_]=_;rw[k6,xor_int]
  .rw[gm a];show cy ?_;have a:=Classical.not_not.mp a;show af (λi I n=>?_) (Mz a f.nd)
   have a:=(iJ.mp I).1;show(0#(ai rl ⟨.inl (116#c),ai rl 14#(fO (aI.of c) (ug y v) (bu b _ _ i rl rl c rl ⟨i7 _,(aX (by rw[az,i!];simp;lia) n _ rl (aq r _ rl (aI.of w) λB t=>?_))⟩))⟩))
   rw[CD M (by lia)]
   show jM (λa b c u=>?_) (f.closes I)
   show b9 s p J B (M.drop i) rl (o.same (h.trans (ak.new t))) g.pZ aa (λk Y=>f.w.lt k (adE Y)) (q _ _ (h.trans (ak.new t)) a b c u)
def Oj:ZK T T.DB 7 (KY a.eB):=by
 show T.DB.WR λ_ A _ s H b Q E X C h=>?_
 .revert h;show fy λv p J=>aD λg S f o q=>?_;subst f
  show ae _ (ah (bX (RC (BE T) C L8.passes (bM aT bx)))
   (ah 167#(bJ dY)
   (ah 187#bx
   (ah (p9 PassesOwn.leaving (aF j3 e9 av (aG _)) (ah (bQ 4 X.nd (aB (yb T) C (bM aT e9)))
   (ah (bX (qv K (eH O! V! W! cJ cA (bH h8))))
   (aj (rm (i:=3) X.nd rl (Or.inl rl) h8 t6)))))
   (aj (ay (cS (sortedK K) (by rfl) T.wu PyProof.Rows.boot_sorted (bH cA)))))))) ?_
  show Kv ?_;intro Y c L d b e f;have r:=g.len;show(0#(168#(aq g S rl o ?_)))
  revert q;show gE λm b d q R=>?_;subst b
  show cP m rl d (λf c j=>17#(λF b=>?_)) R
  have s:=j.free b;show fresh (η c F _) rl b λG k e=>?_
  have w:ak H G:=j.trans k;have j:G F=4#(aE []):=e;have l:RM.cnt (λk=>10#0) g.N.n<=24:=by
   rw[<-vc (n:=g.N.n) d,eK d];show b! (M! ..) (by rw[C!];show r)
  show(ai rl ⟨λk U c=>∃b left e,U=[some (.ref v),some (.int m),some (.ref F),54#((left:Nat)),e]/\ak H c/\c F=4#(aE b)/\left<53#0/\g.N.eR left/\(∀r∈b,r<53#0)/\b.length+k<=24/\RM.cnt (λk=>216#k) g.N.n=k,bu _ [] m none rl w j d (e7 f (λ_ h=>nomatch h) (by rw[j_,adR];show l) rl),?_⟩)
  intro k U c;show eu λb left e h Z=>eV λO P d D l j=>?_;subst h j
  show 14#(cU 28#(pD (λz=>?_) (λ_=>?_)))
  .have z:=nB z;show⟨λU I=>∃b y e,U=[some (.ref v),some (.int m),some (.ref F),54#((y:Nat)),e]/\ak H I/\I F=4#(aE b)/\y<53#0/\g.N.eR y/\(∀r∈b,r<53#0)/\b.length+RM.cnt (λk=>y.testBit k) g.N.n<=24/\RM.cnt (λk=>y.testBit k) g.N.n<RM.cnt (λk=>216#k) g.N.n,λU I=>eu λb y e u c=>eV λt h j W l w=>ae _ w (aV b y e u c t (dD h j W l rl)),?_⟩
   show(0#(168#(aV g _ left rl rl (o.same Z) (e7 P d (by lia) λr I c M h e j=>?_))))
   have l:=c _ _ O;have k:=RM.NU (N:=g.N) M e j;show(ai rl ⟨.inl (116#l),ai rl (cg F _ _ rl rl l (jh (by rw[az];lia)) ?_)⟩)
   show(0#(cU (aV (b++[r]) (left^^^r) (some (.int r)) ?_ ((Z.trans c).put s) (by rw[aa,cH]) (dD (T! P e) (RM.eR.xor d h) (λx B=>?_) (by rw[i!,X!];lia) k))))
   .change[_,_,_,some (V.int (Builtin.bitXor _ _)),_]=_;rw[xor_int]
   .rcases D!.mp B with B|B
    .show D x B
    .rwa [q!.mp B]
  .show 14#(bC F (b.map λx=>((x:Nat))) rl (aI.of (by rw[O,k8])) (by rw[χ];lia) (λl u P M _=>?_))
   obtain⟨t,rfl⟩:=N7 λx B=>by
    show af (λy _ e=>?_) (U'.mp (M.mem_iff.mp B));subst e
    show _H y
   show q f l _ t (Z.trans (ak.new P)) (by rw[k8];show aa) ?_ λr C=>?_
   .have:=M.length_eq;rw[χ,χ]at this
    lia
   .show af (λy W e=>?_) (U'.mp (M.mem_iff.mp (U'.mpr (ae r C rl))))
    have:y=r:=by lia
    show this▸D y W
def qU(t:fN):List Nat:=[t.1.toNat,t.2.1.toNat,t.2.2.toNat]
def Ol(g:iW p t):aE (qU t)=jU t:=by
 have Z:=z_ g.a0;have R:=z_ g.b0;have l:=z_ (M_ 7#0 g.l0)
 change[V.int _,.int _,.int _]=[V.int t.1,.int t.2.1,.int t.2.2];rw[Z,R,l]
def qV(M:p<=10)(g:iW p t):∀n∈qU t,n<10^60:=λn a=>by
 have j:10^60=1000000000000000000000000000000000000000000000000000000000000:=by decide
 have Z:=g.a1;have R:=g.b1;have l:=g.l1;rw[j];rcases Z'.mp a with e|a
 .lia
 rcases Z'.mp a with e|a
 .lia
 rcases Z'.mp a with e|a
 .lia
 .cases a
def nV(h:n<10^60):((n:Nat):Int).natAbs.log2<1920:=by
 rw[Int.natAbs_natCast]
 by_cases e:n=0
 .rw[e];decide
 .show(p_ e).mpr (O? h 7#0)
def lK{b:Str}(t:∀y∈d,y.length<=B)(h:d.length*B+d.length*b.length<=16777216):PySem.JoinOk b d=true:=by
 unfold PySem.JoinOk;rw[PySem.StrLaws.joinFits t h];rfl
def gD(word:Str)(ns:List Nat):Str:=Txt.join " " (word::ns.map Tx.cz)
def K1(p:Nat)(J:List fN):Str:=Txt.join "\n" (gD "points" [p]::J.map λt=>gD "tie" (qU t))
def Lq:V->Str
 | .int z=>Tx.g4 z
 | .str t=>t
 | _=>""
def RJ(x:V):Prop:=(∃z:Int,x = .int z/\z.natAbs.log2<1920)\/∃t,x = .str t/\t.length<=600
def se(word:Str)(xs:List V):Str:=Txt.join " " (word::xs.map Lq)
def nL{n:Nat}(h:n.log2<1920):29#(Tx.cz n)<=599:=by
 show Tx.d7 7#0 ?_
 by_cases e:n=0
 .rw[e];show Nat.pow_pos 7#0
 .show O? ((p_ e).mp h) (2#0)
def AX{z:Int}(h:z.natAbs.log2<1920):29#(Tx.g4 z)<=600:=by
 by_cases e:0<=z
 .rw[Tx.qx e];show b! (nL (by rw[95#(z.toNat=z.natAbs)];show h)) 7#0
 .have g:=nL (n:=(-z).toNat) (by rw[show(-z).toNat=z.natAbs by lia];show h)
  have P:=Tx.M0 z (by lia)
  have t:∀x:Str,x.cps.toList.length=x.length:=λx=>200#0
  rw[t,t]at P
  lia
def Om(h:RJ x):(Lq x).length<=600:=by
 rcases h with⟨z,rfl,h⟩|⟨t,rfl,h⟩
 .show AX h
 .show h
def TZ(n:Nat):Lq (.int n)=Tx.cz n:=Tx.qx (_H n)
def nu(word)(ns):se word (aE ns)=gD word ns:=by
 unfold se gD aE;rw[L!];show k! (λl=>Txt.join " " (word::l)) (X_ λn _=>TZ n)
def qW(h:∀n∈ns,n<10^60):∀y∈aE ns,RJ y:=λy W=>by
 show 109#(λn g f=>?_);subst f
 show .inl 14#(nV (h n g))
theorem z7:∀{l},(∀p∈l,p.length<=B)->29#(Tx.mR c l)<=l.length*(B+1)
 | [],_=>r! _
 | [p],h=>by
   have:=h p g!;change p.length<=1*(B+1)
   lia
 | p::q::r,h=>by
   have Z:=h p g!;have R:=z7 (c:=c) λx a=>h x (jx _ a)
   change 29#(p++c::Tx.mR c (q::r))<=((q::r).length+1)*(B+1);rw[i!,y!,Nat.succ_mul]
   lia
def qX(h:∀s∈d,s.length<=B):29#(Txt.join ⟨#[c]⟩ d)<=d.length*(B+1):=by
 have t:∀x:Str,x.cps.toList.length=x.length:=λx=>200#0
 rw[show Txt.join ⟨#[c]⟩ d=Str.join ⟨#[c]⟩ d from H? _ _,<-t,Tx.fQ]
 show b! (z7 λp M=>?_) (by rw[χ];show Ξ _)
 show af (λs W r=>?_) (U'.mp M);subst r
 rw[t];show h s W
def z8{word:Str}{xs:List V}(o:word.length<=600)(g:xs.length<=24)(d:∀y∈xs,RJ y):29#(se word xs)<=20000:=by
 unfold se;rw[219#((" ":Str)=⟨#[32]⟩)]
 show b! (qX (B:=600) λs W=>?_) (by rw[y!,χ];lia)
 rcases Z'.mp W with e|W
 .rw[e];show o
 .show 109#(λy a t=>?_);subst t
  show Om (d y a)
def D5:Sp:=84#(∃e x f,F=[.str e,.ref x]/\(H x=some (.lst f)\/H x=some (.tup f))/\e.length<=600/\f.length<=24/\(∀y∈f,RJ y)/\∀Y,ak H Y->29#(se e f)<=20000->Q (.str (se e f)) Y)
def wR(xs:List V)(N:Hp)(D:Addr)(i:Nat)(M:List V)(G:Hp):Prop:=ak N G/\11#G/\M=120#((xs.take i).map Lq)
def wR.turn(h:wR xs N D i M G)(S:N D=none)(W:xs[i]?=some y):wR xs N D (i+1) (M++[.str (Lq y)]) (η G D 69#(M++[.str (Lq y)])):=by
 show bF (h.1.put S) aa ?_;rw[h.2.2,A!,W,W?,j!,j!];rfl
def wR.few(h:wR xs N D i M G):118#G:=by
 show⟨h.2.1,?_⟩;rw[h.2.2,χ,χ,I!];show G? _ _
def D6{word:Str}{xs:List V}(o:word.length<=600)(g:xs.length<=24)(d:∀y∈xs,RJ y):PySem.JoinOk " " (word::xs.map Lq)=true:=by
 show lK (B:=600) (λy W=>?_) ?_
 .rcases Z'.mp W with e|W
  .rw[e];lia
  .show 109#(λn z R=>?_);subst R
   show Om (d n z)
 .rw[y!,χ];change _*_+_*1<=_
  lia
def BF{K:cu}{word:Str}{xs M:List V}(o:word.length<=600)(g:xs.length<=24)(d:∀y∈xs,RJ y)(q:∀Y,ak H Y->29#(se word xs)<=20000->Q (.str (se word xs)) Y)
 (j:ak H N) (b:N p=4#([.str word])) (h:wR xs N D xs.length M G):Rh K (.ref p) (.ref D) G λv u=>rJoin K (.str " ") [v] u Q:=by
 revert h;show cW λw k O=>?_;subst O
 rw[o!]at k;show bu p D _ _ rl rl 42#(w _ _ b) (aI.of k) ⟨?_,λB x=>?_⟩
 .rw[χ,χ];show 87#(by change 1+xs.length<=1000;lia)
 .show cg _ B (word::xs.map Lq) rl rl (aI.of aa) ?_ (q _ ((139#0).trans (ak.new x)) (z8 o g d));show D6 o g d
def fu:Ok T T.fU 1 D5:=by
 show 1#T.fU.ok
 .revert h;show fy λe x f=>eV λc B o g d q=>?_;subst c
  show 56#(ay (qv K (eH J? v_ w_ (nK K) bg (bH (aP (Cm K) (bJ (bH aT)) (bI (own:=["number"]) (js:=[]) (c9 X) rfl (XI K bx) 6#(88#(["number"])) 44#0 6#(bU qE (by rfl) T.zU x_ (bH aT))))))))
  show 3#17#(λp b=>?_)
  show fresh (η H p _) rl b λN j l=>?_
  have k:=B.imp (j _ _) (j _ _);rcases k with k|k
  .show .inl 14#(au x rl 24#k (λD S=>bA (wR f N D) (78#S) (λi M G _ pv=>⟨aI.of (pv.1 _ _ k),pv.few⟩) (bN (by lia)) (λi y M G W pv=>?_) λM G pv=>BF o g d q j l pv))
   rcases d y (fP W) with⟨z,rfl,m⟩|⟨t,rfl,_⟩
   .show 3#(.inl (cP z rl m pv.2.1 (pv.turn S W)))
   .show 3#(.inr (au t rl pv.2.1 (pv.turn S W)))
  .show .inr 14#(au x rl ⟨_,aZ.of k⟩ (λD S=>iC (wR f N D) (78#S) (λi M G _ pv=>⟨aZ.of (pv.1 _ _ k),pv.few⟩) (bN (by lia)) (λi y M G W pv=>?_) λM G pv=>BF o g d q j l pv))
   rcases d y (fP W) with⟨z,rfl,m⟩|⟨t,rfl,_⟩
   .show 3#(.inl (cP z rl m pv.2.1 (pv.turn S W)))
   .show 3#(.inr (au t rl pv.2.1 (pv.turn S W)))
def D8:Sp:=84#(∃w p J,F=[.ref w]/\79#0/\aC p J/\50#(.str (K1 p J)))
def BG:Sp:=84#(∃n:Nat,F=[.str (Tx.cz n)]/\n<10^60/\50#(.bl true))
def tU:Sp:=84#(∃l J,F=[.ref l]/\H l=4#(120#(J.map Tx.cz))/\J.length<=10/\(∀n∈J,n<10^60)/\∀D Y,225#(Y D=4#(aE J)->Q (.ref D) Y))
def uy{word:Str}{ns:List Nat}(o:word.length<=10)(g:ns.length<=3)(b:∀n∈ns,n<10^60):29#(gD word ns)<=400:=by
 change 29#(Builtin.Str.glued " " (word::ns.map Tx.cz))<=_;rw[H?,PyProof.Rows.len_join_cons];have W:∀l:List Nat,(∀n∈l,n<10^60)->((l.map Tx.cz).map (·.length)).sum<=l.length*60:=by
  intro l
  induction l with
  | nil=>intro _;show Ξ _
  | cons a r G =>
    intro h;have Z:=Tx.d7 7#0 (h a g!)
    have R:=G λn g=>h n (jx _ g)
    rw[l!,l!,n_,y!]
    lia
 have h:=W ns b;rw[l!,n_,χ];change word.length+_+ns.length*1<=400
 lia
def IU:Str.ofString "0"=⟨#[48]⟩:=2#0
def QG(Z:48<=c)(R:c<=57):(!(Builtin.Str.occurrences ("0123456789":Str) ⟨#[c]⟩ 0 ("0123456789":Str).length 1).isEmpty)=true:=by
 obtain⟨d,rfl⟩:∃d,c=48+d:=⟨c-48,by lia⟩
 match d,R with
 | 0,_ | 1,_ | 2,_ | 3,_ | 4,_ | 5,_ | 6,_ | 7,_ | 8,_ | 9,_=>decide +kernel
 | n+10,h=>lia
def GL:Ok T T.wc 2 D8:=by
 show 1#T.wc.ok
 .revert h;show eg λv=>aY λp J a o g q=>?_;subst a
  show 56#(ay (qv K (eH J? v_ w_ (nK K) bg (bH (aP (Cm K) (bJ (bH (aB (fu T) C (bM bg (bJ (bH 191#0)))))) (bI (own:=["tie"]) (js:=[]) (c9 X) rfl (Sq K 191#0) 6#(88#(["tie"])) 44#0 6#(aB (fu T) C (bM bg aT))))))))
  have m:=g.p1;have a:=g.p2;have b:=g.len;show 165#(λz f Z R l=>?_)
  have N:=l.length;have P:∀n∈[p],n<10^60:=λn b=>by
   rw[q!.mp b];show Y! a 7#0
  show 3#(cL (aZ.of Z) gj 17#(λa b=>?_))
  have j:ak H (η H a (.lst [.int p])):=ak.new b;show bZ "points" a (aE [p]) rfl (dD (.inl aa) (2#0) (by change 1<=24;decide) (qW P) λG w _=>?_)
  rw[nu];show 17#(λb U=>?_)
  show fresh (η G b _) rl U λu a h=>?_
  have Y:ak H u:=(139#0).trans a;show(ai rfl (cL 91#(Y _ _ Z) g5 (au z rfl ⟨_,aZ.of (Y _ _ R)⟩ (λD S=>iC (xs:=f) (λi M c=>ak u c/\11#c/\M=120#((J.take i).map λt=>gD "tie" (qU t))) (bF (ak.new S) aa rfl) ?_ (bN (by lia)) ?_ ?_))))
  .intro i M c _;show cW λL k r=>?_;subst r
   show bF 91#(L _ _ (Y _ _ R)) k ?_;rw[χ,χ,I!];show G? _ _
  .intro i x M c W;show cW λL k a=>?_;subst a
   show eg (λt=>bE λr e a O=>?_) (Paired.ia l W);subst a
   have y:=g.ie t (fP r);show 34#(ai rfl (bZ "tie" e (aE (qU t)) rfl (dD (.inr ?_) (2#0) (by change 3<=24;decide) (qW (qV (by lia) y)) λI d _=>?_)))
   .rw[Ol y];show L _ _ (Y _ _ O)
   .rw[nu];show e7 (d _ _ k) ((L.trans d).put S) aa ?_;rw[A!,r,W?,j!,j!];rfl
  .intro M c;show cW λL k O=>?_;subst O
   rw[N,o!]at k;show bu b D _ _ rl rl 42#(L _ _ h) (aI.of k) ⟨?_,λx d=>?_⟩
   .rw[χ,χ];show 87#(by change 1+J.length<=1000;lia)
   .show cg _ x (gD "points" [p]::J.map λt=>gD "tie" (qU t)) rfl rfl (aI.of aa) (lK (B:=400) (λy W=>?_) ?_) (q _ ((Y.trans L).trans (ak.new d)))
    .rcases Z'.mp W with e|W
     .rw[e];show uy (2#0) (by change 1<=3;decide) P
     .show 109#(λt r I=>?_);subst I
      show uy (2#0) (by change 3<=3;decide) (qV (by lia) (g.ie t r))
    .rw[y!,χ];change _*_+_*1<=_
     lia
def D9:Ok T T.sU 1 BG:=by
 show 1#T.sU.ok
 .revert h;show aA λn P g q=>?_;subst P
  show ae _ (ah 66#(PW.pt (hU (aF dP (cS qc (by rfl) T.cV adL (bH aT)) av (aG _)) (gf (aF j3 (cS qc (by rfl) T.cV adL (bH aT)) (t9 (by rfl) T.wz) (aG _)))))
   (aj (ay (jP (cS (JX K rfl) (by rfl) T.zT u_ (bH (bI (own:=["sign"]) (js:=[]) (c9 X) rfl (P7 K aT) 6#(88#(["sign"])) 44#0 6#(cN Jl aT (P6 (by rfl) T.Kx) 100#0)))) (iK (Q9 (cN lM (b8 (VM K) aT av) bg (aG _)) (iK (cN dP aT bg (aG _))))))))) ?_
  show di ?_;intro Y a;have m:=Tx.nL n;have l:=Tx.d7 7#0 g
  have j:29#(Tx.cz n)<=sizeLine:=b! l 7#0
  show(0#(bF j rl 14#(gO (λz=>203#(V.int.inj z)) ?_)))
  show(0#⟨j,(aq _ _ rl rl 14#(gO (by lia) ?_))⟩)
  show(0#(λD S=>MW (λi M G=>ak H G/\11#G/\M=(195#i).map V.bl) (78#S) ?_ j ?_ ?_))
  .intro i M G _;show cW λw k t=>?_;subst t
   show⟨k,by rw[χ,K?];show Ξ _⟩
  .intro i M G I;show cW λw k f=>?_;subst f
   have L:(Tx.cz n).cps.getD i 0∈221#(Tx.cz n):=by
    have I:i<(Tx.cz n).cps.size:=I;have e:(Tx.cz n).cps.getD i 0=(Tx.cz n).cps[i]:=by simp[I]
    rw[e];simp
   obtain⟨b,p⟩:=Tx.iE L;show 34#(ai rfl (aq (⟨#[(Tx.cz n).cps.getD i 0]⟩) ("0123456789") rfl rfl ?_));rw[QG b p];show e7 k (w.put S) aa (by rw[_E,j!];rfl)
  .intro M G;show cW λw k c=>?_;subst c
   have e:(195#29#(Tx.cz n)).all id=true:=by simp
   show aq D 195#29#(Tx.cz n) rl (aI.of k) ?_;rw[e];show ae true rl (eI ?_);obtain⟨b,d⟩:∃b,(221#(Tx.cz n))[0]?=some b:=by
    have z:0<176#(Tx.cz n):=by
     have y:29#(Tx.cz n)=176#(Tx.cz n):=200#0
     lia
    show⟨_,z! z⟩
   show 14#(bZ (Tx.cz n) 0 b rl (dD rl j (aH d) rl ?_))
   by_cases o:b=48
   .subst o;have t:=Tx.JZ n d;subst t;rw[e8 (k! V.str IU.symm)];show ae false rl (cy (ai rl ⟨rfl,?_⟩));rw[e8 (k! V.str Tx.MY)];show q _ w
   .have f : ¬ V.str ⟨#[b]⟩=V.str (Str.ofString "0"):=λz=>o (by
     rw[IU]at z;injection z with z
     injection z with z
     simpa using z)
    show ae true ?_ (eI (q _ w));rw[gm f];rfl
def nv:Ok T T.nc 2 tU:=by
 show 1#T.nc.ok
 .revert h;show gF λl J=>iI λp P g o q=>?_;subst p
  show ae _ (ah (bD (ff (cY (cS (JX K rfl) (by rfl) T.zT u_ (bH (bI (own:=["word"]) (js:=[]) (c9 X) rfl (lY K aT) 6#(88#(["word"])) 44#0 6#(71#D9)))))) (aj (ay c7)) aO)
   (aj (ay (bI (own:=["word"]) (js:=[]) (c9 X) rfl (lY K aT) 6#(88#(["word"])) 44#0 6#(bU jV (by rfl) T.IM _C (bH aT)))))) ?_
  show di ?_;intro Y a;have N:29#(120#(J.map Tx.cz))=J.length:=by rw[χ,χ]
  have b:∀(i:Nat) (x:V),(120#(J.map Tx.cz))[i]?=some x->∃n,J[i]?=some n/\x=V.str (Tx.cz n)/\n<10^60:=λi x B=>by
   rw[d!,d!]at B;show af (λy W f=>?_) (nC.mp B);subst f
   show af (λn z r=>?_) (nC.mp W);subst r
   show au n z rl (o n (fP z))
  show 14#(au l rl 24#P (λD S=>bA (λi M G=>ak H G/\11#G/\M=(195#i).map V.bl) (78#S) ?_ (by rw[N];show bN (by lia)) ?_ ?_))
  .intro i M G _;show cW λw k c=>?_;subst c
   show bF 42#(w _ _ P) k (by rw[χ,K?];show Ξ _)
  .intro i x M G B;show cW λw k e=>?_;subst e
   show aA (λn _ c z=>?_) (b i x B);subst c
   show 3#(au n rl z (λu O=>e7 (O _ _ k) ((w.trans O).put S) aa (by rw[_E,j!];rfl)))
  .intro M G;show cW λw k r=>?_;subst r
   rw[N]at k;have e:(195#J.length).all id=true:=by simp
   show aq D 195#J.length rl (aI.of k) ?_;rw[e];show 14#(cy ?_);show 14#(au l rl 24#(w _ _ P) (λy f=>bA (λi M u=>ak G u/\u y=220#0/\M=aE (J.take i)) (78#f) ?_ (by rw[N];show bN (by lia)) ?_ ?_))
   .intro i M u _;show cW λO m I=>?_;subst I
    show bF 42#(O _ _ (w _ _ P)) m ?_;rw[az,I!];show G? _ _
   .intro i x M u B;show cW λO m d=>?_;subst d
    show aA (λn I j z=>?_) (b i x B);subst j
    show 3#(aq (Tx.cz n) n rl (Tx.vy z) (dD (b! (Tx.d7 7#0 z) 7#0) m (O.put f) aa ?_))
    rw[A!,I,W?,cH]
   .intro M u;show cW λO m c=>?_;subst c
    rw[N,o!]at m;show q y u (w.free f) (w.trans O) m
def BH:Sp:=λF H Q _=>(∃l p,F=[.eM,.ref l]/\H l=4#([.str "points",.str (Tx.cz p)])/\1<=p/\p<=10/\∀w Y,ak H Y->bB Y w p []->Q (.ref w) Y)\/
 ∃w l p J t,F=[.ref w,.ref l]/\79#0/\aC p (J++[t])/\H l=4#(120#(("tie":Str)::(qU t).map Tx.cz))/\∀n Y,ak H Y->bB Y n p (J++[t])->Q (.ref n) Y
def Ea:Ok T T.sV 3 BH:=by
 show T.sV.okN (λF H Q E h=>?_) (λ_ A _ s H F Q E X C h=>?_)
 .rcases h with⟨l,p,rfl,_⟩|⟨w,l,p,J,t,rfl,_⟩<;>rfl
 .show ae _ (ah 167#(aB (nv T) C (bH (fC (Pc K) bx (gw av) gv)))
   (ah (bD (aF iL cA c7 (aG _)) (aj (ay c7)) aO)
   (ah (Im (ah (bD (aF t8 aT c7 (aG _)) (aj (ay (aB (nq T) C (bM 191#0 (aP (Cm K) (bU (Rc K) (by rfl) T.Bh _u (bH 191#0)) (bJ (bH cA))))))) aO)
   (aj (bD (PW.pt (kR (aF dP (sN K bx) bg (aG _)) (iU (aF dP (37#cA) av (aG _))))) (aj (ay (aB (nq T) C (bM (sN K cA) (bJ dY))))) aO))))
   (aj (ay c7))))) ?_
  show Bb ?_;intro Y a b N;rcases h with⟨l,p,rfl,P,W,a,q⟩|⟨v,l,p,J,t,rfl,m,g,P,q⟩
  .have f:∀n∈[p],n<10^60:=λn b=>by
    rw[q!.mp b];show Y! a 7#0
   show(0#(aq l _ rl (aI.of P) (λc L=>?_)))
   have j:ak H (η H c (.lst [.str (Tx.cz p)])):=ak.new L;show cI c [p] rl aa (by change 1<=10;decide) f λD G S b k=>?_
   have U:=j.trans b;show(ai rl 3#(cy ?_));show(ai rl 3#(cy ?_));show 14#(fO 42#(U _ _ P) gj 3#(uP rl ?_));show 14#(ly rl (93#k) 3#(uP rl ?_));show 14#(fO (aI.of k) gj 17#(λM i=>?_))
   have a:=U.trans (ak.new (o:=.lst []) i);show bu p M [] [] rl (.inl aa) .nil ⟨by lia,by lia,r! _,(λ_ h=>nomatch h)⟩ λs e d m=>q s e (a.trans d) m
  .have r:=g.p2;have y:=g.ie t (jd _ g!);show(0#(aq l _ rl (aI.of P) (λc L=>?_)))
   have j:ak H (η H c 69#(120#((qU t).map Tx.cz))):=ak.new L;show cI c (qU t) rl aa (by change 3<=10;decide) (qV (by lia) y) λD G S b k=>?_
   have U:=j.trans b;show aD (λz f Z R c=>?_) (id (m.same U).ex)
   have b:=c.length;have b:=g.len;rw[i!,X!]at b;show(ai rl 3#(cy ?_));show(ai rl 3#(eI ?_));show 14#(cL (aZ.of Z) gj 28#(222#(?_)));show aq z f rl (.inr (aZ.of R)) λB x=>?_
   show fresh (η G B _) rl x λu O b=>?_
   have m:=O _ _ k;show(ai rl 17#(λM i=>?_))
   have a:ak u (η u M (.lst [.ref D])):=ak.new i;show bu B M f [.ref D] rl rl 42#(a _ _ b) (aI.of aa) ⟨87#(by change f.length+1<=1000;lia),λi n=>?_⟩
   have d:=a.trans (ak.new (o:=.lst (f++[.ref D])) n);have a:=O.trans d;have I:Paired (UI (η (η u M (.lst [.ref D])) i 69#(f++[.ref D]))) (f++[.ref D]) (J++[t]):=by
    show Paired.snoc (Paired.imp' (by intro _ _;show af λb e h=>?_;show ae b e (.inr (a _ _ h))) c) (ae D rl (.inl ?_))
    rw[<-Ol y];show d _ _ m
   show bu p i (f++[.ref D]) (J++[t]) rl (.inl aa) I g λs e c b=>q s e ((U.trans a).trans c) b
def Yy:Sp:=λ_ _ _ _=>False
def Up(n:Nat)(M:List Nat):Prop:=(∀i k:Nat,M[i]?=some k->k<n)/\∀i j k:Nat,M[i]?=some j->M[i+1]?=some k->j<k
def K2:Sp:=84#(∃(l:Addr) (M:List Nat) (n:Nat),F=[.ref l,.int n]/\H l=4#(aE M)/\Up n M/\50#(.bl true))
def wU:Ok T T.nf 1 K2:=by
 show 1#T.nf.ok
 .revert h;show eg λl=>aY λM n f b d q=>?_;subst f
  show ae _ (ah (dw PassesOwn.never rl (ua K (by rfl) T.fc (bH aT)) (xx K rl (aL (br 2 X.nd) (aL (br 3 X.nd) cR)))
   (aj 66#(PW.pt (hU (aF yu e9 bx (aG _)) (gf (PW.pt (kR (aF j3 cA av (aG _)) (iU (aF HA e9 (b8 (iP K) aT (aP kU cA av)) (aG _))))))))))
   (aj (ay fK))) ?_
  show mY ?_;intro Y I J;show 14#(au l rl 24#b (uT (λi U G=>∃u g,U=[some (.ref l),some (.int n),u,g]/\ak H G) (bf none none rl (ak.refl _)) (by intro i U G _;show bh λ_ _ _ z=>?_;show aI.of (z _ _ b)) ?_ ?_))
  .intro i x y U G B;show bh λg m r e k=>?_;subst r
   show af (λc L t=>?_) (ck B);subst t
   have O:=e.trans (ak.new (o:=.tup [.int i,.int c]) k);have Z:=d.1 i c L;show aq y _ rl (aZ.of aa) 103#209#rl;show(0#(cU 14#(gO (by lia) ?_)))
   cases i with
   | zero=>show(ai rfl (cU (ai rfl (gO 7#0 (bf _ _ rfl O)))))
   | succ i =>
     obtain⟨j,D⟩:∃j,M[i]?=some j:=⟨_,z! (Nat.lt_of_succ_lt (iJ.mp L).1)⟩;have R:=d.2 i j c D L;show 14#(cU 28#(uP (by lia) ?_))
     have p:sC (aE M) (18#(i+1)-1)=54#(j:Int):=by
      rw[95#(18#(i+1)-1=(i:Int))]
      show aH (by unfold aE;rw[d!,D];rfl)
     show(0#14#(cU (fO 42#(O _ _ b) (p) (?_))));show(cU 14#(gO (by lia) (bf _ _ rl O)))
  .intro U G;show bh λg m v e=>?_;subst v
   show q _ e
def dB(M:List Nat):List Int:=M.map λk:Nat=>(k:Int)
def IV(ks):dh (dB ks)=aE ks:=by
 unfold dh dB aE;rw[L!];rfl
inductive jr(n:Nat):Str->List Int->Prop
 | bare {x:Str} (h:x="lengths"\/x="base"\/x="forests"):jr n x []
 | ie {x:Str} {ks:List Nat} (h:x="even"\/x="cut"\/x="odd") (up:Up n ks) (hl:ks.length<=10):jr n x (dB ks)
def Oo(x:Str)(zs:List Int):List V:=120#(x::zs.map Tx.g4)
def Oq(H:Hp)(r:Addr)(x:Str)(zs:List Int):Prop:=∃b,H r=15#([.str x,.ref b])/\H b=15#(dh zs)
def Ot:Sp:=84#(∃v l p J x u,F=[.ref v,.ref l]/\bB H v p J/\J.length<=9/\jr J.length x u/\H l=4#(Oo x u)/\∀r Y,H r=none->ak H Y->Oq Y r x u->Q (.ref r) Y)
def yc:Sp:=84#(∃v l p J x M,F=[.ref v,.ref l]/\bB H v p J/\Up J.length M/\J.length<=9/\M.length<=10/\H l=4#(Oo x (dB M))/\∀r Y,H r=none->ak H Y->Oq Y r x (dB M)->Q (.ref r) Y)
def Ou(x)(xs):jt (x::xs) (some 1) none=xs:=by
 unfold jt;rw[show(some 1)=some ((1:Nat):Int) from rfl,HT.HE,HT.Cd,y!,m_ (by lia)]
 change xs.take (xs.length+1-1)=xs;rw[Nat.add_sub_cancel,o!]
def BI:Ok T T.qR 3 yc:=by
 show 1#T.qR.ok
 .revert h;show fy λv l p=>cQ λJ x M a=>eV λd W b Y P q=>?_;subst a
  show ae _ (ah 167#(aB (nv T) C (bH (fC (Pc K) bx (gw av) gv)))
   (ah (bD (PW.pt (hU (aF iL cA c7 (aG _)) (gf (ff (cY (aB (wU T) C (bM cA (37#191#0)))))))) (aj (ay c7)) aO)
   (aj (ay (bV (bM (sN K bx) (bU (uQ K) (by rfl) T.lH e_ (bH cA)))))))) ?_
  show fT ?_;intro c a e;have m:∀n∈M,n<10^60:=λn g=>by
   obtain⟨i,I,e⟩:=adJ g;have:=W.1 i n (by rw[<-e];show z! I)
   show O? (t! this b) 7#0
  have e:Oo x (dB M) = .str x::120#(M.map Tx.cz):=by
   unfold Oo dB;rw[l!,L!,L!,L!];rfl
  rw[e]at P;show(0#(aq l _ rl (aI.of P) (λc L=>?_)))
  rw[Ou];have j:ak H (η H c 69#(120#(M.map Tx.cz))):=ak.new L;show cI c M rl aa Y m λD G S w k=>?_
  have U:=j.trans w;show aD (λz f Z R I=>?_) (id (d.same U).ex)
  have N:=I.length;show(ai rl 3#(cy ?_));show(0#(222#(aq z f rl (.inr (aZ.of R)) ?_)));rw[N];show aV D M J.length rl k W λu t=>?_
  show 14#(cy ?_);show 14#(fO 42#((U.trans t) _ _ P) gj (?_));show 14#(bf D (aE M) rl (.inl ⟨aI.of (t _ _ k),λb O=>17#(λr i=>?_)⟩))
  have B:ak u (η u b (.tup (aE M))):=ak.new O;have y:η u b (.tup (aE M)) b=15#(aE M):=aa;have d:=ak.new (o:=.tup [.str x,.ref b]) i;show q r _ (((U.trans t).trans B).free i) (((U.trans t).trans B).trans d) (ae b aa (by rw[IV];show d _ _ y))
def tV:Ok T T.lQ 3 Yy:=by
 show T.lQ.ok (λd A b s H F Q E X C h=>h.elim) (λF H Q E h=>h.elim)
def QH(x:Str)(h:x="lengths"\/x="base"\/x="forests"):([PyData.str "lengths",.str "base",.str "forests"].any λe=>PyData.eqv e (.str x))=true:=by
 rcases h with rfl|rfl|rfl<;>decide +kernel
def Ov(x:Str)(h:x="even"\/x="cut"\/x="odd"):([PyData.str "lengths",.str "base",.str "forests"].any λe=>PyData.eqv e (.str x))=false:=by
 rcases h with rfl|rfl|rfl<;>decide +kernel
def QI(x:Str)(h:x="even"\/x="cut"\/x="odd"):([PyData.str "even",.str "cut",.str "odd"].any λe=>PyData.eqv e (.str x))=true:=by
 rcases h with rfl|rfl|rfl<;>decide +kernel
def tD:141#(.tuple [PyData.str "lengths",.str "base",.str "forests"]):=2#0
def Eb:141#(.tuple [PyData.str "even",.str "cut",.str "odd"]):=2#0
def Ec(h:jr n x zs):141#(.str x):=by
 cases h with
 | bare h=>rcases h with rfl | rfl | rfl<;>decide +kernel
 | ie h=>rcases h with rfl | rfl | rfl<;>decide +kernel
def GN:Ok T T.we 4 Ot:=by
 show 1#T.we.ok
 .revert h;show gF λv l=>gb λp J x u=>eV λc n S m P q=>?_;subst c
  show ae _ (ah (bD (PW.pt (kR (aF (MZ K C.qw) (sN K bx) (Fd (by rfl) T.Bj) 100#0) (iU (aF dP (37#bx) av (aG _))))) (aj (ay (bV (bM (sN K bx) (bV dY))))) aO)
   (ah (bD (aF (MZ K C.qw) (sN K bx) (Fd (by rfl) T.Bl) 100#0) (aj (ay (39#BI))) aO)
   (ah (bD (aF dP (sN K bx) bg (aG _)) (aj (ay (39#tV))) aO)
   (aj (ay c7))))) ?_
  show Dl ?_;intro t y L N z B;have e:sC (Oo x u) 0=some (.str x):=gj;have g:j6 K H (.ref a.lE) (.tuple [.str "lengths",.str "base",.str "forests"]):=.tup (T.Bk H) (60#117#(.str _));have k:j6 K H (.ref a.lF) (.tuple [.str "even",.str "cut",.str "odd"]):=.tup (T.Bm H) (60#117#(.str _));have f:=Ec m;cases m with
  | bare h =>
    show 14#(fO (aI.of P) (e) (cI (.str x) _ (.str x) g f tD ?_));rw[QH x h];show 14#(eI ?_);show 14#(ly rl (93#P) 3#(uP rl ?_));show 14#(fO (aI.of P) (e) 17#(λb O=>⟨dl rfl,λr i=>?_⟩))
    have j:=ak.new (o:=.tup []) O;have w:=ak.new (o:=.tup [.str x,.ref b]) i;show q r _ (j.free i) 139#0 (ae b aa (w _ _ aa))
  | ie h d Y =>
    show 14#(fO (aI.of P) (e) (cI (.str x) _ (.str x) g f tD ?_));rw[Ov x h];show 14#(cy ?_);show 14#(fO (aI.of P) (e) (cI (.str x) _ (.str x) k f Eb ?_));rw[QI x h];show 14#(eI (0#(eE v l p (aV J x _ rl n d (e7 S Y P q)))))
def IW:Str.ofString "\n"=⟨#[10]⟩:=2#0
def IX:Str.ofString " "=⟨#[32]⟩:=2#0
theorem sf:∀{l},x∈Tx.mR c l->x=c\/∃p∈l,x∈p
 | [],h=>nomatch h
 | [p],h=>.inr (ae p g! h)
 | p::q::r,h=>by
   rcases D!.mp (h) with h|h
   .show .inr (ae p g! h)
   .rcases Z'.mp h with h|h
    .show .inl h
    .rcases sf h with h|⟨y,W,h⟩
     .show .inl h
     .show .inr (ae y (jx _ W) h)
def nW(s:Str):Prop:=32∉s.cps.toList/\10∉s.cps.toList
def QJ(n):nW (Tx.cz n):=⟨λz=>203#(Tx.iE z),λz=>203#(Tx.iE z)⟩
def BJ(n):nW (Tx.g4 n):=⟨λz=>203#(Tx.int_sign z),λz=>203#(Tx.int_sign z)⟩
def qY(h:∀s∈k,nW s):10∉221#(Txt.join " " k):=λz=>by
 rw[show Txt.join " " k=Str.join ⟨#[32]⟩ k by rw[<-IX];show H? _ _,Tx.fQ]at z
 rcases sf z with z|⟨q,D,z⟩
 .cases z
 .show af (λs W f=>?_) (U'.mp D);subst f
  show(h s W).2 z
def sj(n:k≠[])(h:∀s∈k,nW s):Txt.split (Txt.join " " k) " "=k:=by
 rw[IX];show Tx.lB n λs W=>(h s W).1
def d8{w:Str}(o:nW w)(h:∀s∈l,nW s):∀s∈w::l,nW s:=λs W=>by
 rcases Z'.mp W with e|W
 .rw[e];show o
 .show h s W
def qZ(ns:List Nat):∀s∈ns.map Tx.cz,nW s:=λs W=>by
 show 109#(λn _ r=>?_);subst r
 show QJ n
def Ed(ns:List Int):∀s∈ns.map Tx.g4,nW s:=λs W=>by
 show 109#(λn _ t=>?_);subst t
 show BJ n
def nX(o:nW word):Txt.split (gD word ns) " "=word::ns.map Tx.cz:=sj 22#0 (d8 o (qZ ns))
def o5(p:Nat)(J:List fN):List Str:=gD "points" [p]::J.map λt=>gD "tie" (qU t)
def kO:nW "points"/\nW "tie":=by unfold nW;decide +kernel
def Ow{word:Str}{ns:List Nat}(o:word.length<=10)(g:ns.length<=3)(b:∀n∈ns,n<10^60):PySem.JoinOk " " (word::ns.map Tx.cz)=true:=by
 show lK (B:=60) (λy W=>?_) ?_
 .rcases Z'.mp W with e|W
  .rw[e];lia
  .show 109#(λn z R=>?_);subst R
   show Tx.d7 7#0 (b n z)
 .rw[y!,χ];change _*_+_*1<=_
  lia
abbrev Ask:=Str×List Int
def lZ(q:Ask):Str:=Txt.join " " (q.1::q.2.map Tx.g4)
def jI(p:Nat)(J:List fN)(as:List Ask):List Str:=o5 p J++as.map lZ
def jJ(p:Nat)(J:List fN)(as:List Ask):Str:=Txt.join "\n" (jI p J as)
def pW(n:Nat)(as:List Ask):Prop:=∀q∈as,jr n q.1 q.2
def ny(H:Hp)(v:V)(q:Ask):Prop:=∃r,v = .ref r/\Oq H r q.1 q.2
def T3(q:Ask):PyData:=.tuple [.str q.1,.tuple (q.2.map PyData.int)]
def ny.tups(s:cK H Y)(h:ny H v q):ny Y v q:=by
 revert h;show eg λr=>bE λe b Z R=>?_
 show⟨r,(bR e b (s _ _ Z) (s _ _ R))⟩
def QK{K}(h:ny H v q):j6 K H v (T3 q):=by
 revert h;show eg λr=>bE λO b Z R=>?_;subst O
 show .tup (aZ.of Z) (.cons (.str _) 117#(.tup (aZ.of R) (qu q.2)))
theorem q6{K}:∀{xs} {as},Paired (ny H) xs as->DatVs K H xs (as.map T3)
 | _,_,.nil=>.nil
 | _,_,.cons h r=>.cons (QK h) (q6 r)
def IY{q:Ask}(h:jr n q.1 q.2):PyData.strOk q.1=true:=by
 have U:=SeqAt.canLay_of_shaped (Ec h)
 simpa[PyData.canLay0]using U
def Fl(k:Nat)(d:PyData):Prop:=d.canLay0=true/\d.depth<=k
theorem GO:∀{l},(∀d∈l,Fl k d)->PyData.canLayAll0 l=true/\PyData.depthAll l<=k
 | [],_=>34#(r! _)
 | d::r,h=>by
   obtain⟨Z,R⟩:=GO λy W=>h y (jx _ W)
   obtain⟨a,A⟩:=h d g!;show⟨by simp only[PyData.canLayAll0,Z,a,J_],Nat.max_le.mpr ⟨A,R⟩⟩
def Fl.list(h:∀d∈l,Fl k d):Fl (k+1) (.list l):=by
 obtain⟨Z,R⟩:=GO h;show⟨by simpa[PyData.canLay0]using Z,by simpa[PyData.depth]using R⟩
def Fl.tup(h:∀d∈l,Fl k d):Fl (k+1) (.tuple l):=by
 obtain⟨Z,R⟩:=GO h;show⟨by simpa[PyData.canLay0]using Z,by simpa[PyData.depth]using R⟩
def Fl.up(h:Fl k d):Fl (k+1) d:=⟨h.1,Nat.le_succ_of_le h.2⟩
def Fl.shaped(h:Fl k d)(Y:k<=64):141#d:=by
 unfold SeqAt.shaped;rw[h.1,V?];show e8 (b! h.2 Y)
def Fl.int z:Fl 0 (.int z):=⟨by simp[PyData.canLay0],Ξ _⟩
def Fl.str(h:PyData.strOk x=true):Fl 0 (.str x):=⟨by simpa[PyData.canLay0]using h,Ξ _⟩
def wW{a b:PyData}(E:Fl k a)(O:Fl k b):∀d∈[a,b],Fl k d:=λd hd=>by
 rcases Z'.mp hd with e|hd
 .rw[e];show E
 .rw[q!.mp hd];show O
def q7(l:List Int):∀d∈l.map PyData.int,Fl 0 d:=λd J=>by
 show af (λz _ c=>?_) (U'.mp J);subst c
 show .int z
def IZ(h:pW n as):Fl 3 (.list (as.map T3)):=.list λd J=>by
 show af (λq D P=>?_) (U'.mp J);subst P
 show .tup (wW (.up (.str (IY (h q D)))) (.tup (q7 _)))
def T4(h:jr n x zs):nW x/\x.length<=10/\x≠"tie":=by
 unfold nW;cases h with
 | bare h=>rcases h with rfl | rfl | rfl<;>decide +kernel
 | ie h=>rcases h with rfl | rfl | rfl<;>decide +kernel
def Ox{q:Ask}(h:jr n q.1 q.2):nW q.1/\q.1.length<=10/\q.1≠"tie":=T4 h
def I1{q:Ask}(h:jr n q.1 q.2)(S:n<=9):q.2.length<=10/\∀z∈q.2,z.natAbs<10^60:=by
 obtain⟨x,u⟩:=q;cases h with
 | bare h=>show⟨r! _,λ_ h=>nomatch h⟩
 | ie h d P =>
   show⟨by change(dB _).length<=10;unfold dB;rw[χ];show P,λz m=>?_⟩
   show af (λk Y t=>?_) (U'.mp (m));subst t
   obtain⟨i,I,e⟩:=adJ Y;have:=d.1 i k (by rw[<-e];show z! I)
   rw[Int.natAbs_natCast];show O? (t! this S) 7#0
def I2{q:Ask}(h:jr n q.1 q.2):∀s∈q.1::q.2.map Tx.g4,nW s:=d8 (Ox h).1 (Ed _)
def z9{q:Ask}(h:jr n q.1 q.2):Txt.split (lZ q) " "=q.1::q.2.map Tx.g4:=sj 22#0 (I2 h)
def Ef{q:Ask}(h:jr n q.1 q.2)(S:n<=9):∀y∈q.1::q.2.map Tx.g4,y.length<=61:=λy W=>by
 rcases Z'.mp W with e|W
 .rw[e];have:=(Ox h).2.1
  lia
 .show 109#(λz m f=>?_);subst f
  show(Tx.AX ((I1 h S).2 z m)).2
def T5{q:Ask}(h:jr n q.1 q.2)(S:n<=9):PySem.JoinOk " " (q.1::q.2.map Tx.g4)=true:=by
 show lK (Ef h S) ?_;have:=(I1 h S).1;rw[y!,χ];change _*_+_*1<=_
 lia
theorem Eg:∀{l:List Str},(∀y∈l,y.length<=B)->(l.map (·.length)).sum<=l.length*B
 | [],_=>by simp
 | y::l,h=>by
   have Z:=h y g!;have R:=Eg λz m=>h z (jx _ m)
   rw[l!,n_,y!,Nat.succ_mul]
   lia
def QL{q:Ask}(h:jr n q.1 q.2)(S:n<=9):(lZ q).length<=800:=by
 change 29#(Builtin.Str.glued _ _)<=_;rw[H?,PyProof.Rows.len_join_cons];have e:=Eg (Ef h S);have:=(I1 h S).1;rw[y!,χ]at e;rw[χ];change _+_*1<=_
 lia
def wX{J:List fN}(h:pW J.length as):Txt.split (jJ p J as) "\n"=jI p J as:=by
 rw[IW];show Tx.lB (by unfold jI o5;simp) λs W=>?_
 rcases D!.mp W with W|W
 .rcases Z'.mp W with e|W
  .rw[e];show qY (d8 kO.1 (qZ _))
  .show 109#(λt _ c=>?_);subst c
   show qY (d8 kO.2 (qZ _))
 .show 109#(λq D e=>?_);subst e
  show qY (I2 (h q D))
def Eh(p:Nat)(J:List fN)(as:List Ask):29#(jI p J as)=J.length+1+as.length:=by
 unfold jI o5;rw[i!,y!,χ,χ]
def Aa(g:aC p J)(S:J.length<=9)(h:pW J.length as):∀y∈jI p J as,y.length<=800:=λy W=>by
 have r:=g.p2;rcases D!.mp W with W|W
 .rcases Z'.mp W with e|W
  .rw[e];show b! (uy (2#0) (by change 1<=3;decide) λn a=>by rw[q!.mp a];show Y! r 7#0) 7#0
  .show 109#(λt n f=>?_);subst f
   show b! (uy (2#0) (by change 3<=3;decide) (qV (by lia) (g.ie t n))) 7#0
 .show 109#(λq D a=>?_);subst a
  show QL (h q D) S
def QM(g:aC p J)(S:J.length<=9)(h:pW J.length as)(M:as.length<=6):PySem.JoinOk "\n" (jI p J as)=true:=by
 show lK (Aa g S h) ?_;rw[Eh];change _*_+_*1<=_
 lia
def BK:Sp:=λa H Q _=>∃p J i,a=[.str (jJ p J i)]/\aC p J/\J.length<=9/\i.length<=6/\pW J.length i/\
 ∀r w F f Y,ak H Y->Y r=15#([.ref w,.ref F])->bB Y w p J->H F=none->Y F=some (.lst f)->Paired (ny Y) f i->Q (.ref r) Y
def Yz{A B:Prop}(h:B->A)(b:B):if c=true then A else B:=by
 cases c
 .show cy b
 .show eI (h b)
def Oz{A B:Prop}(h:if false=true then A else B):B:=by
 rw[ξ w!]at h;show h
def tE:Ok T T.sW 5 BK:=by
 show T.sW.ok λ_ A _ s H a Q E X C h=>?_
 .revert h;show fy λp J A=>eV λf g Q c l q=>?_;subst f
  show ae _ (ah (bQ 1 X.nd c7)
   (ah 167#(bJ dY)
   (ah (dw PassesOwn.never rl (MX K (by rfl) T.fc (bH (qv K (eH J? S_ T_ mQ aT (bH bg))))) (xx K rl (aL (br 3 X.nd) (aL (br 4 X.nd) cR)))
   (ah (bQ 5 X.nd (qv K (eH J? S_ T_ mQ h8 (bH bg))))
   (ah (bD (PW.pt (hU (aF iL bx c7 (aG _)) (gf (PW.pt (kR (aF (rD K C.units) cA (bJ dY) (aG _)) (iU (aF dP (sN K nT) bg (aG _)))))))) (ah (bQ 1 X.nd (aB (Ea T) C (bM bx nT)))
   (aj (bQ 6 X.nd (cN t8 bx c7 (aG _))))) (ah (bX (qv K (eH O! V! W! cJ cA (bH (aB (GN T) C (bM bx nT))))))
   (aj (bQ 6 X.nd (cN t8 (b8 (iP K) cA (sA mw av)) c7 (aG _))))))
   (aj (bD (ff (cY Gi)) dG aO)))))
   (aj (ay (bV (bM bx cA))))))) ?_
  show Bc ?_;intro d a f h b i j k m n e;have g1:=g.p1;have g2:=g.p2;show 17#(λF hF=>?_)
  show fresh (η H F _) rl hF λN d a=>?_
  have X:=Eh p J A;show(ai rfl (aS rfl (jJ p J A) ("\n") rfl (dD rfl (2#0) (_G (QM g Q l c)) ?_ λD S=>?_)))
  .rw[wX l,X];show 87#(by lia)
  rw[wX l];show fresh (η N D _) rl S λG w b=>?_
  have c:=w _ _ a;have f:=d.trans w;have nDF:D≠F:=λe=>by rw[e]at S;rw[S]at a;cases a
  show au D rl 24#b (yI (λi U a=>∃E M v3 m v5 v6,U=[some (.str (jJ p J A)),some E,some (.ref F),v3,m,v5,v6]/\ak H a/\a D=4#(120#(jI p J A))/\a F=220#0/\Paired (ny a) M (A.take (i-(J.length+1)))/\((i=0/\E = .eM)\/∃v k,i ≥ k+1/\k=min (i-1) J.length/\E = .ref v/\bB a v p (J.take k)))
   ⟨.eM,(b9 [] none none none none rl f b c (by rw[Nat.zero_sub,_c];show .nil) (.inl 196#0))⟩ (by intro i U a _;show gb λ_ _ _ _=>aY λ_ _ _ _ s _=>?_;show aI.of s) ?_ ?_)
  .intro i x B U a H;show gF λE M=>gb λv3 m v5 v6=>eV λc O ZW YA I L b=>?_;subst c
   show fresh (η a B _) rl b λs Z c=>?_
   show aq B _ rl (aZ.of c) 103#209#rl;have YB:=Z _ _ YA;have UL:=Z _ _ ZW;have N:=151#(λ_ _ y=>ny.tups Z.tups y)
   have Lr:=O.trans Z;have b:i<J.length+1+A.length:=by
    have:=(iJ.mp H).1;rw[χ,X]at this;show this
   by_cases b:J.length+1<=i
   .
    obtain⟨j,rfl⟩:∃j,i=J.length+1+j:=⟨i-(J.length+1),by lia⟩
    rw[ac9]at N;obtain⟨n,hq⟩:∃n,A[j]?=some n:=⟨A[j]'(by lia),z! (by lia)⟩
    have t:=l n (fP hq);obtain rfl:x = .str (lZ n):=by
     have e:(120#(jI p J A))[J.length+1+j]?=some (.str (lZ n)):=by
      have c:29#(o5 p J)=J.length+1:=by change(_::_).length=_;rw[y!,χ]
      unfold jI;rw[d!,u? (by lia),c,ac9,d!,hq]
      rfl
     show 20#(H.symm.trans e)
    rcases L with⟨z,_⟩|⟨v,k,_,Y,rfl,f⟩
    .lia
    obtain rfl:k=J.length:=by lia
    rw[o!]at f;show(ai rfl (aS rfl (lZ n) " " rfl (dD rfl (2#0) (_G (T5 t Q)) ?_ λW B=>?_)))
    .rw[z9 t];have:=(I1 t Q).1;show 87#(by rw[y!,χ];lia)
    rw[z9 t];show fresh (η s W _) rl B λS d C=>?_
    show(ai rl 3#(cy ?_));have w:=d _ _ YB;have YC:=d _ _ UL;have b:=Paired.imp' (λ_ _ y=>ny.tups d.tups y) N
    have u:=Lr.trans d;have r:=f.same (Z.trans d);show(ai rl 17#(λl6 h=>aq _ _ (.lst 42#(ak.new h _ _ w) (q6 (Paired.imp' (λ_ _ y=>ny.tups (ak.new h).tups y) b))) (.lst (aI.of aa) (gp [])) (aX ((IZ λy D=>l y (List.mem_of_mem_take D)).shaped 7#0) (eL []) _ rl ?_)))
    show fresh (η S l6 _) rl h λR l _=>?_
    have D:=l _ _ C;have G:=l _ _ w;have V9:=l _ _ YC;have ZX:=Paired.imp' (λ_ _ y=>ny.tups l.tups y) b
    have OR:=u.trans l;have u:=r.same l;show Yz (λz=>14#(fO (aI.of D) gj 3#(gO (λy=>(Ox t).2.2 (V.str.inj y)) (Oz z)))) (cy ?_)
    show(ai rl ⟨.inl (116#G),0#⟨v,(b9 W p J n.1 n.2 rl u Q t D λr P hr7 b hA=>?_)⟩⟩)
    have c:=b _ _ G;have t:=ZX.length;have n:cK R (η P F 69#(M++[.ref r])):=b.tups.trans (cK.put c);show cg F M _ rl rl c (eA (by rw[t,I!];lia)) ?_
    show(0#(fO (aI.of aa) (LQ _ _) 3#(?_)));show 14#(cy ⟨.ref v,(b9 (M++[.ref r]) _ _ _ _ rl ((OR.trans b).put hF) ?_ aa ?_ (.inr (bC v J.length (by lia) (by lia) rl ?_)))⟩)
    .rw[ao nDF];show b _ _ V9
    .rw[95#(J.length+1+j+1-(J.length+1)=j+1),A!,hq]
     show Paired.snoc (Paired.imp' (λ_ _ y=>ny.tups n y) ZX) (ny.tups (cK.put c) (ae r rl hA))
    .rw[o!];show u.tups n
   .
    have j:i+1-(J.length+1)=0:=by lia
    obtain rfl:M=[]:=by
     rw[95#(i-(J.length+1)=0),_c]at N
     cases N;rfl
    rcases L with⟨rfl,rfl⟩|⟨v,k,N,Q,rfl,f⟩
    .
     obtain rfl:x = .str (gD "points" [p]):=(20#H).symm;have P:∀n∈[p],n<10^60:=λn c=>by rw[q!.mp c];show Y! g2 7#0
     show(ai rfl (aS rfl (gD "points" [p]) " " rfl (dD rfl (2#0) (_G (Ow (2#0) (by change 1<=3;decide) P)) ?_ λW B=>?_)))
     .rw[nX kO.1];show 87#(by change 2<=1000;decide)
     rw[nX kO.1];have d:ak s (η s W (.lst [.str "points",.str (Tx.cz p)])):=ak.new B;have C:η s W (.lst [.str "points",.str (Tx.cz p)]) W=4#([.str "points",.str (Tx.cz p)]):=aa;show(ai rfl 34#(ai rfl (eI ?_)));show(ai rfl (ai rfl (.inl (cI W p rfl C g1 g2 (λr R l u=>?_)))))
     show(ai rl 3#(?_));show 14#(cy ⟨.ref r,(b9 [] _ _ _ _ rl ((Lr.trans d).trans l) ((d.trans l) _ _ UL) ((d.trans l) _ _ YB) (by rw[j,_c];show .nil) (.inr (bC r 0 (by lia) (by lia) rl u)))⟩)
    .
     obtain rfl:i=k+1:=by lia
     have Y:k<J.length:=by lia
     obtain⟨t,n⟩:∃t,J[k]?=some t:=⟨J[k],z! Y⟩;obtain rfl:x = .str (gD "tie" (qU t)):=by
      have e:(120#(jI p J A))[k+1]?=some (.str (gD "tie" (qU t))):=by
       have c:k+1<29#(o5 p J):=by change _<(_::_).length;rw[y!,χ];lia
       unfold jI;rw[d!,d? c];change 120#((J.map λt=>gD "tie" (qU t))[k]?)=_
       rw[d!,n];rfl
      show 20#(H.symm.trans e)
     have e:=g.ie t (fP n);show(ai rfl (aS rfl (gD "tie" (qU t)) " " rfl (dD rfl (2#0) (_G (Ow (2#0) (by change 3<=3;decide) (qV (by lia) e))) ?_ λW B=>?_)))
     .rw[nX kO.2];show 87#(by change 4<=1000;decide)
     rw[nX kO.2];show fresh (η s W _) rl B λS d C=>?_
     show(ai rl 3#(cy ?_));have w:=d _ _ YB;have YC:=d _ _ UL;show(ai rl 17#(λl6 h=>aq _ _ (.lst 42#(ak.new h _ _ w) (gp [])) (.lst (aI.of aa) (gp [])) (aX (eL []) (eL []) _ rl ?_)))
     rw[rM,e8 rfl];show fresh (η S l6 _) rl h λR l _=>?_
     have D:=l _ _ C;have G:=l _ _ w;have V9:=l _ _ YC;have OR:=(Lr.trans d).trans l;show eI 14#(fO (aI.of D) gj 3#(?_));rw[e8 rfl];show eI ?_;have z:aC p (J.take k++[t]):=⟨g1,g2,by rw[i!,I!,X!];lia,λu c=>by
      rcases D!.mp c with c|c
      .show g.ie u (List.mem_of_mem_take c)
      .rw[q!.mp c];show e⟩
     show(0#(.inr ⟨v,(bu W p (J.take k) t rl (f.same ((Z.trans d).trans l)) z D λr P b c=>?_)⟩))
     show(ai rl 3#(?_));show 14#(cy ⟨.ref r,(b9 [] _ _ _ _ rl (OR.trans b) (b _ _ V9) (b _ _ G) (by rw[j,_c];show .nil) (.inr (bC r (k+1) (by lia) (by lia) rl ?_)))⟩)
     rwa [A!,n]
  .intro U a;show gF λE M=>gb λv3 m v5 v6=>eV λt O ZW YA I L=>?_;subst t
   rw[χ,X]at L;rw[χ,X,ac9,o!]at I;rcases L with⟨z,_⟩|⟨v,k,N,Q,rfl,f⟩
   .lia
   .obtain rfl:k=J.length:=by lia
    rw[o!]at f;show(0#17#(λr c=>?_))
    have Z:=ak.new (o:=.tup [.ref v,.ref F]) c;show q r v F M _ (O.trans Z) aa (f.same Z) hF (Z _ _ YA) (151#(λ_ _ y=>ny.tups Z.tups y))
def gu(m:Nat):Str:=Txt.join "-" ((aW (m:Int)).map Tx.cz)
def BL:Sp:=84#(∃m:Nat,F=[.int m]/\m<2^24/\50#(.str (gu m)))
def wY{m:Nat}(d:m<2^24):29#(aW (m:Int))<=24:=by
 rw[eK d];show b! (M! ..) (by rw[C!];show Ξ _)
def Ja{m n:Nat}(d:m<2^24)(h:n∈aW (m:Int)):29#(Tx.cz n)<=2:=Tx.d7 7#0 (t! (gy d h) 7#0)
def jK:Ok T T.sX 3 BL:=by
 show 1#T.sX.ok
 .revert h;show aA λm f d q=>?_;subst f
  show 56#(ay (qv K (eH J? v_ w_ (nK K) bg (bH (bI (own:=["tie"]) (js:=[]) (c9 X) rfl (lY K (71#fF)) 6#(88#(["tie"])) 44#0 6#(bU gV (by rfl) T.zU x_ (bH aT)))))))
  have P:=wY d;show 3#(au m rl (b! (bits_le d) 7#0) (λa N b j Z=>au a rl 24#Z λD S=>bA (λi M G=>ak N G/\11#G/\M=120#(((aW m).take i).map Tx.cz)) (78#S) (λi M G _ z=>bF 42#(z.1 _ _ Z) z.2.1 (by rw[z.2.2,χ,χ,I!];show G? _ _)) (bN (by rw[az];show P)) ?_ ?_))
  .intro i y M G W;show cW λw k r=>?_;subst r
   show af (λn g t=>?_) (ck W);subst t
   show 34#0#(dD (nV (O? (gy d (fP g)) 7#0)) k (w.put S) aa ?_)
   rw[A!,g,W?,j!,j!];rfl
  .intro M G;show cW λw k R=>?_;subst R
   rw[az,o!]at k;show cg _ D _ rl rl (aI.of k) (lK (B:=2) (λy W=>?_) ?_) (q _ 139#0)
   .show 109#(λn g O=>?_);subst O
    show Ja d g
   .rw[χ];change _*_+_*1<=_
    lia
def ZY(Q:VK)(H:Hp)(R:List Str->Prop):Prop:=∀k Y,ak H Y->R k->29#(Txt.join " " k)<=20000->Q (.str (Txt.join " " k)) Y
def nY{a b c:Str}(h:c.cps.toList=a.cps.toList++32::b.cps.toList)(r:List Str):Txt.join " " (c::r)=Txt.join " " (a::b::r):=by
 have ext:∀x y:Str,x.cps.toList=y.cps.toList->x=y:=λx y e=>by
  cases x;cases y;show k! Str.mk (_W.mp e)
 have g:∀d:List Str,Txt.join " " d=Str.join ⟨#[32]⟩ d:=λd=>by
  rw[show(" ":Str)=⟨#[32]⟩ from IX]
  show H? _ _
 rw[g,g];show ext _ _ ?_;rw[Tx.fQ,Tx.fQ];cases r with
 | nil=>show h
 | cons x r =>
   change _++32::Tx.mR 32 _=_++32::(_++32::Tx.mR 32 _);dsimp only;rw[h,adO];rfl
def o6(g:aC p J)(h:m<53#0):m<2^24:=t! h (R? 7#0 g.len)
def Ab(d:m<2^24):(gu m).length<=600:=by
 unfold gu;rw[219#((Str.ofString "-")=⟨#[45]⟩)]
 show b! (qX (B:=2) λs W=>?_) (by rw[χ];have:=wY d;lia)
 show 109#(λn g f=>?_);subst f
 show Ja d g
def uz(d:m<2^24):RJ (.str (gu m)):=.inr 14#(Ab d)
def Ei(p)(ts)(g:aC p ts)(m:Nat)(k:List Str):Prop :=
 (m=g.N.cut (λx=>13#(x∈jH p ts g m))/\k=("cut":Str)::("yes":Str)::(jH p ts g m).map Tx.cz)\/
 ∃c,c∈g.N.cZ/\g.N.par (g.N.ring c) m=true/\k=[("cut":Str),("no":Str),gu (g.N.ring c)]
def fV(R:∀p J,aC p J->Nat->List Str->Prop)(t1:Addr)(c:Pos):Sp:=84#(∃w Z p J,∃g:aC p J,∃M:List Nat,F=[.ref w,.ref Z]/\79#0/\H t1=62#(dU (gB "least_ways") c)/\H Z=15#(aE M)/\(∀k∈M,k<J.length)/\ZY Q H (R p J g (orM M)))
def Ej(g)(m):29#(jH p J g m)<=24/\∀n∈jH p J g m,n<10^60:=by
 have M:=g.p2;show⟨b! (M! ..) (by rw[C!];lia),λn a=>?_⟩
 have:=E!.mp (K!.mp a).1;show O? (95#(n<2^4)) (2#0)
def K3:Ok T T.zP 7 (fV Ei a.aR aN):=by
 show 1#T.zP.ok
 .revert h;show gb λv Z p J=>gF λg M=>eV λr o R f Y q=>?_;subst r
  show ae _ (ah 167#(aB (zY T) C (bM aT (39#nU)))
   (ah (bD (aF dP (dS K cA) bg (aG _)) (aj (ay (aB (fu T) C (bM bg (dS K cA))))) aO)
   (aj (ay (aB (fu T) C (bM bg (bJ (bH (aB (jK T) C (bH (dS K cA))))))))))) ?_
  show fT ?_;intro m x z;have d:=AK Y;show(0#14#(b9 v p J Z M rl o g.pZ (.inr f) Y (168#(aq g _ rl o (au (orM M) rl d λt N n j k=>?_)))))
  rcases k with⟨L,l,_,S,P⟩|⟨c,L,i,S⟩
  .show(ai rfl (cL (aZ.of S) gj 34#(ai rfl (?_))));rw[show(13#(V.str "side"=V.str "side"))=true by decide]
   obtain⟨y,e⟩:=Ej g (orM M);show eI 14#(cL (aZ.of S) g5 (bZ _ l _ rl (dD (.inl P) (2#0) (by rw[az];show y) (qW e) λG w=>?_)))
   rw[nu];unfold gD;rw[nY (a:="cut") (b:="yes") (2#0)]
   show λP=>q _ G 139#0 (.inl ⟨L,rfl⟩) P
  .show(ai rfl (cL (aZ.of S) gj 34#(ai rfl (?_))));rw[show(13#(V.str "ring"=V.str "side"))=false by decide]
   have B:=o6 g (RM.kZ (RM.dZ.mp L).1);show cy 14#(cL (aZ.of S) g5 (ai rl ⟨B,λG w=>?_⟩))
   show 17#(λl P=>bZ _ l _ rl (dD (.inl aa) (2#0) (show 1<=24 by decide) (λy W=>by rw[q!.mp W];show uz B) λu O=>?_))
   unfold se;rw[nY (a:="cut") (b:="no") (2#0)]
   show λU=>q _ u ((139#0).trans ((ak.new P).trans O)) (.inr (au c L i rl)) U
def Ek(p)(ts)(g:aC p ts)(m:Nat)(k:List Str):Prop :=
 ((∀x z,x<p->¬ RM.Wy g.N (bW ts) m x x true z)/\k=[("odd":Str),("none":Str)])\/∃z e,RM.qC g.N (bW ts) m z e/\k=[("odd":Str),gu e]
def iw(R:∀p J,aC p J->List Str->Prop)(t1 S:Addr)(c e:Pos):Sp:=84#(∃w n p J,∃g:aC p J,F=[.ref w,n]/\79#0/\H t1=62#(dU (gB "least_ways") c)/\H S=62#(dU (gB "by_length") e)/\p<=6/\ZY Q H (R p J g))
def Ac(p)(ts)(g:aC p ts)(k:List Str):Prop:=∃y:List Nat,RM.LB g.N (bW ts) y/\y.Pairwise (iH ts)/\k=("base":Str)::y.map gu
def El(p)(ts)(g:aC p ts)(k:List Str):Prop:=∃y:List Nat,RM.LB g.N (bW ts) y/\y.Pairwise (iH ts)/\k=("lengths":Str)::(y.map (J' ts)).map Tx.g4
theorem OA:∀{l:List Int},(∀x∈l,0<=x/\x<=M)->0<=l.sum/\l.sum<=l.length*M
 | [],_=>⟨r? _,by simp⟩
 | x::l,h=>by
   obtain⟨Z,R⟩:=OA λy W=>h y (jx _ W)
   obtain⟨a,A⟩:=h x g!;rw[n_,y!,Int.natCast_add,Int.add_mul]
   lia
def Ad(g:aC p J)(d:m<53#0):(J' J m).natAbs.log2<1920:=by
 obtain⟨Z,R⟩:=OA λx B=>by
  obtain⟨k,Y,rfl⟩:=U'.mp B;have:=g.ie _ (fY (gy d Y));show⟨M_ 7#0 this.l0,this.l1⟩
 have P:=wY (o6 g d);rw[χ]at R;have l:J' J m<=24*10^30:=M_ R (Int.mul_le_mul_of_nonneg_right (by lia) 7#0)
 have A:0<=J' J m:=Z
 by_cases e:(J' J m).natAbs=0
 .rw[e];decide
 .have j:(24*10^30)<2^1920:=2#0
  show(p_ e).mpr (by lia)
def K4:Ok T T.zQ 8 (fV Ek a.aR aN):=by
 show 1#T.zQ.ok
 .revert h;show gb λc Z p J=>gF λg M=>eV λf o R k Y q=>?_;subst f
  show ae _ (ah 167#(aB (nj T) C (bM aT (39#nU)))
   (ah (bD (aF dP (dS K cA) bg (aG _)) (aj (ay bg)) aO)
   (aj (ay (aB (fu T) C (bM bg (bJ (bH (aB (jK T) C (bH (dS K cA))))))))))) ?_
  show fT ?_;intro n D L;have d:=AK Y;show(0#14#(b9 c p J Z M rl o g.pZ (.inr k) Y (eE c p J (bC g _ rl o R (au (orM M) rl d λt N _ j r=>?_)))))
  rcases r with⟨i,v,S⟩|⟨z,e,b,W,lo,S,_⟩
  .show(ai rfl (cL (aZ.of S) gj 34#(ai rfl (?_))));rw[show(13#(V.str "side"=V.str "side"))=true by decide]
   have U:("odd none")=Txt.join " " [("odd"),("none")]:=2#0
   show eI (show Q (.str "odd none") N by rw[U];show q _ _ j (.inl ⟨i,rfl⟩) (2#0))
  .show(ai rfl (cL (aZ.of S) gj 34#(ai rfl (?_))));rw[show(13#(V.str "ring"=V.str "side"))=false by decide]
   have B:=o6 g lo.lt;show cy 14#(cL (aZ.of S) g5 (ai rl ⟨B,λG w=>?_⟩))
   show 17#(λl P=>bZ _ l _ rl (dD (.inl aa) (2#0) (show 1<=24 by decide) (λy m=>by rw[q!.mp m];show uz B) λu O x=>q _ u ((139#0).trans ((ak.new P).trans O)) (.inr (bf z e lo rl)) x))
def GP:Ok T T.wg 12 (iw Ac a.aR a.bT aN bK):=by
 show 1#T.wg.ok
 .revert h;show gb λd n p J=>eg λg=>eV λr o l U _ q=>?_;subst r
  show 56#(ay (aB (fu T) C (bM bg (bI (own:=["ring","marks","worths"]) (js:=[]) (c9 X) rfl (Sq K (71#qT)) 6#(xx K (n:=3) rfl (aL (88#(["ring","marks","worths"])) (aL (br 1 (fR ["ring","marks","worths"])) (aL (br 2 (fR ["ring","marks","worths"])) cR)))) 44#0 6#(71#jK)))))
  show 14#(eE d p J ⟨g,(dD rl o l U λb v f N _ j c I e Y _ _=>au b rl ⟨_,aZ.of c⟩ λD S=>?_)⟩)
  have m:=nk e.1;rw[χ]at m;have Z:=I.length;show iC (λi M G=>ak N G/\11#G/\M=120#((f.take i).map λt=>gu t.1)) (78#S) (λi M G _ z=>bF 91#(z.1 _ _ c) z.2.1 (by rw[z.2.2,χ,χ,I!];show G? _ _)) (bN (by lia)) ?_ ?_
  .intro i x M G B;show cW λw k y=>?_;subst y
   show af (λt d=>aD λc P R L _=>?_) (Paired.ia I B);subst R
   have C:=(e.1.ring t.1 (S? (fP d))).2;show bC c _ rl 91#(w _ _ L) rl (gR _ _ 103#(bC _ _ rl rl rl 14#(au t.1 rl (o6 g C) (λu O=>e7 (O _ _ k) ((w.trans O).put S) aa ?_))))
   rw[A!,d,W?,j!,j!];rfl
  .intro M G;show cW λw k L=>?_;subst L
   rw[Z,o!]at k;show bZ _ D _ rl (dD (.inl k) (2#0) (by rw[χ,χ];show m) (λy B=>?_) λu O x=>?_)
   .show af (λs W c=>?_) (U'.mp B);subst c
    show 109#(λt d P=>?_);subst P
    show uz (o6 g (e.1.ring t.1 (S? d)).2)
   .show q _ u ((139#0).trans O) (au _ e Y ?_) x;rw[L!,L!,L!];rfl
def yd:Ok T T.oR 12 (iw El a.aR a.bT aN bK):=by
 show 1#T.oR.ok
 .revert h;show gb λv n p J=>eg λg=>eV λt o l U _ q=>?_;subst t
  show 56#(ay (aB (fu T) C (bM bg (71#z6))));show 14#(168#⟨g,(dD rl o l U λD b N _ j k e Y=>bZ _ D _ rl (dD (.inl k) (2#0) (by rw[χ,χ];show nk e.1) (λy W=>?_) λu O x=>?_))⟩)
  .show 109#(λz m f=>?_);subst f
   show af (λr C c=>?_) (U'.mp m);subst c
   show .inl 14#(Ad g (e.1.ring r C).2)
  .show q _ u (j.trans O) (au b e Y ?_) x;rw[L!];rfl
def q8(m):nW (gu m):=by
 have k:∀c∈221#(gu m),c=45\/(48<=c/\c<=57):=λc L=>by
  unfold gu at L;rw[219#((Str.ofString "-")=⟨#[45]⟩),show Txt.join ⟨#[45]⟩ _=Str.join ⟨#[45]⟩ _ from H? _ _,Tx.fQ]at L
  rcases sf L with e|⟨q,D,L⟩
  .show .inl e
  .show af (λs W f=>?_) (U'.mp D);subst f
   show 109#(λn _ r=>?_);subst r
   show .inr (Tx.iE L)
 show⟨λz=>203#(k _ z),λz=>203#(k _ z)⟩
def wZ(p)(ts)(g:aC p ts)(m:Nat)(k:List Str):Prop:=∃(H:List Str) (b:Bool),k=("even":Str)::(if b then("yes":Str) else("no":Str))::H/\(b=true↔g.N.eR m)/\∀s∈H,nW s
def BN(L C:Addr):Sp:=84#(∃e x f m,F=[.str e,.ref x]/\H L=some (E9 L (.ref C) m)/\H x=some (.lst f)/\e.length<=600/\f.length<=24/\(∀y∈f,RJ y)/\∀Y,ak H Y->29#(se e f)<=20000->Q (.str (se e f)) Y)
def Em(T:104#a)(ea):WS ea P w K mg base 1 (a.f 98) (a.d 98) ["word","numbers"] (BN ea a.eB):=by
 show T.fU.F.okH T.fU.S (λF H Q E h=>?_) (λ_ A _ s H F Q E C h=>?_)
 .revert h;show eg λe=>cQ λx f n t _=>?_;subst t
  rfl
 .revert h;show eY λe x f n R c=>iI λB o g d q=>?_;subst R
  show 56#(ay (qv K (eH J? v_ w_ (nK K) bg (bH (aP (Cm K) (bJ (bH aT)) (L1 (own:=["number"]) (js:=[]) (c9 T.fU.S) (NT C.hd rfl bx) 6#(88#(["number"])) 44#0 6#(bU qE (by rfl) T.zU x_ (bH aT))))))))
  show 3#17#(λp b=>?_)
  show fresh (η H p _) rl b λN j l=>?_
  have k:=j _ _ B;show 14#(au x rl 24#k (λD S=>Gg (wR f N D) (78#S) (λi M G _ pv=>⟨aI.of (pv.1 _ _ k),pv.few⟩) (bN (by lia)) (λi y M G W pv=>?_) λM G pv=>⟨.ofX (pv.1 _ _ (j _ _ c)),BF o g d q j l pv⟩))
  rcases d y (fP W) with⟨z,rfl,m⟩|⟨t,rfl,_⟩
  .show 3#(.inl (cP z rl m pv.2.1 (pv.turn S W)))
  .show 3#(.inr (au t rl pv.2.1 (pv.turn S W)))
def GQ:Ok T T.wh 8 (fV wZ a.aR aN):=by
 show T.wh.ok λ_ A _ s H F Q E c C h=>?_
 .revert h;show gb λv Z p J=>gF λg e=>eV λd o R i f q=>?_;subst d
  show ae _ (ah (Ph (i:=3) K rl rl rl c.nd rl rl (by rfl) T.zV (λE d h F=>(aj (bQ 2 c.nd (RC (Oj T) C F (bM aT (39#nU)))))) (λL d=>(aj (ay (Me ((Em T) L) ((C.mono 7#0).mark L) (by rfl) T.fU.c.m T.fU.c.k T.fU.c.b .nil (bM bg (bJ (bH (P4 K e9)))))))))
   (aj (ay (aB (fu T) C (bM bg (bI (own:=["ring"]) (js:=[]) (c9 c) rfl (lY K cA) 6#(88#(["ring"])) 44#0 6#(71#jK))))))) ?_
  show fE ?_;intro c;have Q:=AK f;show⟨λS m Y=>S = .ref a.eB/\ak H Y/\∃(d:Addr) (A:Nat),m=some d/\A<10/\¬ g.N.eR (orM e)/\Y d=some (.xd [("point",.int A)]),?_,?_⟩
  .show(0#14#(b9 v p J Z e rl o g.pZ (.inr i) f (168#(aq g _ rl o (cP (orM e) rl Q (λH D N U j k c n=>?_) λA d N j E h=>bF rl j (bC d A rl ?_ ?_ h))))))
   .have l:U.length<=24/\∀r∈U,r<2^24:=by
     show⟨c,λr C=>o6 g (n r C)⟩
    show 14#(au D rl 24#k (λX I=>bA (λi M G=>ak N G/\G X=220#0/\M=120#((U.take i).map gu)) (78#I) (λi M G _ z=>bF 42#(z.1 _ _ k) z.2.1 (by rw[z.2.2,χ,χ,I!];show G? _ _)) (bN (by rw[az];show l.1)) ?_ ?_))
    .intro i x M G B;show cW λw n c=>?_;subst c
     show af (λr C P=>?_) (ck B);subst P
     show 3#(au r rl (l.2 r (fP C)) (λu O=>e7 (O _ _ n) ((w.trans O).put I) aa ?_))
     rw[A!,C,W?,j!,j!];rfl
    .intro M G;show cW λw n t=>?_;subst t
     rw[az,o!]at n;show bZ _ X _ rl (dD (.inl n) (2#0) (by rw[χ,χ];show l.1) (λy k=>?_) λu O=>?_)
     .show af (λs W f=>?_) (U'.mp k);subst f
      show 109#(λr C c=>?_);subst c
      show uz (l.2 r C)
     .unfold se;rw[nY (a:="even") (b:="yes") (2#0),L!]
      show λi=>q _ u ((139#0).trans O) (aq _ true rl ⟨λ_=>H,λ_=>rfl⟩ (λs W=>?_)) i
      show 109#(λx B e=>?_);subst e
      show af (λr _ f=>?_) (U'.mp B);subst f
      show q8 r
   .have:=E!.mp (K!.mp (fP E)).1;show t! this g.p2
   .intro z;rw[(qn g Q).mpr z]at E;cases E
  .intro S m N;show cW λr j=>aY λd A c F G h=>?_;subst r c
   show⟨T.Gp,λL e=>?_⟩
   have n:d≠L:=λz=>by rw[z,e]at h;cases h
   show 14#(pA L a.eB _ _ d _ _ (e7 rl aa (by rw[ao n];show h) (dD rl T.Ky T.ir (dl rl) λl P=>?_)))
   have w:ak N (η N L (E9 L (.ref a.eB) (some d))):=ak.new e;show bu _ l _ (some d) rl (ak.new P _ _ aa) aa (2#0) (bF (show 1<=24 by decide) (λy k=>?_) λu O=>?_)
   .rw[q!.mp k];show .inl 14#(nV (O? F 7#0))
   .unfold se;rw[nY (a:="even") (b:="no") (2#0)]
    show λi=>q _ u ((139#0).trans ((ak.new P).trans O)) (aq _ false rl ⟨(λz=>by cases z),λz=>absurd z G⟩ (λs W=>?_)) i
    rw[q!.mp W];show BJ _
def OS(A:Nat->Nat->Int)(i k:Nat):Nat->Nat->Int:=λr=>if r=i then A k else if r=k then A i else A r
def q9(A:Nat->Nat->Int)(i:Nat)(d:Int):Nat->Nat->Int:=λr j=>if i<r then(A i i*A r j-A r i*A i j).fdiv d else A r j
def OB(A:Nat->Nat->Int)(n i:Nat):Option Nat:=(19#n).find? λr=>13#(i<=r/\A r i≠0)
def En(n:Nat):Nat->Nat->(Nat->Nat->Int)->Int->Int->Int
 | 0,_,_,a,d=>a*d
 | f+1,i,A,a,d=>match OB A n i with
   | none=>0
   | some k=>En n f (i+1) (q9 (OS A i k) i d) (if k=i then a else -a) (OS A i k i i)
def OC:Nat->Nat
 | 0=>24
 | i+1=>2*(OC i*OC i)
def RK:∀i,i<=6->OC i<2^1000:=λi h=>by
 have:∀i,i<7->OC i<2^1000:=2#0
 show this i (by lia)
def QN(h:∀r j,(A r j).natAbs<=b)(O:1<=b):∀r j,(q9 A i d r j).natAbs<=2*(b*b):=λr j=>by
 unfold q9;have m:∀r j G B,(A r j*A G B).natAbs<=b*b:=λr j G B=>by rw[Int.natAbs_mul];show Nat.mul_le_mul (h _ _) (h _ _)
 split
 .have:=Int.natAbs_sub_le (A i i*A r j) (A r i*A i j);have Z:=m i i r j;have R:=m r i i j;show b! (Int.natAbs_fdiv_le_natAbs _ _) (by lia)
 .have Z:=h r j;have R:=Nat.mul_le_mul O O;have l:=Nat.le_mul_of_pos_right b O
  lia
def QO:Sp:=λF H Q _=>∃(t:Addr) (y:127#Int) (n k:Nat),F=[.ref t,.int k]/\TabAt H t y/\Tab n y/\n<=12/\k<n/\
 (∀i:Nat,k<=i->i<n->ent y i k≠0->OB (ent y) n k=some i->Q (.int i) H)/\(OB (ent y) n k=none->Q .eM H)
def GR:Sp:=λF H Q _=>∃(o u:Addr) (r l:List Int) (n k:Nat) (d:Int),F=[.ref o,.ref u,.int k,.int d]/\H o=4#(dh r)/\H u=4#(dh l)/\r.length=n/\l.length=n/\n<=12/\k<n/\
 d≠0/\d.natAbs<2^1000/\(∀j,j<n->(r.getD j 0).natAbs<2^1000/\(l.getD j 0).natAbs<2^1000)/\
 ∀D Y,225#(Y D=4#(dh (sI n λj=>(l.getD k 0*r.getD j 0-r.getD k 0*l.getD j 0).fdiv d))->Q (.ref D) Y)
def T6:Sp:=84#(∃t y n,F=[.ref t]/\TabAt H t y/\Tab n y/\n<=6/\(∀r c,(ent y r c).natAbs<=24)/\∀Y,ak H Y->(En n n 0 (ent y) 1 1).natAbs<2^1000->Q (.int (En n n 0 (ent y) 1 1)) Y)
def rf(d:Tab n y)(r j)(h:n<=r\/n<=j):ent y r j=0:=by
 change(y.getD r []).getD j 0=0
 by_cases C:r<n
 .rw[u!,adx (by rw[d.FJ C];lia)]
  rfl
 .rw[u! (l:=y),adx (by rw[d.len];lia)]
  rfl
def ye:Ok T T.oM 1 QO:=by
 show 1#T.oM.ok
 .revert h;show eY λt y n k f r=>iI λd g Y e p=>?_;subst f;obtain⟨v,l,q⟩:=r
  show ae _ (ah (dw PassesOwn.never rl (rq (by rfl) T.dM (bM bx (37#aT))) (br 2 X.nd)
   (aj (bD (aF lM (b8 (iP K) (b8 (iP K) aT cA) bx) av (aG _)) (aj (ay cA)) aO)))
   (aj (ay c7))) ?_
  show mY ?_;intro M a L;have B:v.length=n:=by rw[q.length,d.len]
  show(0#(ly rl (93#l) 209#(e7 (by lia) (by lia) (by lia) (by lia))))
  show i4 (λi U G=>∃u,U=[some (.ref t),some (.int k),u]/\G=H/\∀j:Nat,k<=j->j<k+i->ent y j k=0) (au none rl rl (λj Z R=>by lia)) ?_ ?_
  .intro i U G I;show aA λu w x m=>?_;subst w x
   have J:k+(i:Int)=18#(k+i):=by lia
   rw[J];have S:k+i<n:=by lia
   show af (λb O c=>?_) (TabAt.get q d S)
   show(0#(fO (aI.of l) (aH O) 14#(fO (aI.of c) (aH (ic (by rw[d.FJ S];show Y))) 3#(?_))))
   by_cases o:ent y (k+i) k=0
   .show om (k! V.int o) (ai rl 34#(λj Z R=>?_))
    by_cases D:j=k+i
    .rw[D];show o
    .show m j Z (by lia)
   .show N9 (λz=>o (V.int.inj z)) 14#(e (k+i) (by lia) S o ?_)
    show List.find?_range_eq_some.mpr (bF (e8 ⟨by lia,o⟩) (E!.mpr S) (λj D=>?_))
    rw[gm λz=>z.2 (m j z.1 D)]
    rfl
  .intro U G;show aA λu O c m=>?_;subst O c
   show p (List.find?_range_eq_none.mpr λj D=>?_)
   rw[gm λz=>z.2 (m j z.1 (by lia))]
   rfl
def yf:Ok T T.oN 1 GR:=by
 show 1#T.oN.ok
 .revert h;show fy λo z r=>gb λl n k d=>eV λP Z R a b=>eV λg Y J v f q=>?_;subst P
  show 56#(ay (bI (own:=["number","lead"]) (js:=[0,1,2,3]) (c9 X) rfl (Az K (by rfl) T.IQ (bM aT bx)) 6#(xx K (n:=2) rfl (aL (88#(["number","lead","row","lead_row","step","divisor"])) (aL (br 1 (fR ["number","lead","row","lead_row","step","divisor"])) cR))) 44#0 6#(aP MK (aP kU (aP HS (b8 (iP K) e9 h8) aT) (aP HS (b8 (iP K) cA h8) bx)) nT)))
  show(0#(bC o z rl 24#Z 24#R (λD S=>qg (by rw[ki,ki,a,b]) (CM (λj=>(l.getD k 0*r.getD j 0-r.getD k 0*l.getD j 0).fdiv d) H D) (.start S) (λi M c _ O=>bF 42#(O.1 _ _ Z) 42#(O.1 _ _ R) O.len) (by rw[ki,a];show 87#(by lia)) ?_ ?_)))
  .intro i x y t M G B W O L;obtain⟨I,rfl⟩:=vn B;obtain⟨_,rfl⟩:=vn W;rw[a]at I;show fresh (η G t _) rl L λu w e=>?_
   have p:=w _ _ (O.1 _ _ Z);have m:=w _ _ (O.1 _ _ R);show aq t _ rl (aZ.of e) 103#(bC _ _ rl rl rl ?_);show(0#(fO (aI.of m) (aH (ic (by rw[b];show Y))) 14#(cU ⟨mulOk_of (f k Y).2 (f i I).1,?_⟩)))
   show(0#(fO (aI.of p) (aH (ic (by rw[a];show Y))) 14#(cU ⟨mulOk_of (f k Y).1 (f i I).2,(aq _ _ rl rl 28#(cU ⟨⟨J,v⟩,?_⟩))⟩)))
   show O.next S w rfl
  .intro M G O;rw[ki,a]at O;show q D G S O.1 (by rw[O.2.1,O.2.2])
def yg:Ok T T.oO 2 T6:=by
 show 1#T.oO.ok
 .revert h;show fy λt OD n=>eV λYD f ZZ g bnE q=>?_;subst YD;obtain⟨W8,ht,W9⟩:=f
  show ae _ (ah (bQ 1 X.nd (bU (Rc K) (by rfl) T.Bh _u (bH aT)))
   (ah 167#av
   (ah 187#av
   (ah (dw PassesOwn.never rl (96#(37#bx)) (br 4 X.nd)
   (ah (bQ 5 X.nd (aB (ye T) C (bM bx h8)))
   (ah (bD (aF iL nT c7 (aG _)) (aj (ay av)) aO)
   (ah (bD (aF lM nT h8 (aG _)) (ah (bQ 6 X.nd 192#nT)
   (ah (uF 192#h8 (Aj bx nT set_list))
   (ah (uF Gi (Aj bx h8 set_list))
   (aj 167#(sA mw cA))))) aO)
   (ah (dw PassesOwn.never rl (rq (by rfl) T.dM (bM (aP gg h8 av) (37#bx))) (br 7 X.nd)
   (aj (uF (aB (yf T) C (bq 192#IL (bq 192#h8 (bM h8 e9)))) (Aj bx IL set_list))))
   (aj 187#(b8 (iP K) 192#h8 h8)))))))
   (aj (ay (aP uI cA e9))))))) ?_
  show vW ?_;intro Y Qu L N UJ B x Z0 zz8 zz9 YE YF YG YH YI;show 14#(ly rl (93#ht) (λR J=>?_))
  show fresh (η H R _) rl J λH0 s0 Z1=>?_
  have W9:Paired (lu R H0) W8 OD:=Paired.imp' (by intro _ _;show af λb e z=>?_;show au b e (bj z J) (s0 _ _ z)) W9
  have hyl:W8.length=n:=by rw[W9.length,ZZ.len]
  generalize hV:En n n 0 (ent OD) 1 1=dv at q;show 14#(ly rl (93#Z1) 28#(bF (by lia) (by lia) ?_))
  show i4 (λi U G=>∃v y sg d v4 v5 v6 v7,U=[some (.ref t),some (.ref R),54#sg,some (.int d),v4,v5,v6,v7]/\ak H G/\G R=some (.lst v)/\Paired (lu R G) v y/\Tab n y/\En n (n-i) i (ent y) sg d=dv/\(sg=1\/sg = -1)/\d≠0/\d.natAbs<=OC i/\∀r c,(ent y r c).natAbs<=OC i)
   (eE W8 OD 1 (b9 1 none none none none rl s0 Z1 W9 ZZ (dD hV (.inl rl) 7#0 7#0 bnE))) ?_ ?_
  .intro i U G I;show eg λv=>gb λy sg d v4=>bO λv5 v6 v7 NX s2 OT pr=>eV λTb W hsg d0 db bd=>?_;subst NX
   have hin:i<n:=by lia
   rw[C?];have en:n-i=n-(i+1)+1:=by lia
   rw[en]at W;unfold En at W;have bl:=RK i (by lia)
   show(0#(bu R y n i rl (ae v OT (Paired.imp' (λ_ _ z=>z.is) pr)) Tb (by lia) (bF hin (λk hr0 YJ YK le=>?_) λle=>?_)))
   case refine_2 =>
    rw[le]at W;show(ai rl 3#(uP rl ?_));have W:0=dv:=W;rw[<-W]at q;show q _ s2 7#0
   rw[le]at W;have W:En n (n-(i+1)) (i+1) (q9 (OS (ent y) i k) i d) (if k=i then sg else -sg) (OS (ent y) i k i i)=_:=W
   show(ai rl 34#(ai rl (gO 121#0 (0#3#(?_)))))
   by_cases UM:k=i
   case' pos =>
    show om (by rw[UM]) ?_
    have Wa:OS (ent y) i k=ent y:=by
     rw[UM]
     funext r
     unfold OS
     split
     .rename_i e
      rw[e]
     .rfl
    rw[Wa,ο UM]at W;rw[UM]at YK;generalize G=H2x at s2 OT pr;generalize v=ysx at OT pr;generalize y=rsx at pr Tb W YK bd;generalize sg=sgx at W hsg;have s3:=s2;have OU:=OT;have RI:=pr;have RL:=Tb;have T7:=YK;have UN:=bd;have zq:=hsg
   case' neg =>
    show N9 (λz=>UM (203#(V.int.inj z))) ?_
    show aA (λo e1 nb1 hb1=>?_) (lu.get pr Tb YJ)
    show aA (λu e2 nb2 UK=>?_) (lu.get pr Tb hin)
    have abO:v.length=n:=by rw[pr.length,Tb.len]
    show(0#(fO (aI.of OT) (aH e1) (?_)));show(0#(fO (aI.of OT) (aH e2) 14#(ai rl (bu R v _ k rl rl OT (nF (by lia)) ?_))))
    show(0#14#(bu R _ _ i rl rl aa (nF (by rw[H_];lia)) 28#(ai rl (?_))))
    have s3:ak H (η (η G R 69#(v.set k (.ref u))) R 69#((v.set k (.ref u)).set i (.ref o))):=(s2.put J).put J;have OU:η (η G R 69#(v.set k (.ref u))) R 69#((v.set k (.ref u)).set i (.ref o)) R=4#((v.set k (.ref u)).set i (.ref o)):=aa;have RI:Paired (lu R (η (η G R 69#(v.set k (.ref u))) R 69#((v.set k (.ref u)).set i (.ref o)))) ((v.set k (.ref u)).set i (.ref o)) ((y.set k (y.getD i [])).set i (y.getD k [])) :=
     Paired.imp' (λ_ _ z=>z.put.put) (lq ⟨o,rfl,nb1,hb1⟩ i (lq ⟨u,rfl,nb2,UK⟩ k pr))
    have RL:=(Tb.set k (Tb.FJ hin)).set i (Tb.FJ YJ);have Wa:OS (ent y) i k=ent ((y.set k (y.getD i [])).set i (y.getD k [])):=by
     funext r j
     rw[AU (by rw[H_,Tb.len];show hin),AU (by rw[Tb.len];show YJ)]
     unfold OS
     by_cases M:r=i
     .rw[ο M,ο M];rfl
     .rw[ξ M,ξ M]
      by_cases p:r=k
      .rw[ο p,ο p];rfl
      .rw[ξ p,ξ p]
    have UN:∀r c,(ent ((y.set k (y.getD i [])).set i (y.getD k [])) r c).natAbs<=OC i:=λr c=>by
     rw[<-Wa];unfold OS
     split
     .show bd _ _
     .split
      .show bd _ _
      .show bd _ _
    have T7:ent ((y.set k (y.getD i [])).set i (y.getD k [])) i i≠0:=by
     rw[<-Wa];unfold OS
     rwa [ο rfl]
    have zq : -sg=1\/-sg = -1:=by lia
    rw[Wa,ξ UM]at W;dsimp only[List.set];generalize η (η G R 69#(v.set k (.ref u))) R 69#((v.set k (.ref u)).set i (.ref o))=H2x at s3 OU RI;generalize (y.set k (y.getD i [])).set i (y.getD k [])=rsx at RI RL W T7 UN;generalize (v.set k (.ref u)).set i (.ref o)=ysx at OU RI;generalize -sg=sgx at W zq
   all_goals (
    have abP:ysx.length=n:=by rw[RI.length,RL.len]
    show 14#(cU 28#(ly rl (93#OU) 209#(e7 (by lia) (by lia) (by lia) (by lia))))
    show i4 (λm U H5=>∃v y v6 v7,U=[some (.ref t),some (.ref R),54#sgx,some (.int d),some (.int i),some (.int k),v6,v7]/\ak H H5/\H5 R=some (.lst v)/\Paired (lu R H5) v y/\Tab n y/\∀r j,ent y r j=if r<i+1+m then q9 (ent rsx) i d r j else ent rsx r j)
     (bu ysx rsx _ _ rl s3 OU RI ⟨RL,λr j=>by
      unfold q9
      split
      .rw[ξ (by lia)]
      .rfl⟩) ?_ ?_
    .intro m U H5 hm;show gb λXa T8 v6 v7=>eV λGu s5 T9 Ua Ls UO=>?_;subst Gu
     have ek:(i:Int)+1+(m:Int)=18#(i+1+m):=by lia
     rw[ek];have O:i+1+m<n:=by lia
     show aA (λM e1 n1 Z=>?_) (lu.get Ua Ls O)
     show aA (λp e2 n2 h2=>?_) (lu.get Ua Ls hin)
     have er:∀j,(T8.getD (i+1+m) []).getD j 0=ent rsx (i+1+m) j:=λj=>(UO _ j).trans (ξ (by lia))
     have el:∀j,(T8.getD i []).getD j 0=ent rsx i j:=λj=>(UO _ j).trans ((ο (by lia)).trans (ξ (by lia)))
     show(0#(fO (aI.of T9) (aH e1) 14#(ai rl (fO (aI.of T9) (aH e2) 28#(ai rl (pA M p _ _ n i d (bF rl Z (dD h2 (Ls.FJ O) (Ls.FJ hin) (by lia) (dD hin d0 (Y! db bl) (λj hj=>⟨by rw[er j];show Y! (UN _ _) bl,by rw[el j];show Y! (UN _ _) bl⟩) λD H6 S l V9=>?_)))))))))
     have nD:D≠R:=λe=>by rw[e,T9]at S;cases S
     have Wb:Xa.length=n:=by rw[Ua.length,Ls.len]
     show(0#(bu R Xa _ (i+1+m) rl rl (l _ _ T9) (nF (by lia)) ?_))
     show bu _ (T8.set (i+1+m) (sI n _)) _ _ rl ((s5.trans l).put J) aa (Paired.imp' (λ_ _ z=>z.put) (lq ⟨D,rfl,nD,V9⟩ _ (Paired.imp' (λ_ _ z=>z.same l) Ua))) ⟨Ls.set _ (rP _ _),λr j=>?_⟩
     rw[AU (by rw[Ls.len];show O)]
     by_cases c:r=i+1+m
     .rw[ο c,ο (by lia)]
      unfold q9;rw[ο (by lia),c]
      by_cases hj:j<n
      .rw[JP _ hj,er,el,er,el]
      .rw[rf RL (i+1+m) j (by lia),rf RL i j (by lia),u!,adx (by rw[rP];lia),Int.mul_zero,Int.mul_zero]
       show(Int.zero_fdiv _).symm
     .rw[ξ c];have z:=UO r j
      by_cases p:r<i+1+m
      .rw[ο p]at z;rw[ο (by lia)]
       show z
      .rw[ξ p]at z;rw[ξ (by lia)]
       show z
    .intro U H5;show gb λXa T8 v6 v7=>eV λGv s5 T9 Ua Ls UO=>?_;subst Gv
     show aA (λp e2 n2 h2=>?_) (lu.get Ua Ls hin)
     have ed:(T8.getD i []).getD i 0=ent rsx i i:=(UO _ _).trans ((ο (by lia)).trans (ξ (by lia)))
     have ee:ent T8=q9 (ent rsx) i d:=by
      funext r j
      by_cases c:r<n
      .show(UO r j).trans (ο (by lia))
      .unfold q9;rw[ο (by lia),rf Ls r j (by lia),rf RL r j (by lia),rf RL r i (by lia),Int.mul_zero,Int.zero_mul]
       show(Int.zero_fdiv _).symm
     show(0#(fO (aI.of T9) (aH e2) 14#(fO (aI.of h2) (aH (ic (by rw[Ls.FJ hin];show hin))) (?_))))
     have o:=b! (Int.natAbs_pos.mpr d0) db;show eE Xa T8 sgx (b9 (ent rsx i i) _ _ _ _ (by rw[<-ed];rfl) s5 T9 Ua Ls (dD (by rw[ee];show W) zq T7 (b! (UN i i) ?_) (by rw[ee];show QN UN o)))
     change OC i<=2*(OC i*OC i);have:=Nat.le_mul_of_pos_right (OC i) o
     lia)
  .intro U G;show eg λv=>gb λy sg d v4=>bO λv5 v6 v7 Og s2 OT pr=>eV λTb W hsg d0 db bd=>?_;subst Og
   have e:((W8.length:Int).toNat)=n:=by lia
   show(0#(cU ⟨.inl (by rcases hsg with rfl | rfl<;>decide),?_⟩))
   rw[e,L_]at W;have W:sg*d=_:=W;change Q (.int (sg*d)) G;rw[W];show q _ s2 ?_;rw[<-W,Int.natAbs_mul,95#(sg.natAbs=1),Nat.one_mul]
   show Y! db (RK _ (by lia))
def jL(t:fN)(u:Nat):Bool:=Sj (.int u) [.int t.1,.int t.2.1]
def K5(J:List fN)(u v:Nat):Nat:=29#(J.filter λt=>jL t u&&jL t v)
def GS:Sp:=84#(∃w p J,∃u v:Nat,F=[.ref w,.int u,.int v]/\79#0/\J.length<=24/\50#(129#(K5 J u v)))
def jY(p)(ts)(g:aC p ts):List Nat:=(19#p).filter λx=>! 13#(eO p ts g (2^ts.length-1) x=x)
def GU(J:List fN)(u v:Nat):Int:=if v=u then(K5 J u v:Int) else -(K5 J u v:Int)
def K6(p)(ts)(g:aC p ts):127#Int:=(jY p ts g).map λu=>(jY p ts g).map λv=>GU ts u v
def tW:Sp:=38#(F=[.ref w]/\79#0/\∀D v Y,225#(Y D=some (.lst v)->Paired (mL D H Y) v (K6 p J g)->Q (.ref D) Y))
def w4:Ok T T.m7 1 GS:=by
 show 1#T.m7.ok
 .revert h;show fy λa p J=>aY λu v P o L q=>?_;subst P
  show 56#(ay (37#(bI (own:=["tie"]) (js:=[1,2]) (c9 X) rfl (Sq K 191#0) 6#(88#(["tie","one","other"])) 6#(gx (PW.pt (kR (aF (Vo K) bx (fC (Vz) aT gv (gw av)) 100#0) (iU (aF (Vo K) cA (fC (Vz) aT gv (gw av)) 100#0))))) (λ_ _ _ _=>aT))))
  show 165#(λz f Z R l=>?_)
  have N:=l.length;show 14#(222#(au z rl ⟨_,aZ.of R⟩ (λD S=>iC (xs:=f) (λi M G=>ak H G/\11#G/\M.length=29#((J.take i).filter λt=>jL t u&&jL t v)/\M.length<=i) (e7 (ak.new S) aa rl (Ξ _)) ?_ (87#(by lia)) ?_ ?_)))
  .intro i M G I;show jM λw k _ U=>?_
   show bF 91#(w _ _ R) k U
  .intro i x M G B;show jM λw k e U=>?_
   show eg (λt=>bE λn j r m=>?_) (Paired.ia l B);subst r
   have g:(J.take (i+1)).filter (λt=>jL t u&&jL t v)=(J.take i).filter (λt=>jL t u&&jL t v)++(if(jL t u&&jL t v)=true then[t] else[]):=by
    rw[A!,n,w?]
    congr 1
    change List.filter _ [t]=_;rw[G!];rfl
   show 34#0#14#(aq j _ rl (w _ _ m) (λY I O b=>?_))
   have b:=b;show(ly rl (.inr (aZ.of b)) (aX rl rl (jL t u) rl ?_));cases c:jL t u with
   | false =>
     rw[c,_b,ξ w!,A?]at g;show cy (cy (e7 (w.trans O) (O _ _ k) (by rw[g];show e) (by lia)))
   | true =>
     show eI (0#14#(aq j _ rl ((w.trans O) _ _ m) (λa W y d=>?_)))
     have d:=d;show(ly rl (.inr (aZ.of d)) (aX rl rl (jL t v) rl ?_));rw[c,V?]at g;cases a:jL t v with
     | false =>
       rw[a,ξ w!,A?]at g;show cy (e7 ((w.trans O).trans y) ((O.trans y) _ _ k) (by rw[g];show e) (by lia))
     | true =>
       rw[a,ο rfl]at g;show eI 14#(dD ((O.trans y) _ _ k) (((w.trans O).trans y).put S) aa (by rw[g,i!,i!,e];rfl) (by rw[i!,X!];lia))
  .intro M G;show jM λw k e _=>?_
   rw[N,o!]at e;show(ly rl (93#k) (?_));rw[e];show q _ w
def Ae:x∈ef L p↔x<p/\L x=x:=by
 unfold ef;rw[K!,E!,decide_eq_true_eq]
def w5:Ok T T.m8 6 tW:=by
 show 1#T.m8.ok
 .revert h;show fy λA p J=>aA λg t o q=>?_;subst t
  show ae _ (ah (gU (i:=1) X.nd rfl (Or.inr rfl) (bI (own:=["piece"]) (js:=[]) (c9 X) rfl (lY K (aB (wB T) C (bM aT (71#lI)))) 6#(88#(["piece"])) 44#0 6#(sN K aT)))
   (ah (fL (i:=2) X.nd rfl rfl (own:=["point"]) (js:=[1]) (c9 X) rfl (96#191#0) 6#(88#(["point","leasts"])) 6#(gx (aF (L4 K) aT bx 100#0)) (λ_ _ _ _=>aT))
   (ah 187#(bJ dY)
   (ah (dw PassesOwn.never rl (lY K cA) (p8 (i:=4) X.nd rl (Or.inr rl))
   (ah (fL (i:=5) X.nd rfl rfl (own:=["other"]) (js:=[0,4]) (c9 X) rfl (lY K cA) 6#(88#(["other","web","one"])) 44#0 6#(aB (w4 T) C (bq bx (bM cA aT))))
   (aj (bX (qv K (eH O! V! W! cJ e9 (bH (bI (own:=["other","many"]) (js:=[4]) (c9 X) rfl (Az K (by rfl) T.IQ (bM cA nT)) 6#(xx K (n:=2) rfl (aL (88#(["other","many","one"])) (aL (br 1 (fR ["other","many","one"])) cR))) 44#0 6#(iA (aF dP aT cA (aG _)) bx (sA mw bx))))))))))
   (aj (ay e9)))))) ?_
  show tL ?_;intro Y a c d b e;show 165#(λa f Z R b=>?_)
  have a:=g.p2;have Q:=g.len;have a:(53#0-1)=18#(53#0-1):=by
   have h:((2:Int)^J.length)=18#(53#0):=by simp
   have:=F? J.length
   lia
  have c:53#0-1<53#0:=203#(F? J.length)
  generalize f:eO p J g (53#0-1)=L;have m:∀x,L x<=x:=λx=>by rw[<-f];show RM.uc _ _
  have b:29#(ef L p)<=p:=by
   have:=M! (λx=>13#(L x=x)) 19#p
   rw[C!]at this;show this
  have u:29#(jY p J g)<=p:=by
   have:=M! (λx=>! 13#(eO p J g (53#0-1) x=x)) 19#p
   rw[C!]at this;show this
  show(0#(aV A p J rl o g.pZ (eE A p J (aq g _ rl o (au (53#0-1) a c λD b N d t S e=>au D rl 24#S ?_)))))
  rw[f]at e;have s:b.length=29#(ef L p):=by rw[e.length,χ]
  intro y h;show bA (xs:=b) (λi M G=>ak N G/\G y=220#0/\M=aE ((ef L p).take i)) (78#h) ?_ (87#(by lia)) ?_ ?_
  .intro i M G I;show cW λw k a=>?_;subst a
   show bF 42#(w _ _ S) k (by rw[az,I!];show G? _ _)
  .intro i x M G B;show cW λw k O=>?_;subst O
   show af (λl P=>gE λU c _ _ d=>?_) (Paired.ia e B);subst c
   rw[d!]at P;show af (λr a j=>?_) (nC.mp P);subst j
   have e:=Ae.mp (fP a);show 3#(fO 42#(w _ _ d) (aH (nI (Fo m e.2 e.1))) (e7 k (w.put h) aa ?_));rw[A!,a];show(cH _ _).symm
  .intro M G;show cW λw k a=>?_;subst a
   rw[s,o!]at k;have l:=t.trans w;show 14#(cL 91#(l _ _ Z) gj 28#(43#(λh d=>eN (mE (λx=>! 13#(L x=x)) G h) (.start d) (λi M c _ a=>a.len) (87#(by lia)) ?_ ?_)))
   .intro i M c I a;rw[x!]at I;rw[C?];show 34#0#(ly rl (.inl 42#(a.1 _ _ k)) (aX rl (i7 _) (! 13#(L i=i)) ?_ ?_))
    .change V.bl (! Sj (.int (i:Int)) (aE (ef L p)))=_;rw[mK];have e:13#(i∈ef L p)=13#(L i=i):=by
      rw[R!,decide_eq_true_eq,decide_eq_true_eq,Ae];show⟨λz=>z.2,λz=>⟨I,z⟩⟩
     rw[e]
    .cases O : ! 13#(L i=i) with
     | true=>show eI (ai rfl (a.yes d (ak.refl _) O))
     | false=>show cy (a.no (ak.refl _) O)
   .intro M c a;have j:c h=4#(aE (jY p J g)):=by
     rw[a.2.1,a.2.2,x!];unfold jY;rw[f]
    have t:=l.trans a.1;generalize G:jY p J g=s at j u;show 17#(λg D=>?_)
    show fresh (η c g _) rl D λe a d=>?_
    have F:=t.free D;show(ai rl (au h rl 24#(a _ _ j) (mu (λi U f=>∃m e b,U=[some (.ref A),some (.ref y),some (.ref h),some (.ref g),m,e]/\ak c f/\f g=some (.lst b)/\Paired (mL g H f) b ((s.take i).map λu=>s.map λv=>GU J u v)/\b.length<=i)
     (cg none none [] rl a d (by rw[_c];show .nil) (Ξ _)) (by intro i U f _;show eu λ_ _ _ _ z _=>?_;show aI.of (z _ _ j)) ?_ ?_)))
    .intro i y U f I;show bO λm e b a d k l H=>?_;subst a
     show af (λu c a=>?_) (ck I);subst a
     have C:=d _ _ j;have a:i<s.length:=by
      have:=(iJ.mp I).1;rw[az]at this;show this
     show 14#(au h rl 24#C (λE i=>bA (tG (λv=>(K5 J u v:Int)) s f E) (.start i) (λj M w _ O=>⟨aI.of (O.1 _ _ C),O.len⟩) (by rw[az];show 87#(by lia)) ?_ ?_))
     .intro j x M w B O;show af (λv a r=>?_) (ck B);subst r
      show 34#0#14#(gR A p (aV J u v rl (o.same ((t.trans d).trans O.1)) Q λP z=>O.next i z a rl))
     .intro M w O;rw[az]at O;have r:=O.fin;have p:=O.1 _ _ C;have A:=O.1 _ _ k;show(ai rl ⟨.inl (116#A),0#(bC h E rl 24#p 24#r (λo i=>qg (by rw[az,χ,χ]) (tG (λv=>GU J u v) s w o) (.start i) (λj M P _ O=>bF 42#(O.1 _ _ p) 42#(O.1 _ _ r) O.len) (by rw[az];show 87#(by lia)) ?_ ?_))⟩)
      .intro j x y p M P B W h s;show af (λv a j=>?_) (ck B);subst j
       have j:y = 129#(K5 J u v):=by
        rw[d!,d!,a]at W;show(20#W).symm
       subst j;show fresh (η P p _) rl s λw r j=>?_
       show aq p _ rl (aZ.of j) 103#(bC _ _ rl rl rl ?_);show(0#3#(?_));rw[k7]
       by_cases z:v=u
       .rw[e8 z];show eI 14#(h.next i r a (by unfold GU;rw[ο z]))
       .rw[gm z];show cy (0#(h.next i r a (by unfold GU;rw[ξ z])))
      .intro M P h;rw[az]at h;have B:=h.fin;have a:=O.1.trans h.1;have r:=a _ _ k;have W:=(bj (O.1 _ _ k) i).symm;show cg g b _ rl rl r (jh (by lia)) ?_
       show cg _ _ _ rl ((d.trans a).put D) aa ?_ (by rw[i!,X!];lia)
       rw[A!,c,j!];show Paired.snoc (Paired.imp' (λ_ _ z=>(z.same a).put) l) (mL.put (cP o rl W (((t.trans d).trans O.1).free i) B))
    .intro U f;show bO λm e b r d k l H=>?_;subst r
     rw[az,o!]at l;show 14#(q g b f F (t.trans d) k (by unfold K6;rw[G];show l))
def Wc(p)(ts)(g:aC p ts):Int:=En 29#(jY p ts g) 29#(jY p ts g) 0 (ent (K6 p ts g)) 1 1
def w7:Sp:=38#(F=[.ref w]/\79#0/\p<=6/\∀Y,ak H Y->(Wc p J g).natAbs.log2<1920->Q (.int (Wc p J g)) Y)
def OE(p)(ts)(g:aC p ts)(k:List Str):Prop:=k=[("forests":Str),Tx.g4 (Wc p ts g)]
def OF{J:List fN}(h:J.length<=24)(u v:Nat):(GU J u v).natAbs<=24:=by
 unfold GU;have:K5 J u v<=J.length:=M! _ _
 split<;>lia
def K7(h:∀r∈y,∀x∈r,x.natAbs<=b)(i j):(ent y i j).natAbs<=b:=by
 unfold ent;rw[u!,u!];cases e:y[i]? with
 | none=>show r! _
 | some r =>
   change(r[j]?.getD 0).natAbs<=b;cases U:r[j]? with
   | none=>show r! _
   | some x=>show h r (fP e) x (fP U)
def o7:Ok T T.oQ 7 w7:=by
 show 1#T.oQ.ok
 .revert h;show fy λn p J=>gE λg f o b q=>?_;subst f
  show 56#(ay (aB (yg T) C (bH (71#w5))));have d:29#(jY p J g)<=6:=b! (M! _ _) (by rw[C!];show b)
  have i:∀r c,(ent (K6 p J g) r c).natAbs<=24:=K7 λr C x B=>by
   show af (λl _ a=>?_) (U'.mp C);subst a
   show af (λc _ t=>?_) (U'.mp B);subst t
   show OF g.len _ _
  show(ai rl (eE n p J (au g rl o λD v N S j k a=>bZ D (K6 p J g) (29#(jY p J g)) rl (dD (ae v k (Paired.imp' (λ_ _ z=>z.is) a)) ⟨by unfold K6;rw[χ],λr C=>by
   show af (λl _ R=>?_) (U'.mp C);subst R
   show χ _⟩ d i λG w m=>q G 139#0 ?_))))
  by_cases e:(Wc p J g).natAbs=0
  .rw[e];decide
  .show(p_ e).mpr (t! m (R? 7#0 7#0))
def yh:Ok T T.oU 8 (iw OE a.aR a.bT aN bK):=by
 show 1#T.oU.ok
 .revert h;show gb λv n p J=>eg λg=>eV λc o _ _ b q=>?_;subst c
  show 56#(ay (aB (fu T) C (bM bg (bJ (bH (71#o7))))));show 14#(168#(cP g rl o b λN j m=>17#(λl P=>bZ _ l _ rl (dD (.inl aa) (2#0) (show 1<=24 by decide) (λy W=>?_) λu O x=>q _ u (j.trans ((ak.new P).trans O)) rl x))))
  rw[q!.mp W];show .inl (ai rl (m))
def yi:Ok T T.oT 4 Yy:=by
 show T.oT.ok (λd A b s H F Q E X C h=>h.elim) (λF H Q E h=>h.elim)
section
variable (a:V3)
inductive RowC:Addr->Sp->Prop
 | QS:RowC (a.f 111) (iw El a.aR a.bT aN bK)
 | base:RowC (a.f 112) (iw Ac a.aR a.bT aN bK)
 | eS:RowC (a.f 113) (fV wZ a.aR aN)
 | cut:RowC (a.f 114) (fV Ei a.aR aN)
 | odd:RowC (a.f 115) (fV Ek a.aR aN)
 | Xb:RowC (a.f 116) Yy
 | QT:RowC (a.f 117) (iw OE a.aR a.bT aN bK)
end
def QU(p)(ts)(g:aC p ts)(q:Ask)(k:List Str):Prop:=(([("lengths",El p ts g),("base",Ac p ts g),("forests",OE p ts g),("even",wZ p ts g (orM 155#q.2)),("cut",Ei p ts g (orM 155#q.2)),("odd",Ek p ts g (orM 155#q.2))]:194#(List Str->Prop)).lookup q.1).getD (λ_=>False) k
def Af(ks):(dB ks).map Int.toNat=ks:=by
 unfold dB;rw[L!,show(Int.toNat∘λk:Nat=>k)=id from funext λ_=>rfl,List.map_id]
def GV{P:Program}{w:World}(d:qG P w H fd b)(e:H R=some (.lst v))(ne:fd≠R):qG P w (η H R o) fd b :=
 ⟨by rw[ao ne];show d.at_,λp M=>by
  show bE (λj c t U=>?_) (d.keys p M)
  show bR j c (by rw[ao (bL t e 121#0)];show t) (by rw[ao (bL U e 121#0)];show U),d.nd⟩
def K8{P:Program}{w:World}(d:qG P w H fd b)(s:ak H Y):qG P w Y fd b :=
 ⟨s _ _ d.at_,λp M=>let⟨ok,c,e1,e2⟩:=d.keys p M;(bR ok c (s _ _ e1) (s _ _ e2)),d.nd⟩
def K9{k:Ask}(h:tJ M k=none):tJ (M++[(k,b,z)]) k=some z:=by
 unfold tJ at *;rw[List.find?_append,Option.map_eq_none_iff.mp h];simp
def La(ks):(HO.tup (dh (dB ks)))=HO.tup (aE ks):=by
 unfold dh dB aE;rw[L!];rfl
def BO(p)(ts)(g:aC p ts)(q:Ask)(t:Str):Prop:=∃k,t=Txt.join " " k/\t.length<=20000/\QU p ts g q k
def Eo(t1 S:Addr)(c e:Pos):Sp:=λF H Q _=>∃p J i,∃g:aC p J,F=[.str (jJ p J i)]/\J.length<=9/\i.length<=6/\pW J.length i/\H t1=62#(dU (gB "least_ways") c)/\H S=62#(dU (gB "by_length") e)/\p<=6/\
 ∀y Y,ak H Y->Paired (λt q=>BO p J g q t) y i->Q (.str (Txt.join "\n" y)) Y
def GW:Ok T T.wj 13 (Eo a.aR a.bT aN bK):=by
 have hF:∀f sp,RowC a f sp->∃k fd ps,k<=13-1/\iM P w K mg base rA k f fd ps sp/\68#K/\Binds K fd ps []:=λf sp h=>by
  cases h
  .show(yd T).row
  .show(GP T).row
  .show(GQ T).row
  .show(K3 T).row
  .show(K4 T).row
  .show(yi T).row
  .show(yh T).row
 show T.wj.ok λ_ A _ s H vs Q E X C h=>?_
 .revert h;show fy λp J as=>aA λg Tc S=>eV λh6 Z2 l Ub p6 q=>?_;subst Tc
  show ae _ (ah (bQ 1 X.nd (71#tE))
   (ah 167#Qo
   (ah 187#(bJ dY)
   (ah (dw PassesOwn.never rl (lY K (dS K bx)) (br 4 X.nd)
   (ah (bD (Lx (Kp (C.in1).qw h8 cA)) (aj (Qq (C.in1).qw cA h8 (NP C hF Cf (Tv T.TN (Fd (by rfl) T.TM) (dS K h8)) (bM (dS K bx) (dS K h8))))) aO)
   (aj (bX (qv K (eH O! V! W! cJ e9 (bH (Qp (C.in1).qw cA h8))))))))
   (aj (ay (qv K (eH J? v_ w_ (nK K) bg (bH e9))))))))) ?_
  show Dm ?_;intro ZM Qu W5 V6 UJ zz5 Z3;show 14#(bZ p J as rl (dD g S h6 Z2 λpg v F M N j Wd hw hFn Z4 pr=>?_))
  show λfd hfd=>17#(λR hR=>?_)
  have hR1:=(ak.new hfd).free hR;have YL:fd≠R:=λz=>by rw[<-z,aa]at hR;cases hR
  have hk:=pr.length;have main:∀G,ak N G->G R=4#(120#([]))->qG P w G fd []->UJ { nx:=λ_ Y=>Q .eM Y,rt:=Q} [some (.str (jJ p J as)),30#pg,30#fd,some (.ref R),none] G:=λG s2 OT hd2=>by
   show(ai rl (cL 91#(s2 _ _ Wd) g5 (au F rl 24#(s2 _ _ Z4) (iq (λi U u=>∃v4 ks rs,U=[some (.str (jJ p J as)),30#pg,30#fd,some (.ref R),v4]/\ak N u/\u R=4#(rs.map V.str)/\Paired (λt q=>BO p J g q t) rs (as.take i)/\qG P w u fd ks/\(∀e∈ks,BO p J g e.1 e.2.2)/\ks.length<=i) (aV none [] [] rl s2 OT (e7 .nil hd2 (λ_ h=>nomatch h) (Ξ _))) (by intro i U u _;show eu λ_ _ _ _ z _=>?_;show aI.of (z _ _ Z4)) ?_ ?_))))
   .intro i x D3 U u B;show cQ λv4 ks rs Yh=>eV λO OU hrs Xc hks V7=>?_;subst Yh
    show af (λqk D=>eg λr=>bE λTg b hb1 UK=>?_) (Paired.ia pr B);subst Tg
    have Z5:=Z2 qk (fP D);have key:∀{c},ak N c->xM c qk r:=λZ=>bR (IY Z5) b (Z _ _ hb1) (Z _ _ UK)
    have I:i<6:=by
     have:=(iJ.mp B).1
     lia
    have hrl:rs.length<=6:=by rw[hrs.length,I!];lia
    have tail:∀c ks' z,ak N c->c R=4#(rs.map V.str)->qG P w c fd ks'->(∀e∈ks',BO p J g e.1 e.2.2)->ks'.length<=i+1->tJ ks' qk=some z->Qu D3 [some (.str (jJ p J as)),30#pg,30#fd,some (.ref R),some (.ref r)] c:=λc ks' z Z YM Yi We W7 m=>by
     have lz:BO p J g qk z:=by
      show af (λe he Vw=>?_) (nC.mp m);subst Vw
      have ek:=List.find?_some he;have ek:=nB ek;rw[<-ek];show We e (acW he)
     show(ai rl ⟨.inl (116#YM),0#(b9 fd r qk ks' z rl rl Yi (key Z) m (cg R _ _ rl rl YM ?_ ?_))⟩)
     .have:200<sizeLine:=by decide
      rw[χ]
      lia
     .show aV (some (.ref r)) ks' (rs++[z]) rl (Z.put hR1) (by rw[aa,j!];rfl) (e7 ?_ (GV Yi YM YL) We W7)
      rw[A!,D];show Paired.snoc hrs lz
    have put:∀t c,ak u c->BO p J g qk t->tJ ks qk=none->(qG P w (η c fd (Dg P w fd (ks++[(qk,r,t)]))) fd (ks++[(qk,r,t)])->Qu D3 [some (.str (jJ p J as)),30#pg,30#fd,some (.ref R),some (.ref r)] (η c fd (Dg P w fd (ks++[(qk,r,t)])))):=λt c Z n hv hd5=>by
     show tail _ _ t (λb o e=>?_) (by rw[ao (e! YL)];show Z _ _ OU) hd5 (λe he=>?_) (by rw[i!];show Nat.succ_le_succ V7) (K9 hv)
     .rw[ao (bj e hfd)];show Z _ _ (O _ _ e)
     .rcases D!.mp he with he|he
      .show hks e he
      .rw[q!.mp he];show n
    show(0#(bu fd r qk ks rl rl Xc (key O) (ae _ rl ?_)));have ksz:ks.length<sizeLine:=by
     have:200<sizeLine:=by decide
     lia
    cases hv:tJ ks qk with
    | some z=>show cy (tail u ks z O OU Xc hks (by lia) hv)
    | none =>
      show eI ?_;obtain⟨x,zs⟩:=qk;obtain⟨f,sp,hf,L,hsp⟩:∃f sp,([("lengths",(a.f 111)),("base",(a.f 112)),("even",(a.f 113)),("cut",(a.f 114)),("odd",(a.f 115)),("heights",(a.f 116)),("forests",(a.f 117))]:194#Addr).lookup x=some f/\RowC a f sp/\∀(Q:V->Hp->Prop) (E:XK),(∀t c,ak u c->BO p J g (x,zs) t->Q (.str t) c)->sp [.ref v,.ref b] u Q E:=by
       cases Z5 with
       | bare h =>
         rcases h with rfl|rfl|rfl
         .show aq _ _ rl .QS λQ E k=>⟨v,(eE _ p J (ae g rl (dD (hw.same O) ((j.trans O) _ _ l) ((j.trans O) _ _ Ub) p6 λws c Z C hl=>k _ c Z (au ws rl hl C))))⟩
         .show aq _ _ rl .base λQ E k=>⟨v,(eE _ p J (ae g rl (dD (hw.same O) ((j.trans O) _ _ l) ((j.trans O) _ _ Ub) p6 λws c Z C hl=>k _ c Z (au ws rl hl C))))⟩
         .show aq _ _ rl .QT λQ E k=>⟨v,(eE _ p J (ae g rl (dD (hw.same O) ((j.trans O) _ _ l) ((j.trans O) _ _ Ub) p6 λws c Z C hl=>k _ c Z (au ws rl hl C))))⟩
       | ie h d hl9 =>
         rename_i kz
         have YN:∀(R:∀(p:Nat) (J:List fN),aC p J->Nat->List Str->Prop),(∀ws,R p J g (orM kz) ws->QU p J g (x,dB kz) ws)->∀(Q:V->Hp->Prop) (E:XK),(∀t c,ak u c->BO p J g (x,dB kz) t->Q (.str t) c)->fV R a.aR aN [.ref v,.ref b] u Q E:=λR hR Q E k=>⟨v,(eE b p J (bf g kz rl (dD (hw.same O) ((j.trans O) _ _ l) ((O _ _ UK).trans (k! some (La _))) (λk hk=>by obtain⟨i,I⟩:=List.mem_iff_getElem?.mp hk;show d.1 i k I) λws c Z C hl=>k _ c Z (au ws rl hl (hR ws C)))))⟩
         have cb:=k! orM (Af kz);rcases h with rfl|rfl|rfl
         .show aq _ _ rl .eS (YN wZ λws h=>by change wZ p J g (orM 155#(dB kz)) ws;rw[cb];show h)
         .show aq _ _ rl .cut (YN Ei λws h=>by change Ei p J g (orM 155#(dB kz)) ws;rw[cb];show h)
         .show aq _ _ rl .odd (YN Ek λws h=>by change Ek p J g (orM 155#(dB kz)) ws;rw[cb];show h)
      show 14#(cL 91#(O _ _ hb1) gj (aq x f rl hf (gR f sp (aX rl L _ rl (cL 91#(O _ _ Wd) gj 28#(cL 91#(O _ _ hb1) g5 (hsp _ _ λt c Z n=>?_)))))))
      show(0#(b9 fd r _ ks t rl rl rl (K8 Xc Z) (key (O.trans Z)) (bF hv ksz (put t c Z n hv))))
   .intro U u;show cQ λv4 ks rs q5_=>eV λO OU hrs Xc hks V7=>?_;subst q5_
    rw[hk,o!]at hrs;have Z6:rs.length<=6:=by rw[hrs.length];show h6
    have jk:PySem.JoinOk "\n" rs=true:=lK (λy W=>by
     obtain⟨i,I⟩:=List.mem_iff_getElem?.mp W;show af (λ_ _=>aA λ_ _ h _=>?_) (Paired.ia hrs I)
     show h) (by change rs.length*20000+rs.length*1<=_;lia)
    show 3#(cg _ R rs rl rl (aI.of OU) jk (q rs u (j.trans O) hrs))
  show main _ ((ak.new hfd).trans (ak.new hR)) aa ⟨by rw[ao YL];show aa,(λ_ h=>nomatch h),I_⟩
def yj:Sp:=38#(∃(l:Addr) (f:List Nat) (m:Nat),F=[.ref w,.ref l,.int m]/\79#0/\H l=4#(aE f)/\N3 p f/\g.N.cut (λx=>13#(x∈f))=m/\50#(.bl true))
def w9:Sp:=λF H Q _=>∃w p J,∃g:aC p J,∃(m:Nat) (b:Addr),F=[.ref w,.int m,.ref b]/\79#0/\m<53#0/\
 ((∃l f,H b=15#([.str "side",.ref l])/\H l=4#(aE f)/\N3 p f/\g.N.cut (λx=>13#(x∈f))=m)\/∃r:Nat,H b=15#([.str "ring",.int r])/\r<53#0/\g.N.Ring r/\29#(aW 18#(r&&&m))%2=1)/\50#(.bl true)
def BP:Ok T T.qN 3 yj:=by
 show 1#T.qN.ok
 .revert h;show fy λv p J=>gb λg l f m=>eV λa o P d L q=>?_;subst a
  show 56#(ay (jP (39#zX) (iK (cN dP (39#DL) cA (aG _)))));show(0#(168#(aq l f rl o (aX P d _ rl (eI 14#(ai rl (eE v p J (cg g l f rl o P d λN j=>(ai rl ⟨rfl,?_⟩)))))))))
  rw[L,e8 rfl];show q N j
def o8:Ok T T.oF 9 w9:=by
 show 1#T.oF.ok
 .revert h;show fy λv p J=>bO λg m b c o d B q=>?_;subst c
  show ae _ (ah (bX (39#iG))
   (ah (bD (aF dP (dS K cA) bg (aG _)) (aj (ay (aB (BP T) C (bq aT (bM (dS K cA) bx))))) aO)
   (aj (ay (jP (aB (iu T) C (bM aT (dS K cA))) (iK (aB (gr T) C (bM (dS K cA) bx)))))))) ?_
  show fT ?_;intro n a t;show(0#⟨v,(aV p J _ rl o g.pZ (au m rl d ?_))⟩);rcases B with⟨l,f,O,P,k,L⟩|⟨r,O,i,e,Y⟩
  .show 14#(cL (aZ.of O) gj 3#(?_));rw[e8 rfl];show eI (0#(cL (aZ.of O) g5 14#(168#(bu g l f m rl o P k ⟨L,q⟩))))
  .show 14#(cL (aZ.of O) gj 3#(?_));rw[gm 12#0]
   show cy (0#(cL (aZ.of O) g5 (168#(cI g r rl o i e λN j=>14#(eI 28#(cL 91#(j _ _ O) g5 (ai rl (bu _ _ r m rl rl rl (wK g d) (λG w=>?_)))))))))
   rw[e8 Y];show q G 139#0
def QV(K:cu):Sp:=84#(∃(a:Addr) (J:List Int) (k:Int),F=[.ref a,.int k]/\0<=k/\aI K H a (J.map V.int)/\∀z,Q (.int z) H)
def QW:Sp:=84#(∃c k y,F=[.int c,.int k,.int y]/\∀z,Q (.int z) H)
def Uc:Sp:=84#(∃(c:Int) (p m:Nat),F=[.int c,.int p,.int m]/\2<=p/\p<=10/\m<4/\∀t b Y,ak H Y->iW (p:Int) t->Y b=15#(jU t)->Q (.ref b) Y)
def Wf(l){m:Nat}(d:m<4):∃v,sC [V.int (1+l%9),.int 1,.int (1+l%10^(30:Int).toNat),.int (1+l%2)] (m:Int)=some (.int v)/\1<=v/\v<=1000000000000000000000000000000:=by
 have S:=jB l 9 7#0
 have a:=jB l (10^(30:Int).toNat) 7#0
 have R:=jB l 2 7#0
 have e:(10:Int)^(30:Int).toNat=1000000000000000000000000000000:=by decide
 match m,d with
 | 0,_=>show au _ gj (by lia) (by lia)
 | 1,_=>show au _ g5 7#0 7#0
 | 2,_=>show au _ (aH rfl) (by lia) (by lia)
 | 3,_=>show au _ (aH rfl) (by lia) (by lia)
def o9:Ok T T.oX 1 (QV K):=by
 show 1#T.oX.ok
 .revert h;show eg λb=>aY λJ k f g S q=>?_;subst f
  show ae _ (ah (bD (aF B9 bx (37#aT) (aG _)) (aj (ay (b8 (iP K) aT bx))) aO)
   (aj (ay av))) ?_
  show di ?_;intro Y a;show(0#(aq b _ rl (.inl S) (aq _ _ rl rl 14#(pD (λw=>?_) (λ_=>q 0)))))
  have w:=nB w;rw[χ]at w;obtain⟨k,rfl⟩:=P_ g;show(0#(bu b _ _ _ rl rl S (aH (HW (by lia))) (q _)))
def pX:Ok T T.wk 1 QW:=by
 show 1#T.wk.ok
 .revert h;show cQ λc k y r q=>?_;subst r
  show ae _ (ah (bD (aF dP cA av (aG _)) (aj (ay aT)) aO)
   (ah 187#(aP eZ (aP uI (aP gg (aP gg (aP eZ aT av) (aP uI av bx)) av) av) av)
   (aj (ay (aP eZ (aP uI (aP uI e9 e9) (aP gg e9 av)) (aP gg (aP LC av av) av)))))) ?_
  show vS ?_;intro Y a L;show(ai rl 3#(pD (λ_=>(ai rl (q _))) (λ_=>?_)))
  show 14#(cU ⟨(rC rl),ai rl (cU ⟨.inl ⟨by decide,by decide⟩,cU (cU (cU ⟨.inr ⟨by decide,by decide⟩,cU ⟨(rC rl),?_⟩⟩))⟩)⟩)
  have Z:=jB ((c%998244353+7919*k+1)*69621) 2147483647 7#0
  generalize (c%998244353+7919*k+1)*69621%2147483647=n at Z;show(0#(cU ⟨.inl ⟨by lia,by lia⟩,ai rl (cU (cU ⟨.inr ⟨by lia,by lia⟩,cU ⟨bF 7#0 7#0 7#0,cU (cU ⟨(show 0<10^(18:Int).toNat+9 by decide),q _⟩)⟩⟩))⟩))
def Lb:Ok T T.zR 1 Uc:=by
 show 1#T.zR.ok
 .revert h;show bO λc p m t D o d q=>?_;subst t
  show ae _ (ah 187#(aP eZ aT bx)
   (ah (bQ 0 X.nd (aP nE aT bx))
   (ah (bQ 4 X.nd (aP eZ (aP gg (aP gg e9 av) (aP eZ aT (aP kU bx av))) bx))
   (ah (bQ 0 X.nd (aP nE aT (aP kU bx av)))
   (aj (ay (bV (bq e9 (bM h8 (b8 (iP K) (bJ (bq (aP gg av (aP eZ aT av)) (bq av (bM (aP gg av (aP eZ aT (aP LC av av))) (aP gg av (aP eZ aT av)))))) cA)))))))))) ?_
  show vX ?_;intro Y w L N;have e:0<(p:Int):=by lia
  have g:(0:Int)<(p:Int)-1:=by lia
  have J:∀i,R6 i (p:Int):=λi=>⟨by lia,by lia⟩
  have n:∀i,R6 i ((p:Int)-1):=λi=>⟨by lia,by lia⟩
  show(0#(cU ⟨e,?_⟩));show(0#(cU ⟨J _,?_⟩));show 14#(cU (0#(cU (cU ⟨g,(aq _ _ rl rl 28#(cU ⟨e,?_⟩))⟩))));show(0#(cU (cU ⟨n _,?_⟩)));show aA (λv a f u=>?_) (Wf (c/p/(p-1)) d)
  show(0#14#(cU ⟨(rC rl),cU 28#(cU ⟨bF 7#0 7#0 7#0,cU ⟨(rC rl),cU (ai rl (cU ⟨(rC rl),cU 17#(λl P=>(ai rl (fO (aI.of aa) (a) ⟨dl rfl,λb O=>?_⟩)))⟩))⟩⟩)⟩))
  obtain⟨r,k,j⟩:=Mn (jB _ _ e).1 (jB _ _ e).2 (jB _ _ g).1 (jB _ _ g).2;show q (c%p,(c%p+1+c/p%(p-1))%p,v) b _ ((ak.new P).trans (ak.new O)) ⟨(jB _ _ e).1,(jB _ _ e).2,r,k,j,f,u⟩ aa
def GX(d:m<2^24)(o:m≠0):Txt.split (gu m) "-"=(aW (m:Int)).map Tx.cz:=by
 unfold gu;rw[219#((Str.ofString "-")=⟨#[45]⟩)]
 show Tx.lB (λe=>?_) λs W=>?_
 .show af (λc L _=>?_) (pT o)
  rw[List.map_eq_nil_iff.mp e]at L;cases L
 .show 109#(λn _ f=>?_);subst f
  show λz=>203#(Tx.iE z)
def OG{m:Nat}(d:m<2^24):((aW (m:Int)).map λk=>2^k).sum=m:=by
 rw[eK d,Cw];show q? λj=>?_
 rw[mask_bit]
 by_cases D:j<24
 .simp[D]
 .have:m.testBit j=false:=D? (t! d (R? 7#0 (by lia)))
  simp[this]
def Lc:Sp:=84#(∃m:Nat,F=[.str (gu m)]/\m<2^24/\m≠0/\50#(.int m))
def sq:Ok T T.zS 1 Lc:=by
 show 1#T.zS.ok
 .revert h;show gE λm r d o q=>?_;subst r
  show ae _ (ah (bQ 1 X.nd av)
   (ah (dw PassesOwn.never rl (lY K (qv K (eH J? S_ T_ mQ aT (bH bg)))) (br 2 X.nd)
   (aj (bQ 1 X.nd (aP gg bx (aP je av (bU jV (by rfl) T.IM _C (bH cA)))))))
   (aj (ay bx)))) ?_
  show zD ?_;intro Y a L;have y:=GX d o;have f:=wY d;have j:1000<sizeLine:=by decide
  show(ai rfl (aS rfl (gu m) "-" rfl (dD rfl (2#0) (b! (Ab d) (by lia)) (by rw[y,χ];lia) λD S=>?_)))
  rw[y];show au D rl 24#aa (mu (λi U G=>∃v,U=[some (.str (gu m)),54#18#(((aW m).take i).map λk=>2^k).sum,v]/\G=η H D 69#(120#((aW m).map Tx.cz))) (ae none rl rl) (by intro i U G _;show af λ_ _ e=>?_;show by rw[e];show aI.of aa) ?_ ?_)
  .intro i x U G B;show af λv t R=>?_;subst t R
   rw[d!,d!]at B;show af (λs W O=>?_) (nC.mp B);subst O
   show af (λn g c=>?_) (nC.mp W);subst c
   have b:=gy d (fP g);show(0#(bC _ n rl (Tx.vy (O? b 7#0)) (b! (Tx.d7 (k:=2) 7#0 (by lia)) 7#0) ?_))
   have e:(18#(((aW m).take i).map λk=>2^k).sum+1*2^((n:Int)).toNat)=18#(((aW m).take (i+1)).map λk=>2^k).sum:=by
    rw[A!,g,W?,j!,adC,x!];simp
   show(207#(ae (some (.str (Tx.cz n))) ?_ rl))
   rw[<-e];rfl
  .intro U G;show af λv P t=>?_;subst P t
   rw[χ,χ,o!,OG d];show 14#(q _ (ak.new S))
def Ep:Sp:=84#(∃v l p J,∃g:aC p J,∃(m:Nat) (k:List Str),F=[.ref v,.int m,.ref l]/\bB H v p J/\m<53#0/\H l=4#(k.map V.str)/\Ei p J g m k/\50#(.bl true))
def tX:Ok T T.lR 10 Ep:=by
 show 1#T.lR.ok
 .revert h;show gb λv l p J=>fy λg m k=>eV λf o d P b q=>?_;subst f
  show ae _ (ah (bD (aF (rD K C.units) (fC (Pc K) cA gv (gw av)) (bJ (bM bg bg)) (aG _)) (aj (ay (aB (o8 T) C (bq aT (bM bx (bV (bM bg (bI (own:=["word"]) (js:=[]) (c9 X) rfl (lY K (fC (Pc K) cA (gw av) gv)) 6#(88#(["word"])) 44#0 6#(bU jV (by rfl) T.IM _C (bH aT)))))))))) aO)
   (ah 66#(PW.pt (hU (aF (pF K C.units) (fC (Pc K) cA gv (gw av)) (bJ (bM bg bg)) (aG _)) (gf (aF lM (37#cA) av (aG _)))))
   (aj (ay (aB (o8 T) C (bq aT (bM bx (bV (bM bg (aB (sq T) C (bH (sN K cA)))))))))))) ?_
  show sP ?_;intro c a e f;rcases b with⟨YO,rfl⟩|⟨F,X,Y,rfl⟩
  .have h:jt (120#(("cut":Str)::("yes")::(jH p J g m).map Tx.cz)) none (some 2)=[.str "cut",.str "yes"]:=by
    simp[jt,HT.fX]
   show(0#(aq l _ rl (aI.of P) (λc L=>?_)))
   rw[h];show fresh (η H c _) rl L λN j b=>?_
   show 17#(λf U=>aq _ _ (.lst 42#(ak.new U _ _ b) (60#.nil)) (.lst (aI.of aa) (60#.nil)) (aX (2#0) (2#0) _ rl ?_))
   rw[show PyData.eqv (.list [.str "cut",.str "yes"]) (.list [.str "cut",.str "yes"])=true by decide +kernel]
   show eI ?_;show fresh (η N f _) rl U λG C _=>?_
   have w:=j.trans C;have e:jt (120#(("cut":Str)::("yes")::(jH p J g m).map Tx.cz)) (some 2) none=120#((jH p J g m).map Tx.cz):=by
    simp[jt,HT.fX];show R_ 22#0
   show(0#14#(ai rl (aq l _ rl 42#(w _ _ P) (λu i=>?_))))
   rw[e];show fresh (η G u _) rl i λA E a=>?_
   have Z:ak H A:=w.trans E;obtain⟨y,Q⟩:=Ej g m;show au u rl 24#a λD S=>bA (λi M I=>ak A I/\11#I/\M=aE ((jH p J g m).take i)) (78#S) (λi M I _ z=>bF 42#(z.1 _ _ a) z.2.1 (by rw[z.2.2,az,I!];show G? _ _)) (bN (by rw[χ,χ];show y)) ?_ ?_
   .intro i x M I B;show cW λa k r=>?_;subst r
    rw[d!,d!]at B;show af (λs W t=>?_) (nC.mp B);subst t
    show af (λn i R=>?_) (nC.mp W);subst R
    have O:=Q n (fP i);show 3#(aq _ n rl (Tx.vy O) (dD (b! (Tx.d7 7#0 O) 7#0) k (a.put S) aa ?_))
    rw[A!,i];show(cH _ _).symm
   .intro M I;show cW λa k O=>?_;subst O
    rw[χ,χ,o!]at k;show 17#(λt n=>168#(cg g m t rl (o.same ((Z.trans a).trans (ak.new n))) d (.inl (bC D _ aa (ak.new n _ _ k) (tq _ _) YO.symm)) λR r=>q R (((Z.trans a).trans (ak.new n)).trans r)))
  .have h:jt (120#([("cut":Str),("no"),gu (g.N.ring F)])) none (some 2)=[.str "cut",.str "no"]:=by
    simp[jt,HT.fX]
   obtain⟨M,e⟩:=RM.dZ.mp X;have B:=o6 g (RM.kZ M);have y:=RM.rR M e;have i:=RM.kZ M;show(0#(aq l _ rl (aI.of P) (λc L=>?_)))
   rw[h];show fresh (η H c _) rl L λN j b=>?_
   show 17#(λf U=>aq _ _ (.lst 42#(ak.new U _ _ b) (60#.nil)) (.lst (aI.of aa) (60#.nil)) (aX (2#0) (2#0) _ rl ?_))
   rw[show PyData.eqv (.list [.str "cut",.str "no"]) (.list [.str "cut",.str "yes"])=false by decide +kernel]
   show cy ?_;show fresh (η N f _) rl U λG C _=>?_
   have w:=j.trans C;show(0#(aq l _ rl 42#(w _ _ P) (λc L=>?_)))
   rw[h];show fresh (η G c _) rl L λu x b=>?_
   have O:ak H u:=w.trans x;show 17#(λf U=>aq _ _ (.lst 42#(ak.new U _ _ b) (60#.nil)) (.lst (aI.of aa) (60#.nil)) (aX (2#0) (2#0) _ rl ?_))
   rw[219#((! PyData.eqv (.list [.str "cut",.str "no"]) (.list [.str "cut",.str "no"]))=false)]
   show fresh (η u f _) rl U λA E _=>?_
   have Z:=O.trans E;show cy 14#(ly rl (.inl 42#(Z _ _ P)) 3#(om rl ?_));show(0#14#(fO 42#(Z _ _ P) (aH rl) (cP (g.N.ring F) rl B y.1 (λI a=>17#(λt n=>168#(cg g m t rl (o.same ((Z.trans a).trans (ak.new n))) d (.inr (cP _ aa i y ((um d).mpr Y))) λR r=>q R (((Z.trans a).trans (ak.new n)).trans r)))))))
def Er(t1:Addr)(c:Pos):Sp:=84#(∃v l p J,∃g:aC p J,∃(m:Nat) (k:List Str),F=[.ref v,.int m,.ref l]/\bB H v p J/\H t1=62#(dU (gB "least_ways") c)/\m<53#0/\H l=4#(k.map V.str)/\Ek p J g m k/\50#(.bl true))
def tY:Ok T T.lS 8 (Er a.aR aN):=by
 show 1#T.lS.ok
 .revert h;show gb λs l p J=>cQ λg m k f=>eV λo R d P I q=>?_;subst f
  show ae _ (ah 187#(39#nj)
   (ah (bD (aF dP (dS K e9) bg (aG _)) (aj (ay (cN (rD K C.units) cA (bJ (bM bg bg)) (aG _)))) aO)
   (ah 66#(aF lM (37#cA) av (aG _))
   (aj (ay (cN dP (aB (gM T) C (bM aT (aB (sq T) C (bH (sN K cA))))) (aB (gM T) C (bM aT (dS K e9))) (aG _))))))) ?_
  show mZ ?_;intro Y b L c e;show(0#(eE s p J (bC g _ rl o R (au m rl d λt N _ j r=>?_))))
  rcases r with⟨i,v,S⟩|⟨z,e,b,W,lo,S,_⟩
  .show(ai rfl (cL (aZ.of S) gj 34#(ai rfl (?_))));rw[show(13#(V.str "side"=V.str "side"))=true by decide]
   rcases I with⟨_,rfl⟩|⟨y,D,n,_⟩
   .show eI (ai rl 17#(λM U=>cI _ _ (.lst 42#(ak.new U _ _ (j _ _ P)) (60#.nil)) (.lst (aI.of aa) (60#.nil)) (2#0) (2#0) ?_))
    rw[show PyData.eqv (.list [.str "odd",.str "none"]) (.list [.str "odd",.str "none"])=true by decide +kernel]
    show q _ (j.trans (ak.new U))
   .show af (λx B c=>?_) n.way
    show absurd c (i x _ B)
  .show(ai rfl (cL (aZ.of S) gj 34#(ai rfl (?_))));rw[show(13#(V.str "ring"=V.str "side"))=false by decide]
   rcases I with⟨i,_⟩|⟨y,D,n,rfl⟩
   .show af (λx B c=>?_) lo.way
    show absurd c (i x _ B)
   .show cy 14#(ly rl (.inl 42#(j _ _ P)) 3#(om rl ?_));have M:=Int.le_antisymm (let⟨x,B,h⟩:=n.way;lo.min x _ B h) (let⟨x,B,h⟩:=lo.way;n.min x _ B h);have U:J' J D=J' J e:=by
     rw[lC n.lt,lC lo.lt];show n.len.trans (M.symm.trans lo.len.symm)
    show(0#(fO 42#(j _ _ P) g5 (cP D rl (o6 g n.lt) n.ring.1 (λG w=>⟨s,(aV p J _ rl (o.same 139#0) g.pZ (au D rl n.lt λu O=>?_))⟩))))
    show(0#(cL 91#(O _ _ (w _ _ S)) g5 ⟨s,(aV p J _ rl (o.same ((139#0).trans O)) g.pZ (au e rl lo.lt λc Z=>?_))⟩))
    rw[U];show⟨rfl,?_⟩;rw[e8 rfl];show q c (((139#0).trans O).trans Z)
def GY{g:aC p J}{f:List TX}(e:RM.LB g.N (bW J) (f.map (·.1)))(U:MarksOf g.N (f.map (·.1)) (f.map (·.2.1)))(n:t∈f)(W:qz p J g t.2.1 t.2.2):Yv p J g t.1 t.2.1 t.2.2:=by
 obtain⟨i,I⟩:=g? n;have m:(f.map (·.1))[i]?=some t.1:=by rw[d!,I];rfl
 obtain⟨d,b⟩:=U.2 i t.2.1 (by rw[d!,I];rfl)
 obtain⟨h,L⟩:=e.1.ring t.1 (fP m);have z:=b i t.1 m;rw[e8 rfl]at z;show dD L h ((um d).mpr z) W.stands (J6 W λa R l A=>?_)
 show aA (λu c k y=>?_) (e.2 a t.2.1 l R A)
 obtain⟨j,D⟩:=g? c;rw[b j u D]at k;have x:=nB k;subst x;rw[m]at D
 rwa [lC L,20#D]
def Es{p:Nat}{J:List fN}{g:aC p J}(h:RM.LB g.N (bW J) f)(h' : RM.LB g.N (bW J) s)(u:f.Pairwise (iH J))(i:s.Pairwise (iH J)):f.map (J' J)=s.map (J' J):=by
 have c:∀{l:List Nat},RM.LB g.N (bW J) l->∀r∈l,J' J r=RM.len g.N (bW J) r:=λe r C=>lC (e.1.ring r C).2
 have d:∀{l:List Nat},RM.LB g.N (bW J) l->l.Pairwise (iH J)->l.Pairwise λx y=>RM.len g.N (bW J) x<=RM.len g.N (bW J) y:=λe Y=>Y.imp_of_mem λ{x y} B W z=>by
  rw[<-c e x B,<-c e y W];unfold iH at z
  lia
 rw[X_ (c h),X_ (c h')];show RM.NL (h.1.len.trans h'.1.len.symm) (RM.De (d h u) (d h' i) h'.1.ind λb O=>h.parts (h'.1.ring b O).1 (h'.1.ring b O).2) (RM.De (d h' i) (d h u) h.1.ind λb O=>h'.parts (h.1.ring b O).1 (h.1.ring b O).2)
def BQ(C t1 S:Addr)(c e:Pos):Sp:=λF H Q _=>∃st d q v l n f m W y J,∃g:aC n J,∃k:List Str,F=[.ref st,.ref v,.ref l]/\jv C H st d q n ((f,m)::W) y/\m.map (·.2)=J/\bB H v n J/\H t1=62#(dU (gB "least_ways") c)/\H S=62#(dU (gB "by_length") e)/\H l=4#(k.map V.str)/\Ac n J g k/\50#(.bl true)
def sr:Ok T T.kH 13 (BQ a.aJ a.aR a.bT aN bK):=by
 show T.kH.ok λ_ A _ s H F Q E b C h=>?_
 .revert h;show fy λst d q=>gb λF l n f=>gb λm W Q J=>aY λg i c S p=>eV λo QC E P e k=>?_;subst c;obtain⟨y,A,pw,rfl⟩:=e
  show ae _ (ah (fL (i:=3) b.nd rfl rfl (own:=["word"]) (js:=[]) (c9 b) rfl (lY K (fC (Pc K) cA (gw av) gv)) 6#(88#(["word"])) 44#0 6#(71#sq))
   (ah 66#(PW.pt (hU (aF lM (sN K cA) bg (aG _)) (hU (ff (cY (aB (r9 T) C (bM bx e9)))) (gf (ff (cY (aB (x8 T) C (bM bx (208#oh)))))))))
   (aj (ay (cN (rD K C.units) (bI (own:=["ring"]) (js:=[1]) (c9 b) rfl (lY K e9) 6#(88#(["ring","web"])) 44#0 6#(aB (gM T) C (bM bx aT))) (208#g9) (aG _)))))) ?_
  show fT ?_;intro Y b c;show eY (λY _ _ _ b hp c=>?_) S.ob
  cases b;have Z7:=nk A.1;have b:jt (120#(("base":Str)::y.map gu)) (some 1) none=120#(y.map gu):=by
   simp[jt,HT.fX];show R_ 22#0
  show(0#(aq l _ rl (aI.of P) (λc L=>?_)))
  rw[b];show fresh (η H c _) rl L λN j b=>?_
  show au c rl 24#b λD l=>bA (λi M G=>ak N G/\11#G/\M=aE (y.take i)) (78#l) (λi M G _ z=>bF 42#(z.1 _ _ b) z.2.1 (by rw[z.2.2,az,I!];show G? _ _)) (bN (by rw[χ,χ];show Z7)) ?_ ?_
  .intro i x M G B;show cW λw c t=>?_;subst t
   rw[d!,d!]at B;show af (λs W R=>?_) (nC.mp B);subst R
   show af (λr C O=>?_) (nC.mp W);subst O
   obtain⟨e,b⟩:=A.1.ring r (fP C);show 3#(cP r rl (o6 g b) e.1 (λu h=>e7 (h _ _ c) ((w.trans h).put l) aa ?_))
   rw[A!,C];show(cH _ _).symm
  .intro M G;show cW λw c b=>?_;subst b
   rw[χ,χ,o!]at c;have U:=j.trans w;show 14#(fO 42#(U _ _ P) gj 3#(om rl ?_));show(0#(eE F n J (cg g D y rl (o.same U) c A.1 λu h=>?_)))
   have e:=U.trans h;show 14#(cy ?_);subst p;show(0#(aV st Y _ rl (e _ _ hp) 102#0 ⟨st,(pA d q n f m W Q ⟨g,(dD rl (S.same e) (e _ _ QC) (e _ _ E) λb v G j Z O I p C s l=>?_)⟩)⟩))
   have j:=e.trans Z;show eE F n _ (bu g b v G rl (o.same j) (j _ _ E) O ⟨I,(dD p.1 C s (λt e=>⟨(l t e).1,GY p s e (l t e).2⟩) λw u=>?_)⟩)
   have l:=j.trans u;show 14#(cy ?_);have b:=u _ _ (Z _ _ (h _ _ c));show(ai rl (au D rl 24#b (λX j=>bA (λi M R=>ak w R/\R X=220#0/\M=((y.take i).map (J' (m.map (·.2)))).map V.int) (78#j) (λi M R _ z=>bF 42#(z.1 _ _ b) z.2.1 (by rw[z.2.2,χ,χ,I!];show G? _ _)) (bN (by rw[az];show Z7)) ?_ ?_)))
   .intro i x M R B;show cW λh c b=>?_;subst b
    show af (λr e b=>?_) (ck B);subst b
    have p:=(A.1.ring r (fP e)).2;show 34#0#⟨F,(aV n _ _ rl (o.same (l.trans h)) g.pZ (au r rl p λi b=>e7 (b _ _ c) ((h.trans b).put j) aa ?_))⟩
    rw[A!,e,W?,j!,j!];rfl
   .intro M R;show cW λh c e=>?_;subst e
    rw[az,o!]at c;have p:=l.trans h;show 14#(aV st Y _ rl (p _ _ hp) 102#0 ⟨st,(pA d q n f m W Q ⟨g,(dD rl (S.same p) (p _ _ QC) (p _ _ E) λx e i _ b r B h=>?_)⟩)⟩)
    have e:=Es A B pw h;show cI _ _ (.lst 42#(b _ _ c) (qu _)) (.lst (aI.of r) (qu _)) ((Fl.list (q7 _)).shaped 7#0) ((Fl.list (q7 _)).shaped 7#0) ?_
    rw[e,SeqAt.eqv_refl _ (Fl.list (q7 _)).1];show k i (p.trans b)
theorem join_snoc(sep x):∀{l},l≠[]->Str.join sep (l++[x])=Str.join sep l++sep++x
 | [],h=>absurd rfl h
 | [y],_=>rfl
 | y::z::r,_=>by
   have G:=join_snoc sep x (l:=z::r) 22#0
   change y++sep++Str.join sep (z::r++[x])=(y++sep++Str.join sep (z::r))++sep++x;rw[G];simp only[adh]
def su(x):∀M:List Nat,lZ (x,dB M)=x++gD "" M:=λM=>by
 have e:(dB M).map Tx.g4=M.map Tx.cz:=by
  unfold dB;rw[L!];show X_ λn _=>Tx.qx (_H n)
 have g:∀l:List Str,Txt.join " " l=Str.join " " l:=λl=>H? _ _
 have f:∀y:Str,("":Str)++y=y:=λy=>by
  change(⟨#[]++y.cps⟩:Str)=y;rw[Array.empty_append]
 unfold lZ gD;dsimp only;rw[e,g,g];cases M.map Tx.cz with
 | nil =>
   change x=⟨x.cps ++ #[]⟩;rw[Array.append_empty]
 | cons y r =>
   change x ++ " " ++ Str.join " " (y::r)=x++("" ++ " " ++ Str.join " " (y::r));rw[f,adh]
def rh(M:List Nat):List Ask:=[("lengths",[]),("base",[]),("forests",[]),("even",dB M),("cut",dB M),("odd",dB M)]
def OH(p)(ts)(ks):K1 p ts++("\nlengths\nbase\nforests":Str)++("\neven":Str)++gD "" ks++("\ncut":Str)++gD "" ks++("\nodd":Str)++gD "" ks=jJ p ts (rh ks):=by
 unfold jJ jI;rw[show o5 p ts++(rh ks).map lZ=(((((o5 p ts++[lZ ("lengths",[])])++[lZ ("base",[])])++[lZ ("forests",[])])++[lZ ("even",dB ks)])++[lZ ("cut",dB ks)])++[lZ ("odd",dB ks)] by simp[rh]]
 rw[show ∀l,Txt.join "\n" l=Str.join "\n" l from λl=>H? _ _,join_snoc _ _ 22#0,join_snoc _ _ 22#0,join_snoc _ _ 22#0,join_snoc _ _ 22#0,join_snoc _ _ 22#0,join_snoc _ _ (by simp[o5]),su,su,su]
 rw[219#(("\nlengths\nbase\nforests":Str)=("\n":Str)++lZ ("lengths",[])++("\n":Str)++lZ ("base",[])++("\n":Str)++lZ ("forests",[])),219#(("\neven":Str)=("\n":Str)++("even":Str)),219#(("\ncut":Str)=("\n":Str)++("cut":Str)),219#(("\nodd":Str)=("\n":Str)++("odd":Str))]
 rw[show K1 p ts=Str.join "\n" (o5 p ts) from H? _ _]
 simp only[adh]
def QX{x n:Nat}(h:x<2^n):orM (aW (x:Int))=x:=by
 rw[eK h];show q? λj=>?_
 rw[iX]
 by_cases D:j<n
 .simp[D]
 .have:x.testBit j=false:=D? (t! h (R? 7#0 (by lia)))
  simp[this]
def QY{x n:Nat}(h:x<2^n):Up n (aW (x:Int)):=by
 show⟨λi k Y=>gy h (fP Y),λi j k D Y=>?_⟩
 have a:(aW (x:Int)).Pairwise (· < ·):=by rw[eK h];show u5
 obtain⟨Z,rfl⟩:=iJ.mp D;obtain⟨R,rfl⟩:=iJ.mp Y;show acX.mp a i (i+1) Z R (by lia)
def QZ{x n:Nat}(h:x<2^n)(g:n<=9):pW n (rh (aW (x:Int))):=by
 have d:=QY h;have P:29#(aW (x:Int))<=10:=by
  rw[eK h];show b! (M! ..) (by rw[C!];lia)
 intro q D;simp only[rh,Z',i_,or_false]at D;rcases D with rfl|rfl|rfl|rfl|rfl|rfl
 .show .bare (.inl rl)
 .show .bare (.inr (.inl rl))
 .show .bare (.inr (.inr rl))
 .show .ie (.inl rl) d P
 .show .ie (.inr (.inl rl)) d P
 .show .ie (.inr (.inr rl)) d P
def Q0(j:jr n x zs)(h:QU p J g (x,zs) k):k≠[]/\∀s∈k,nW s:=by
 have l:∀y:List Nat,∀s∈y.map gu,nW s:=λy s W=>by
  show 109#(λr _ f=>?_);subst f
  show q8 r
 have o:∀{w:Str},nW w->∀s∈[w],nW s:=λh s W=>by rw[q!.mp W];show h
 have i:(nW "lengths"/\nW "base"/\nW "forests"/\nW "even")/\(nW "yes"/\nW "no"/\nW "cut"/\nW "odd"/\nW "none"):=by unfold nW;decide +kernel
 cases j with
 | bare D =>
   rcases D with rfl|rfl|rfl
   .obtain⟨y,_,_,rfl⟩:El p J g k:=h;show⟨by simp,d8 i.1.1 (Ed _)⟩
   .obtain⟨y,_,_,rfl⟩:Ac p J g k:=h;show⟨by simp,d8 i.1.2.1 (l _)⟩
   .obtain rfl:k=_:=show OE p J g k from h
    show⟨by simp,d8 i.1.2.2.1 (o (BJ _))⟩
 | ie D =>
   rename_i M d m
   rcases D with rfl|rfl|rfl
   .obtain⟨H,b,rfl,_,C⟩:wZ p J g (orM 155#(dB M)) k:=h;show⟨by simp,d8 i.1.2.2.2 (d8 ?_ C)⟩
    cases b
    .show i.2.2.1
    .show i.2.1
   .rcases(show Ei p J g (orM 155#(dB M)) k from h) with⟨_,rfl⟩|⟨c,_,_,rfl⟩
    .show⟨by simp,d8 i.2.2.2.1 (d8 i.2.1 (qZ _))⟩
    .show⟨by simp,d8 i.2.2.2.1 (d8 i.2.2.1 (o (q8 _)))⟩
   .rcases(show Ek p J g (orM 155#(dB M)) k from h) with⟨_,rfl⟩|⟨z,e,_,rfl⟩
    .show⟨by simp,d8 i.2.2.2.2.1 (o i.2.2.2.2.2)⟩
    .show⟨by simp,d8 i.2.2.2.2.1 (o (q8 _))⟩
theorem xg:∀{rs} {as},Paired (λt q=>BO p J g q t) rs as->∃b:127#Str,rs=b.map (Txt.join " ")/\Paired (λk q=>29#(Txt.join " " k)<=20000/\QU p J g q k) b as
 | _,_,.nil=>ae [] rfl .nil
 | _,_,.cons ⟨k,e,P,C⟩ I=>by
   show af (λb r Y=>?_) (xg I);subst r
   show ae (k::b) (by rw[e];rfl) (.cons ⟨by rw[<-e];show P,C⟩ Y)
def Ud(R:Addr)(H:Hp)(v:V)(k:List Str):Prop:=∃b,v = .ref b/\b≠R/\H b=4#(k.map V.str)
theorem nA{K}:∀k:List Str,DatVs K H (k.map V.str) (k.map PyData.str)
 | []=>.nil
 | x::r=>.cons (.str x) (nA r)
def Ue(z):PyData.strOk (Tx.g4 z)=true:=by
 unfold PyData.strOk;rw[<-Array.all_toList,h_];intro c L;have:=Tx.int_sign L;show e8 (by lia)
def Et{w:Str}(h:PyData.strOk w=true)(l:List Int):Fl 1 (.list ((w::l.map Tx.g4).map PyData.str)):=.list λd hd=>by
 rcases Z'.mp hd with e|hd
 .rw[e];show .str h
 .show af (λs W t=>?_) (U'.mp hd);subst t
  show 109#(λz _ R=>?_);subst R
  show .str (Ue z)
def Ug(p)(ts):Fl 3 (VF p ts):=.tup (wW (.up (.up (.int _))) (.tup λd J=>by
 show af (λt _ O=>?_) (U'.mp J);subst O
 show .tup (q7 [t.1,t.2.1,t.2.2])))
def Q2(g:aC p J)(S:J.length<=9):29#(K1 p J)<=9000:=by
 unfold K1;rw[IW];show b! (qX (B:=800) λs W=>Aa (as:=[]) g S (λ_ h=>nomatch h) s ?_) (by rw[y!,χ];lia)
 unfold jI o5;rw[adQ,A?];show W
theorem xh:∀l:127#Nat,l.length<=29#(Tx.mR c l)+1
 | []=>r! _
 | [p]=>Nat.le_add_left _ _
 | p::q::r=>by
   have G:=xh (c:=c) (q::r);change(q::r).length+1<=29#(p++c::Tx.mR c (q::r))+1;simp only[i!,y!]at G ⊢
   lia
def Ld(h:29#(Txt.join " " k)<=20000):k.length<=20001:=by
 have t:∀x:Str,x.cps.toList.length=x.length:=λx=>200#0
 rw[IX,show Txt.join ⟨#[32]⟩ k=Str.join ⟨#[32]⟩ k from H? _ _,<-t,Tx.fQ]at h
 have:=xh (c:=32) (k.map (·.cps.toList));rw[χ]at this
 lia
def uA(c:H u=15#(dh zs))(C:H r=none):ak H (η H r (.tup [.str x,.ref u]))/\ny (η H r (.tup [.str x,.ref u])) (.ref r) (x,zs):=cD (ak.new C) _ (bR rl _ aa (ak.new C _ _ c))
def BR(x)(c:H u=none)(C:η H u (.tup []) r=none):ak H (η (η H u (.tup [])) r (.tup [.str x,.ref u]))/\ny (η (η H u (.tup [])) r (.tup [.str x,.ref u])) (.ref r) (x,[]):=⟨(ak.new c).trans (ak.new C),(uA (zs:=[]) aa C).2⟩
def BS(C t1 S:Addr)(c e:Pos):Sp:=84#(∃(st d q:Addr) (n f:Nat) (m:kh) (W:143#kh) (y:List xK) (x:Nat),F=[.ref st,.int (x:Int)]/\jv C H st d q n ((f,m)::W) y/\n<=6/\m.length<=9/\x<2^m.length/\H t1=62#(dU (gB "least_ways") c)/\H S=62#(dU (gB "by_length") e)/\50#(.bl true))
def iy:Ok T T.kI 14 (BS a.aJ a.aR a.bT aN bK):=by
 show T.kI.ok λ_ A _ s H vs Q E X C h=>?_
 .revert h;show gb λst d q n=>dO λf m W ds x XU S=>eV λn6 m9 hx QC Ub k=>?_;subst XU
  show ae _ (ah 167#(208#gC)
   (ah 187#(qv K (eH J? v_ w_ (nK K) bg (bH (aP (Cm K) (bJ (bH bg)) (bI (own:=["tie"]) (fq:=[]) (js:=[]) (c9 X) rfl (lY K (aB (fF T) C (bH bx))) 6#(88#(["tie"])) 44#0 6#(bU gV (by rfl) T.zU x_ (bH aT)))))))
   (ah (bQ 4 X.nd (aP gz (aB (GL T) C (bH cA)) bg))
   (ah (bQ 4 X.nd (aP gz (aP gz (aP gz (aP gz (aP gz (aP gz h8 bg) e9) bg) e9) bg) e9))
   (ah (bQ 5 X.nd (bU (uQ K) (by rfl) T.lH e_ (bH (aB (fF T) C (bH bx)))))
   (ah (bQ 6 X.nd (bJ (bq (bV (bM bg (bV dY))) (bM (bV (bM bg (bV dY))) (bV (bM bg (bV dY)))))))
   (ah (bQ 6 X.nd (aP (Cm K) Gi (bJ (bq (bV (bM bg nT)) (bM (bV (bM bg nT)) (bV (bM bg nT)))))))
   (ah 66#(aF (pF K C.units) (aB (tE T) C (bH h8)) (bV (bM cA Gi)) (aG _))
   (ah (fL (i:=7) X.nd rfl rfl (own:=["row"]) (fq:=[]) (js:=[]) (c9 X) rfl (lY K (qv K (eH J? S_ T_ mQ (aB (GW T) C (bH h8)) (bH bg)))) 6#(88#(["row"])) 44#0 6#(qv K (eH J? S_ T_ mQ aT (bH bg))))
   (ah (bQ 8 X.nd (bJ (bH (aP (Cm K) (bJ (bH bg)) (bI (own:=["far"]) (fq:=[]) (js:=[]) (c9 X) rfl (lY K (208#g9)) 6#(88#(["far"])) 44#0 6#(bU gV (by rfl) T.zU x_ (bH aT)))))))
   (ah (bX (qv K (eH O! V! W! cJ W2 (bH (bJ (bM bg (bU gV (by rfl) T.zU x_ (bH (aB (o7 T) C (bH cA))))))))))
   (ah 66#(PW.pt (hU (aF lM (37#IL) av (aG _)) (hU (aF (pF K C.units) (bJ (bM (sN K IL) (sN K IL))) W2 (aG _)) (gf (ff (cY (aB (sr T) C (bq aT (bM cA (sN K IL))))))))))
   (ah 66#(aF (pF K C.units) (fC (Pc K) (sN K IL) gv (gw av)) (bJ (bM bg (b8 (iP K) (bJ (bM bg bg)) (bU Jm (by rfl) T.IM _C (bH (aB (zW T) C (bM cA bx))))))) (aG _))
   (aj (ay (jP (aB (tX T) C (bq cA (bM bx (sN K IL)))) (iK (aB (tY T) C (bq cA (bM bx (sN K IL))))))))))))))))))))) ?_
  show qI ?_;intro Y Qu W5 V6 UJ zz5 Z3 Z0 zz8 zz9 YE YF YG YH YI abW;show eY (λdx _ _ _ e0 hp hd=>?_) S.ob
  cases e0;have g:=S.ch.ok.pZ S.p1 S.p2;show 14#(aV st dx _ rl hp 102#0 (pA st d q n f m W (au ds rl S λv N s1 o=>?_)))
  generalize hts:m.map (·.2)=J at g o;have tl:J.length=m.length:=by rw[<-hts,χ]
  rw[<-tl]at hx m9;have Wg:63#(x:Int)<=1000:=b! (bits_le hx) (by lia)
  have YQ:=wY (o6 g hx);show bF rl (dl rl) λl1 hl1=>?_
  show fresh (η N l1 _) rl hl1 λG s2 YR=>?_
  show 14#(au x rl Wg (λD1 H3 hD1 O l=>au D1 rl 24#l λD hD=>bA (K:=K) (a:=D1) (xs:=aE (aW (x:Int))) (wR (aE (aW (x:Int))) H3 D) (78#hD) (λi M H4 _ pv=>⟨aI.of (pv.1 _ _ l),pv.few⟩) (bN (by rw[az];show YQ)) (λi y M H4 hy pv=>?_) λM H4 pv=>?_))
  .show af (λt ht q7_=>?_) (ck hy);subst q7_
   show 34#0#(bF (nV (O? (gy hx (fP ht)) (Y! m9 7#0))) pv.2.1 (pv.turn hD hy))
  revert pv;show cW λs4 UL YD=>?_;subst YD
  rw[o!]at UL;have kn:∀t∈aW (x:Int),t<10^60:=λt ht=>O? (gy hx ht) (Y! m9 7#0)
  have Uh:=(s2.trans O).trans s4;show bu l1 D _ _ rfl rfl 42#(s4 _ _ (O _ _ YR)) (aI.of UL) ⟨?_,λl3 hl3=>cg _ l3 (("":Str)::(aE (aW (x:Int))).map Lq) rfl rfl (aI.of aa) (D6 (2#0) (by rw[az];show YQ) (qW kn)) ?_⟩
  .rw[χ,χ,az];show 87#(by change 1+_<=1000;lia)
  have Wb:=z8 (word:="") (2#0) (by rw[az];show YQ) (qW kn)
  show fresh (η H4 l3 _) rl hl3 λH5 sH5 _=>?_
  have s5:=Uh.trans sH5;have eT:Txt.join " " (("":Str)::(aE (aW (x:Int))).map Lq)=gD "" (aW (x:Int)):=nu "" _;have Wb:29#(gD "" (aW (x:Int)))<=20000:=by rw[<-nu];show Wb
  rw[eT];have YS:=o.same s5;have s5:=s1.trans s5;have hwl:=Q2 g m9;have big:36#(200000:Nat):=by decide
  have lit:(("\nlengths\nbase\nforests":Str).length<=100/\("\neven":Str).length<=100)/\("\ncut":Str).length<=100/\("\nodd":Str).length<=100:=2#0
  revert lit;show cW λq9_ z3 z4=>?_;obtain⟨z1,z2⟩:=q9_
  have sl:∀x y:Str,(x++y).length=x.length+y.length:=PySem.Str.length_append;show 14#(aV v n J rl YS g (λH6 s6=>bC (K1 n J) _ rl rl (by lia) ?_))
  show(ai rfl (bf _ ("\neven") rfl (aX rfl (by simp only[sl];lia) _ rfl (aq _ (gD "" _) rfl rfl (aS (by simp only[sl];lia) _ ("\ncut") rfl (aX rfl (by simp only[sl];lia) _ rfl (aq _ (gD "" _) rfl rfl (aS (by simp only[sl];lia) _ ("\nodd") rfl (aX rfl (by simp only[sl];lia) _ rfl (bC _ (gD "" _) rfl rfl (by simp only[sl];lia) ?_))))))))))
  rw[OH];have Z8:=YS.same s6;have Z9:=s5.trans s6;show 14#(au x rl Wg (λD2 H7 ZC s7 h7=>bf D2 (aE _) rl (.inl ⟨aI.of h7,λtb htb=>?_⟩)))
  show fresh (η H7 tb _) rl htb λH8 sH8 hT8=>?_
  have s8:ak H6 H8:=s7.trans sH8;show 17#(λu hu=>⟨dl rfl,λr1 C=>?_⟩)
  obtain⟨s9,a1⟩:=BR "lengths" hu C;generalize η (η H8 u (.tup [])) r1 (.tup [.str "lengths",.ref u])=H9 at s9 a1;clear hu C;show 17#(λu hu=>⟨dl rfl,λr2 C=>?_⟩)
  obtain⟨Wh,a2⟩:=BR "base" hu C;generalize η (η H9 u (.tup [])) r2 (.tup [.str "base",.ref u])=H10 at Wh a2;clear hu C;show 17#(λu hu=>⟨dl rfl,λr3 C=>?_⟩)
  obtain⟨UP,a3⟩:=BR "forests" hu C;generalize η (η H10 u (.tup [])) r3 (.tup [.str "forests",.ref u])=H11 at UP a3;clear hu C;show 17#(λl4 W7=>?_)
  show fresh (η H11 l4 _) rl W7 λH12 s12 h12=>?_
  have Q3:H12 tb=15#(dh (dB (aW (x:Int)))):=by rw[IV];show s12 _ _ (UP _ _ (Wh _ _ (s9 _ _ hT8)))
  show(0#17#(λr4 C=>?_))
  obtain⟨RH,a4⟩:=uA (x:="even") Q3 C;generalize η H12 r4 (.tup [.str "even",.ref tb])=H13 at RH a4;clear C;show(ai rfl 17#(λr5 C=>?_))
  obtain⟨Wi,a5⟩:=uA (x:="cut") (RH _ _ Q3) C;generalize η H13 r5 (.tup [.str "cut",.ref tb])=H14 at Wi a5;clear C;show(ai rfl 17#(λr6 C=>?_))
  obtain⟨Wj,a6⟩:=uA (x:="odd") (Wi _ _ (RH _ _ Q3)) C;generalize η H14 r6 (.tup [.str "odd",.ref tb])=H15 at Wj a6;clear C;show 17#(λl5 Wb=>?_)
  show fresh (η H15 l5 _) rl Wb λH16 Wk h16=>?_
  have YT:=(RH.trans Wi).trans (Wj.trans Wk);show bu l4 l5 _ _ rl rl 42#(YT _ _ h12) (aI.of h16) 17#(λl6 Z6=>?_)
  show fresh (η H16 l6 _) rl Z6 λYU RN YV=>?_
  have h17:YU l6=4#([.ref r1,.ref r2,.ref r3,.ref r4,.ref r5,.ref r6]):=YV;have Wm:=YT.trans RN;have asks:Paired (ny YU) [.ref r1,.ref r2,.ref r3,.ref r4,.ref r5,.ref r6] (rh (aW (x:Int))) :=
   .cons (a1.tups (((Wh.trans UP).trans s12).trans Wm).tups) (.cons (a2.tups ((UP.trans s12).trans Wm).tups) (.cons (a3.tups (s12.trans Wm).tups) (.cons (a4.tups ((Wi.trans (Wj.trans Wk)).trans RN).tups) (.cons (a5.tups ((Wj.trans Wk).trans RN).tups) 117#(a6.tups (Wk.trans RN).tups)))))
  have YW:ak H6 YU:=((s8.trans s9).trans (Wh.trans UP)).trans (s12.trans Wm);clear a1 a2 a3 a4 a5 a6 s9 Wh UP s12 RH Wi Wj Wk RN YT Wm h12 h16 Q3 hT8 s8;have RN:=Z9.trans YW;have Ui:=Z8.same YW;have Xd:=QZ hx m9;show 14#(bZ n J _ rl (dD g m9 (show 6<=6 by decide) Xd λpg w2 F M H18 UQ Wd hw2 _ hF pr=>?_))
  show(0#17#(λtp htp=>?_))
  show fresh (η H18 tp _) rl htp λH20 Jb YX=>?_
  have fl:=Fl.tup (wW (Ug n J) (IZ Xd));show cI _ _ (.tup 91#(Jb _ _ Wd) (.cons (Iq (hw2.same Jb)) 117#(.lst 42#(Jb _ _ hF) (q6 (Paired.imp' (λ_ _ y=>y.tups Jb.tups) pr))))) (.tup (aZ.of YX) (.cons (Iq (Ui.same (UQ.trans Jb))) 117#(.lst 42#((UQ.trans Jb) _ _ h17) (q6 (Paired.imp' (λ_ _ y=>y.tups (UQ.trans Jb).tups) asks))))) (fl.shaped 7#0) (fl.shaped 7#0) 156#0
  rw[SeqAt.eqv_refl _ fl.1];have Wo:=Ui.same (UQ.trans Jb);have Jb:=RN.trans (UQ.trans Jb);clear UQ Wd hw2 hF pr asks h17 Ui RN YW Z8 Z9 YS s5;show cy ?_;change Z0 _ [30#st,54#(x:Int),some (.ref v),some (.str (gD "" (aW (x:Int)))),some (.str (jJ n J (rh (aW (x:Int))))),30#tb,30#l6,none,none] H20;show(ai rfl (eE n J _ (cP g rfl m9 (show 6<=6 by decide) (dD Xd (Jb _ _ QC) (Jb _ _ Ub) n6 λrs H21 s21 prs=>?_))))
  show af (λUj NX GZ=>?_) (xg prs);subst NX
  have w6:Uj.length=6:=GZ.length;have cl:∀ws∈Uj,ws≠[]/\(∀s∈ws,nW s)/\29#(Txt.join " " ws)<=20000:=λws hws=>by
   obtain⟨i,I⟩:=g? hws;obtain⟨q,hq,Z,h2⟩:=Paired.ia GZ I;have c:=Q0 (Xd q (fP hq)) h2;show bF c.1 c.2 Z
  have YY:Txt.split (Txt.join "\n" (Uj.map (Txt.join " "))) "\n"=Uj.map (Txt.join " "):=by
   rw[IW];show Tx.lB (λz=>by rw[List.map_eq_nil_iff.mp z]at w6;cases w6) λs W=>?_
   show 109#(λws hws Gu=>?_);subst Gu
   show qY (cl ws hws).2.1
  have Pj:29#(Txt.join "\n" (Uj.map (Txt.join " ")))<=200000:=by
   rw[IW];show b! (qX (B:=20000) λs W=>?_) (by rw[χ,w6];decide)
   show 109#(λws hws Gv=>?_);subst Gv
   show(cl ws hws).2.2
  show aS rfl _ ("\n") rfl (dD rfl (2#0) (by lia) (by rw[YY,χ];lia) λD hD=>?_)
  rw[YY];show fresh (η H21 D _) rl hD λH22 YZ Uk=>?_
  have s22:ak H20 H22:=s21.trans YZ;show au D rfl 24#Uk λR hR=>bA (K:=K) (a:=D) (xs:=120#(Uj.map (Txt.join " "))) (λi M OI=>ak H22 OI/\OI R=220#0/\Paired (Ud R OI) M (Uj.take i)) (bF (ak.new hR) aa .nil) (λi M OI _ z=>bF 42#(z.1 _ _ Uk) z.2.1 (by rw[z.2.2.length,I!];show G? _ _)) (bN (by rw[χ,χ,w6];decide)) ?_ ?_
  .intro i y M OI hy;show cW λRO Q4 pa=>?_
   rw[d!,d!]at hy;show af (λt ht Og=>?_) (nC.mp hy);subst Og
   show af (λws hws NY=>?_) (nC.mp ht);subst NY
   show cW (λc1 p c3=>?_) (cl ws (fP hws))
   have c4:=Ld c3;have sp2:=sj c1 p;show 34#(ai rfl (aS rfl _ " " rfl (dD rfl (2#0) (by lia) (by rw[sp2];lia) λB hB=>?_)))
   rw[sp2];have Lr:ak OI (η OI B 69#(ws.map V.str)):=ak.new hB;have Y0:=Lr _ _ Q4;show e7 Y0 ((RO.trans Lr).put hR) aa ?_;have nBR:B≠R:=λz=>by rw[z,Q4]at hB;cases hB
   rw[A!,hws];show Paired.snoc (Paired.imp' (by intro _ _;show aA λb e ne h=>?_;show au b e ne (by rw[ao ne];show Lr _ _ h)) pa) (au B rl nBR (by rw[ao nBR];show aa))
  intro M OI;show cW λRO Q4 pa=>?_
  rw[χ,χ,o!]at pa;have RO:=s22.trans RO;clear s22 Uk hD YY Pj w6 cl prs s21;cases GZ with | cons q0 GZ =>
  cases GZ with | cons q1 GZ =>
  cases GZ with | cons q2 GZ =>
  cases GZ with | cons q3 GZ =>
  cases GZ with | cons q4 GZ =>
  cases GZ with | cons q5 GZ =>
  cases GZ;cases pa with | cons b0 pa =>
  cases pa with | cons b1 pa =>
  cases pa with | cons b2 pa =>
  cases pa with | cons b3 pa =>
  cases pa with | cons b4 pa =>
  cases pa with | cons b5 pa =>
  cases pa
  revert b0;show aA λb0 TQ _ h0=>?_;subst TQ
  revert b1;show aA λb1 Y3 _ Z=>?_;subst Y3
  revert b2;show aA λb2 Y4 _ h2=>?_;subst Y4
  revert b3;show aA λb3 Y5 _ l=>?_;subst Y5
  revert b4;show aA λb4 Y6 _ h4=>?_;subst Y6
  revert b5;show aA λb5 Y7 _ h5=>?_;subst Y7
  have eo:orM 155#(dB (aW (x:Int)))=x:=(k! orM (Af _)).trans (QX hx);show aA (λOD Y8 pw0 e0=>?_) (show El n J g _ from q0.2)
  have bw:=show Ac n J g _ from q1.2
  have U:=show OE n J g _ from q2.2
  have ew:=show wZ n J g (orM 155#(dB (aW (x:Int)))) _ from q3.2
  have cw:=show Ei n J g (orM 155#(dB (aW (x:Int)))) _ from q4.2
  have ow:=show Ek n J g (orM 155#(dB (aW (x:Int)))) _ from q5.2
  rw[eo]at ew cw ow
  revert ew;show aD λrest eb e3 eve _=>?_
  subst e0 U e3;clear q0 q1 q2 q3 q4 q5;subst hts;change Z3 _ [30#st,54#(x:Int),some (.ref v),some (.str (gD "" (aW (x:Int)))),some (.str (jJ n (m.map (·.2)) (rh (aW (x:Int))))),30#tb,30#l6,some (.ref R),none] OI;show 17#(λe1 UH=>?_)
  show fresh (η OI e1 _) rl UH λH24 Lr h24=>?_
  have Uh:=Jb.trans (RO.trans Lr);show 14#(aV st dx _ rl (Uh _ _ hp) 102#0 ⟨st,(pA d q n f m W ds ⟨g,(dD rl (S.same Uh) (Uh _ _ QC) (Uh _ _ Ub) λD7 rs7 H25 _ s25 Xe lb7 pw7=>?_)⟩)⟩)
  rw[Es lb7 Y8 pw7 pw0]at Xe;have l24:((OD.map (J' (m.map (·.2)))).map V.int).length<=24:=by rw[χ,χ];show nk Y8.1
  show au D7 rl 24#Xe λD hD=>bA (K:=K) (a:=D7) (xs:=(OD.map (J' (m.map (·.2)))).map V.int) (wR ((OD.map (J' (m.map (·.2)))).map V.int) H25 D) (78#hD) (λi M Y9 _ pv=>⟨aI.of (pv.1 _ _ Xe),pv.few⟩) (bN l24) (λi y M Y9 hy pv=>?_) λM Y9 pv=>?_
  .show af (λz hz Za=>?_) (U'.mp (fP hy));subst Za
   show af (λr C Zb=>?_) (U'.mp hz);subst Zb
   show 34#0#(bF (Ad g (Y8.1.ring r C).2) pv.2.1 (pv.turn hD hy))
  revert pv;show cW λOR Ul Zc=>?_;subst Zc
  rw[o!]at Ul;have OR:=s25.trans OR;show bu e1 D _ _ rl rl 42#(OR _ _ h24) (aI.of Ul) ⟨?_,λU WU=>?_⟩
  .rw[χ,χ];show 87#(by change 1+_<=1000;lia)
  have ew:[V.str "lengths"]++(((OD.map (J' (m.map (·.2)))).map V.int).map Lq).map V.str=(("lengths":Str)::(OD.map (J' (m.map (·.2)))).map Tx.g4).map V.str:=by
   rw[L! (g:=Lq)];rfl
  rw[ew];show fresh (η Y9 U _) rl WU λZd Ze Zf=>?_
  show 17#(λe3 Qv=>?_)
  show fresh (η Zd e3 _) rl Qv λH28 Xf Xg=>?_
  have t28:=(Lr.trans OR).trans (Ze.trans Xf);have Zg:=Xf _ _ Zf;have Wq:=Wo.same (RO.trans t28);show(ai rl ⟨.inl (116#Xg),?_⟩);show 14#(eE v n _ (cP g rl Wq n6 λH29 Xh hz=>?_))
  generalize Wc n (m.map (·.2)) g=fz at hz h2;show 14#(bF hz (dl rl) (λe4 Xi=>?_))
  show fresh (η H29 e4 _) rl Xi λWr Zh h30=>?_
  have Ws:=Zh _ _ (Xh _ _ Xg);show cg e3 [.ref U] _ rl rl Ws (eA (show 1<=1000 by decide)) ?_
  change UJ _ [30#st,54#(x:Int),some (.ref v),some (.str (gD "" (aW (x:Int)))),some (.str (jJ n (m.map (·.2)) (rh (aW (x:Int))))),30#tb,30#l6,some (.ref R),30#e3] (η Wr e3 (.lst [.ref U,.ref e4]));have n34:e4≠e3:=λz=>by rw[z,Xh _ _ Xg]at Xi;cases Xi
  have RP:=Xh.trans Zh;have t0:ak OI Zd:=(Lr.trans OR).trans Ze;have Q5:ak Zd (η Wr e3 (.lst [.ref U,.ref e4])):=(Xf.trans RP).put Qv;have Zi:η Wr e3 (.lst [.ref U,.ref e4]) e3=4#([.ref U,.ref e4]):=aa;have Um:η Wr e3 (.lst [.ref U,.ref e4]) e4=4#(120#([("forests":Str),Tx.g4 (fz)])):=by rw[ao n34];show h30
  generalize η Wr e3 (.lst [.ref U,.ref e4])=H31 at Q5 Zi Um;have Wu:=Q5 _ _ Zf;have Q5:=t0.trans Q5;clear h30 Ws Zh RP Xh Xi hz Zg Wq t28 Xf Xg Qv Zf Ze WU Ul OR Xe s25 h24 Lr Uh t0 UH hD;have w31:=Wo.same (RO.trans Q5);have s31:=Jb.trans (RO.trans Q5);have Wv:=Q5 _ _ Q4;show 14#(ly rl (93#Wv) 3#(om rl ?_));show 14#(fO (aI.of Wv) gj 28#(fO (aI.of Wv) (aH (j:=2) rl) 17#(λe5 he5=>?_)))
  show fresh (η H31 e5 _) rl he5 λH32 RQ Zj=>?_
  have Ww:=Q5.trans RQ;have fl:Fl 2 (.list [.list ((("lengths":Str)::(OD.map (J' (m.map (·.2)))).map Tx.g4).map PyData.str),.list ([("forests":Str),Tx.g4 fz].map PyData.str)]):=Fl.list (wW (Et (w:="lengths") (2#0) (OD.map (J' (m.map (·.2))))) (Et (w:="forests") (2#0) [fz]))
  show 14#(cI _ _ (.lst (aI.of Zj) (.cons (.lst 42#(Ww _ _ h0) (nA _)) 117#(.lst 42#(Ww _ _ h2) (nA _)))) (.lst 42#(RQ _ _ Zi) (.cons (.lst 42#(RQ _ _ Wu) (nA _)) 117#(.lst 42#(RQ _ _ Um) (nA _)))) (fl.shaped 7#0) (fl.shaped 7#0) 156#0)
  rw[SeqAt.eqv_refl _ fl.1];have Zk:=w31.same RQ;have s0:=s31.trans RQ;have r32:=RQ _ _ Wv;clear RQ he5 Zi Wu Um Wv s31 w31 Q5;show cy (0#14#(fO (aI.of r32) g5 ⟨st,(eE d q v (pA b1 n f m W ds _ (cI g _ rl (S.same s0) rl Zk (dD (s0 _ _ QC) (s0 _ _ Ub) (Ww _ _ Z) bw λH33 Wx=>28#(cy ?_)))))⟩))
  have s0:=s0.trans Wx;have w33:=Zk.same Wx;have r33:=Wx _ _ r32;have t33:=Ww.trans Wx;clear r32 Zk Wx Ww;have p:jt (120#(("even":Str)::(if eb then("yes":Str) else("no":Str))::rest)) none (some 2)=[.str "even",.str (if eb then "yes" else "no")]:=by
   simp[jt,HT.fX]
  change W5 _ _ H33;show 14#(fO (aI.of r33) (aH (j:=3) rl) 28#(aq b3 _ rl 42#(t33 _ _ l) (λc L=>?_)))
  rw[p];show fresh (η H33 c _) rl L λH34 VW h34=>?_
  show 17#(λy hy=>?_)
  show fresh (η H34 y _) rl hy λH35 Zl h35=>?_
  show(0#⟨v,(aV n _ _ rl (w33.same (VW.trans Zl)) g.pZ (au x rl hx λH36 Zm=>.inr 156#0))⟩)
  have ev:decide (mD n (m.map (·.2)) (x:Int)=[])=eb:=by
   rw[R!,adM,eve];show qn g hx
  rw[ev];have at2:sC [V.str "no",.str "yes"] (46#eb)=some (.str (if eb then "yes" else "no")):=by
   cases eb
   .show gj
   .show g5
  show(fO 42#(Zm _ _ h35) (at2) 17#(λz hz=>?_))
  show fresh (η H36 z _) rl hz λH37 s37 Zn=>?_
  have Zo:Fl 1 (.list [.str "even",.str (if eb then "yes" else "no")]):=Fl.list (wW (.str (2#0)) (.str (by cases eb<;>decide +kernel)))
  show cI _ _ (.lst 42#(s37 _ _ (Zm _ _ (Zl _ _ h34))) (60#.nil)) (.lst (aI.of Zn) (60#.nil)) (Zo.shaped 7#0) (Zo.shaped 7#0) 156#0
  rw[SeqAt.eqv_refl _ Zo.1];have Xj:=(VW.trans Zl).trans (Zm.trans s37);have s0:=s0.trans Xj;have r37:=Xj _ _ r33;have t7:=t33.trans Xj;have w37:=w33.same Xj;show cy ?_;change Y _ _ H37;show(0#14#(fO (aI.of r37) (aH (j:=4) rl) ⟨v,(eE b4 n _ (bZ g x _ rl (dD w37 hx (t7 _ _ h4) cw λH38 WA=>28#(eI ?_))))⟩))
  show(0#14#(fO 42#(WA _ _ r37) (aH (j:=5) rl) ⟨v,(eE b5 n _ (aV g x _ rl (w37.same WA) ((s0.trans WA) _ _ QC) (e7 hx (WA _ _ (t7 _ _ h5)) ow λH39 s39=>k H39 ((s0.trans WA).trans s39))))⟩))
def Ag(c:Chain p s y):∀{f m W},s=(f,m)::W->m.length<=y.length:=by
 induction c with
 | nil=>intro f m W e;cases e;show Ξ _
 | put _ _ _ G=>intro f m W e;cases e;rw[i!];show Nat.succ_le_succ (G rl)
 | drop _ _ G=>intro f m W e;cases e;show Nat.le_succ_of_le (b! (M! _ _) (G rl))
def uB(s:ak H Y):Kept H Y p d q:=⟨s.tups,λb o e _ _ _=>s _ _ e⟩
def G0(C:Addr):Sp:=84#(∃(st d q:Addr) (n:Nat) (W:143#kh) (y:List xK) (c:Int),F=[.ref st,.int c,.int n]/\jv C H st d q n W y/\y.length<=20/\∀Y u v,Kept H Y st d q->jv C Y st d q n u v->v.length<=y.length+1->Q .eM Y)
def G1:Ok T T.wm 4 (G0 a.aJ):=by
 show 1#T.wm.ok
 .revert h;show eg λst=>gb λd q n W=>aY λy c Tc S h20 k=>?_;subst Tc
  show ae _ (ah 187#(208#f7)
   (aj (bD (PW.pt (kR (aF dP (aP eZ bx av) av (aG _)) (iU (aF j3 (37#e9) av (aG _))))) (aj (bX (RD aT T.aM (tR T) C (bH (b8 (iP K) e9 (aP eZ (aP nE bx av) (37#e9))))))) (aj (bD (PW.pt (kR (aF dP (aP eZ bx av) av (aG _)) (iU (aF j3 (208#sd) av (aG _))))) (aj (bX (208#tS))) (aj (bD (aF j3 cA av (aG _)) (ah (uF (aB (Lb T) C (bq (aP nE bx av) (bM cA (b8 (iP K) (bJ (bq av (bM av av))) (aP eZ (aP nE bx av) av))))) (xx K rl (aL (br 4 X.nd) (aL (br 5 X.nd) (aL (br 6 X.nd) cR)))))
   (aj (bX (RD aT T.aM (wN T) C (bq h8 (bM nT Gi)))))) aO))))))) ?_
  show Dp ?_;intro ZM Qu L V6 UJ B x;show eY (λdx f m W r M J=>?_) S.ob;subst r
  have few:=Ag S.ch rfl;have p1:=S.p1;have p2:=S.p2;show 14#(aV st dx _ rl M 102#0 (pA st d q n f m W (au y rl S λl hl=>?_)))
  show fresh (η H l _) rl hl λN s1 Z=>?_
  have z:=S.same s1;have D:=s1 _ _ M;have ln:(aE (m.map (·.1))).length=m.length:=by rw[az,χ]
  have put:V6 { nx:=λ_ Y=>Q .eM Y,rt:=Q} [30#st,some (.int c),some (.int n),some (.ref l),none,none,none] N:=by
   obtain⟨j,hat,j4⟩:∃j:Nat,sC [V.int 0,.int 1,.int 3] (c/4%3)=some (.int j)/\j<4:=by
    obtain⟨o,Z⟩:=jB (c/4) 3 7#0
    generalize c/4%3=i at o Z;have I:i=0\/i=1\/i=2:=by lia
    rcases I with rfl|rfl|rfl
    .show ae 0 gj 7#0
    .show ae 1 g5 7#0
    .show ae 3 (aH rl) 7#0
   show 14#(cU 28#(pD (λg=>?_) (λ_=>k N _ _ (uB s1) z (Q! _))))
   have g:=nB g;show 14#(cU ⟨⟨by decide,by decide⟩,ai rl 17#(λl2 hl2=>28#(cU ⟨⟨by decide,by decide⟩,cU ⟨(rC rl),fO (aI.of aa) (hat) (cg _ n j rl (by lia) p2 j4 (λt b G s2 gt O=>?_))⟩⟩))⟩)
   have U:=s1.trans ((ak.new hl2).trans s2);show bC b _ rl (aZ.of O) rl (gR _ _ 103#209#rl);show 14#(aV st dx _ rl (U _ _ M) 102#0 (0#(ai rl ⟨st,(eE d q n (b9 f m W y t rl (S.same U) gt (by lia) (by lia) λu kp S3=>k u _ _ ((uB U).trans kp) S3 (Ξ _)))⟩)))
  have next:B { nx:=λ_ Y=>Q .eM Y,rt:=Q} [30#st,some (.int c),some (.int n),some (.ref l),none,none,none] N:=by
   show 14#(cU (bF (rC rl) rl 28#(pD (λ_=>(ai rl (aV st dx _ rl D 102#0 ⟨st,(eE d q n (aq _ y rl z (aq _ _ rl rl (ai rl (pD (λo=>?_) (λ_=>?_))))))⟩))) (λ_=>cy ?_))))
   .have o:=nB o;have ch:=z.ch;cases y with
    | nil=>show absurd o 7#0
    | cons e v =>
      obtain⟨s2,hs',rfl⟩:∃s2 hs',W=s2::hs':=by cases ch<;>show gR _ _ rfl
      show 14#(aV st dx _ rl D 102#0 (pA st d q n _ s2 hs' (aq e v rl z λG kp R=>k G _ _ ((uB s1).trans kp) R (by rw[y!];lia))))
   .show put
   .show put
  show 14#(cU (bF (rC rl) rl 28#(pD (λ_=>(ai rl (ly rl (93#Z) (cU (ai rl (pD (λp=>?_) (λ_=>next))))))) (λ_=>cy next))))
  have p:=nB p;rw[ln]at p;obtain⟨i0,i1⟩:=jB (c/4) ((m.length:Nat)) p;obtain⟨i,I⟩:=P_ i0;have hil:i<m.length:=by lia
  show 14#(aV st dx _ rl D 102#0 (0#(cU ⟨⟨by decide,by decide⟩,ai rl (ly rl (93#Z) (cU ⟨(by rw[ln];show p),fO (aI.of Z) (?_) (pA st d q n f m W (cg y (m[i].1) (m[i].2) rl z (E_ hil) (by lia) λG kp R=>k G _ _ ((uB s1).trans kp) R (Ξ _)))⟩))⟩)))
  rw[ln,I];show aH (by unfold aE;rw[d!,d!,z! hil];rfl)
def Le(s:ak Q H)(k:Kept H Y p d q)(M:Q p=none)(J:Q d=none)(D:Q q=none):ak Q Y :=
 λb o e=>k.rest b o (s b o e) (bj e M) (bj e J) (bj e D)
def Jc(y)(h:k=m):0<1*(2:Int)^((k:Nat):Int).toNat/\∃x:Nat,y%(1*2^((k:Nat):Int).toNat)=(x:Int)/\x<2^m:=by
 subst h;have e:(1*2^((k:Nat):Int).toNat)=18#(2^k):=by rw[x!,Int.one_mul,Int.natCast_pow];rfl
 rw[e];have p:(0:Int)<18#(2^k):=Int.natCast_pos.mpr (Nat.pow_pos 7#0)
 obtain⟨o,Z⟩:=jB y _ p;obtain⟨x,B⟩:=P_ o;show bR p x B (by lia)
def BU(K:cu)(tb:F5):Sp:=84#(∃(a:Addr) (J:List Int),F=[.ref a]/\aI K H a (J.map V.int)/\J.length<=63/\TabsAt tb H/\∀Y,Q (.bl true) Y)
def WB:Ok T T.RE 15 (BU K [(a.bT,gB "by_length",bK),(a.aR,gB "least_ways",aN)]):=by
 show 1#T.RE.ok
 .revert h;show gF λb J=>iI λd s g c Q=>?_;subst d
  have E:=c _ g!;have A:=c _ (jx _ g!);show ae _ (ah (bQ 1 X.nd (aB (o9 T) C (bM aT av)))
   (ah 167#(aP gg av (aP eZ (aP nE bx av) av))
   (ah 187#(O5 T.ni (tQ T).ok (C.mono 7#0) (by rfl) T.Gn T.iN.b .nil Cf (bH cA))
   (ah 66#(ff (cY (aB (iy T) C (bM e9 av))))
   (ah (dw PassesOwn.never rl (rq (by rfl) T.dM (bM av (cS (yw rl) (by rfl) T.IP adw (bM av (37#aT))))) (br 4 X.nd)
   (ah (bQ 5 X.nd (aB (pX T) C (bq (b8 (iP K) aT h8) (bM h8 (aP eZ bx av)))))
   (ah (bX (aB (G1 T) C (bq e9 (bM nT cA))))
   (ah (bQ 6 X.nd (aP eZ (aB (pX T) C (bq (b8 (iP K) aT h8) (bM (aP gg av h8) av))) (aP je av (37#(g6 e9 T.aM (f7 T) C)))))
   (aj 66#(PW.pt (kR (aF dP (aP eZ h8 av) av (aG _)) (iU (ff (cY (aB (iy T) C (bM e9 Gi))))))))))))
   (ah (bQ 6 X.nd (aP eZ (aB (pX T) C (bq (aB (o9 T) C (bM aT av)) (bM av av))) (aP je av (37#(g6 e9 T.aM (f7 T) C)))))
   (aj (ay (aB (iy T) C (bM e9 Gi)))))))))) ?_
  show TL ?_;intro Y c L N f g i j k l d e;show 14#(aV b J 0 rl 7#0 s (λz=>?_))
  obtain⟨c,Z⟩:=jB (z/2) 6 7#0
  obtain⟨n,c⟩:∃n:Nat,1+z/2%6=n:=⟨(1+z/2%6).toNat,by lia⟩
  show 14#(cU ⟨⟨by decide,by decide⟩,cU ⟨(rC rl),cU (?_)⟩⟩)
  dsimp only;rw[c];show 14#(λp c M g e=>cg p c n rl aa (by lia) (by lia) λd q G l v f i=>⟨rfl,?_⟩)
  have w:ak H G:=λb o e=>i b o (by rw[ao (bj e M),ao (bj e g)];show e) (bj e M)
  have fresh:∀e,η (η H c (.own p)) p (.ins a.aJ c []) e=none->H e=none:=λe i=>by
   by_cases t:e=p
   .rw[t];show M
   .rw[ao t]at i
    by_cases U:e=c
    .rw[U];show g
    .rwa [ao U]at i
  have l:=fresh d l;have v:=fresh q v;show 14#(pA p d q n 0 [] [] (bC [] 0 rl f (by lia) (dD (r! _) Nat.one_pos (w _ _ A) (w _ _ E) λu O=>28#(cy ?_))))
  have c:=f.same O;have O:=w.trans O;show 14#(bf b _ rl (aS (.inl (O.seq s)) _ _ rl ?_));have D:∃j:Int,(if(29#(J.map V.int):Int)<10 then(29#(J.map V.int):Int) else 10)=j/\0<=j/\j<=10/\j<=J.length:=by
   rw[χ]
   split
   .show 14#(43#(by lia))
   .show 14#(43#(by lia))
  revert D;show gE λj e f g i=>?_
  rw[e];have N:∀{g:Hp} {f:Nat} {m:kh} {W:143#kh} {e:List xK},jv a.aJ g p d q n ((f,m)::W) e->e.length<=9->m.length<=9:=λS h=>b! (Ag S.ch rl) h
  show aq _ _ rl (e7 (by lia) (by lia) (by lia) (by lia)) ?_
  show i4 (λi U g=>∃C D F W e,U=[162#0,some (.int z),some (.int n),some (.ref p),C,D,F]/\ak H g/\jv a.aJ g p d q n W e/\e.length<=i/\e.length<=9) ⟨none,(bu none none _ _ rl O c (r! _) (r! _))⟩ ?_ ?_
  .intro i U g I;show gF λC D=>bO λF W e r j h L _=>?_;subst r
   have c:i<9:=by lia
   have c:sC (J.map V.int) (1+(i:Int))=54#(J.getD (1+i) 0):=by
    rw[show(1:Int)+(i:Int)=18#(1+i) by lia]
    show aH (HW (by lia))
   show(0#(bu b _ _ _ rl rl (j.seq s) c (ae _ rl 14#(cU ⟨(rC rl),(bZ _ _ _ rl λy=>?_)⟩))))
   show(0#14#(pA p d q n W e y (e7 rl h (by lia) λR t k o i r=>?_)))
   have H:=Le j o M l v;show eY (λo f m r t u _=>?_) i.ob;subst t
   have w:=N i (by lia)
   show(0#(bu b _ _ _ rl rl (H.seq s) c (ae _ rl (cU (bZ _ _ _ rl (λv=>?_))))))
   show 14#(aV p o _ rl u 102#0 (pA p d q n f m r (au k rl i λl P=>(ly rl (93#aa) (?_)))))
   have u:(aE (m.map (·.1))).length=m.length:=by rw[az,χ]
   show bE (λz x B G=>?_) (Jc v u)
   show(207#⟨z,?_⟩)
   dsimp only;rw[B];have c:ak R (η R l (.lst (aE (m.map (·.1))))):=ak.new P;generalize η R l (.lst (aE (m.map (·.1))))=o at c;have o:=i.same c;have c:=H.trans c;show 14#(cU (bF (rC rl) rl 28#(pD (λ_=>?_) (λ_=>cy ⟨_,(bu _ _ _ k rl c o (by lia) (by lia))⟩))))
   show(0#(pA p d q n f m r (bC k x rl o (by lia) (dD w G (c _ _ A) (c _ _ E) λH i=>14#(cy ⟨_,(bu _ _ _ k rl (c.trans i) (o.same i) (by lia) (by lia))⟩)))))
  .intro U g;show gF λC D=>bO λF W e R j h _ L=>?_;subst R
   show eY (λI f m t g r _=>?_) h.ob;subst g
   show 14#(aV b J 1 rl 7#0 (j.seq s) (λy=>bZ _ _ _ rl λv=>?_))
   show 14#(aV p I _ rl r 102#0 (pA p d q n f m t (au e rl h λl P=>(ly rl (93#aa) (?_)))))
   have u:(aE (m.map (·.1))).length=m.length:=by rw[az,χ]
   have w:=N h L;show bE (λz x B G=>?_) (Jc v u)
   show(207#⟨z,?_⟩)
   dsimp only;rw[B];have c:=j.trans (ak.new (o:=.lst (aE (m.map (·.1)))) P);show(0#(pA p d q n f m t (bC e x rl (h.same (ak.new P)) (by lia) (dD w G (c _ _ A) (c _ _ E) λH i=>Q H))))
end
section
variable {l:PySem.W.OpenLaw}{w:World}{K:cu}{h:Heap}{mg:xA}{fa Xk f36 f73 f74 f75 f76 f77 f78 f79 Q6 fW cC dc rj f9 pe fG:Addr}{Zp d36 Zq:FuncData}{ts:214#0}{yk Eu Lf xj Lg:Tok}
open PySem.W
def all_mk(X:K.In h)(G:166#h.Ns)(g:mg "law"=30#fa)(C:ts=[f9,fG])
 (z:nsIn K mainGlobals "RingError"=some (30#fW))
 (M:nsIn K mainGlobals "NotEven"=some (30#cC))
 (G2:nsIn K mainGlobals "Standing"=some (30#dc))
 (Ew:plainGet K dc Str.empty=true) (Ex:hasDictIn K dc=true) (Ey:plainOver K dc=true) (Ez:findIn K (.ref dc) "__setattr__"=41#(.builtin "object.__setattr__")) (ni:makesIn K dc=true) (EA:keepIn K (.ref dc)=true)
 (D:findIn K (.ref dc) "points"=some none)
 (bY:findIn K (.ref dc) "standing_ties"=some none)
 (f6:findIn K (.ref dc) "next_name"=some none)
 (jG:findIn K (.ref dc) "done"=some none)
 (G3:findIn K (.ref cC) "__getattribute__"=41#(.builtin "BaseException.__getattribute__")) (G4:findIn K (.ref cC) "__getattr__"=some none)
 (G5:findIn K (.ref cC) "__class__"=41#(.builtin "object.__class__")) (G6:specialIn K (.builtin "object.__class__") "__get__"=41#(.builtin "getset_descriptor.__get__"))
 (G7:takesIn K (.builtin "object.__class__")=some true) (G8:mroIn K cC (.type "object")=some true) (G9:hasDictIn K cC=true) (W:mroIn K cC (.type "BaseException")=some true)
 (xc_RingError:excIn K fW CN "ValueError.__new__"=true)
 {EB Hf:Str} {Hg:Addr} {EC BV:70#0} {I ED:Bool} {EF:List Str} {BW:Option Bool} {EG:184#0} {EH EI EJ EK E:Option Value}
 (ir:findIn K (.ref cC) "__init__"=some (30#Q6)) (Hh:isFn K (.ref Q6)=true) (q:Cg K "__init__" "NotEven.__init__" jm Q6 Zq)
 (Hi:K.lookup cC=some (excClassObj EB Hf cC Hg EC (.ref fW::CN) I EF BV ED BW EG EH EI EJ EK E "ValueError.__new__")) (Hj:keepIn K (.ref cC)=true)
 (S:findIn K (.ref cC) "__setattr__"=41#(.builtin "object.__setattr__")) (Y:takerIn K cC "point"=some none) (Hl:hasDictIn K cC=true) (Q:findIn K (.ref cC) "point"=some none)
 (N:readsIn K fW (.type "type")=true) (Ho:findCls K (.ref fW) (.type "type") "__init__"=some (.val (.builtin "ValueError.__init__"))) (Hq:specialIn K (.ref fW) "__getattribute__"=41#(.builtin "type.__getattribute__"))
 (nt:noTabs K=true) (pn:([f9,fG]:214#0).Nodup) (pi:∀p∈([f9,fG]:214#0),p∈ts)
 (x:WZ K (n8 (top 41)) (top 41) Xk Zp rj f9)
 (u:WZ K (n8 (top 56)) (top 56) f36 d36 pe fG)
 (tb:Gh K top [16,17,18,19,20,21,22,23,24,25,26,27,28,29,31,32,33,34,35,36,37,39,40,42,43,44,45,47,48,49,50,51,52,53,55,57,58,60,61,62,63,64,65,66,67,68,70,71,72,73,74,75,76,77,79,80,81,83,84,85,98,99,100,102,103,104,105,106,107,108,110,111,112,113,114,115,116,117,119,121,122,126,127,128,129,130,131,132,133,134,135])
 (tm:vR K dc (inClass (top 124)) [0,1,2,3,4,5,6,7,8,9])
 (e:nsIn K mainGlobals "lengths_row"=some (30#f73))
 (P:nsIn K mainGlobals "base_row"=some (30#f74))
 (T:nsIn K mainGlobals "even_row"=some (30#f75))
 (U:nsIn K mainGlobals "cut_row"=some (30#f76))
 (Z:nsIn K mainGlobals "odd_row"=some (30#f77))
 (H:nsIn K mainGlobals "heights_row"=some (30#f78))
 (r79:nsIn K mainGlobals "forests_row"=some (30#f79))
 (BX:Ng K "ValueError")
 (WC:Ng K "abs")
 (WD:Ng K "all")
 (EL:Ng K "enumerate")
 (WE:Ng K "int")
 (WG:Ng K "len")
 (Uo:Ng K "list")
 (WH:Ng K "max")
 (WI:Ng K "min")
 (Q7:Ng K "range")
 (OJ:Ng K "sorted")
 (WJ:Ng K "str")
 (WK:Ng K "sum")
 (J:Ng K "tuple")
 (L:Ng K "zip")
 (yl:nsIn K mainGlobals "MOST_POINTS"=41#(.int 10 yk))
 (EM:nsIn K mainGlobals "MOST_TIES"=41#(.int 24 Eu))
 (Lh:nsIn K mainGlobals "LONGEST"=41#(.int 1000000000000000000000000000000 Lf))
 (xm:nsIn K mainGlobals "MOST_FIGURES"=41#(.int 60 xj))
 (Li:nsIn K mainGlobals "FIGURES"=41#(.str "0123456789" Lg))
 {j:Addr} {a:184#0} {i:Nat} {ym:Array (Option Value)} {xn xo xq:Tok}
 (BY:nsIn K mainGlobals "BARE_WORDS"=41#(.ref j))
 (yn:K.lookup j=some ⟨.type "tuple",a,.seq #[.str "lengths" xn,.str "base" xo,.str "forests" xq] i,ym⟩)
 {d:Addr} {b:184#0} {R:Nat} {yo:Array (Option Value)} {F xr xu:Tok}
 (B:nsIn K mainGlobals "TIES_WORDS"=41#(.ref d))
 (yp:K.lookup d=some ⟨.type "tuple",b,.seq #[.str "even" F,.str "cut" xr,.str "odd" xu] R,yo⟩)
 {k:Addr} {O:Nat} {n A m r y t o:Tok}
 (Uq:nsIn K mainGlobals "ROWS"=41#(.ref k))
 (Q8:K.lookup k=some ⟨.type "dict",none,.dict #[⟨PyData.keyHash w.params "lengths",.str "lengths" n,.ref f73⟩,⟨PyData.keyHash w.params "base",.str "base" A,.ref f74⟩,⟨PyData.keyHash w.params "even",.str "even" m,.ref f75⟩,⟨PyData.keyHash w.params "cut",.str "cut" r,.ref f76⟩,⟨PyData.keyHash w.params "odd",.str "odd" y,.ref f77⟩,⟨PyData.keyHash w.params "heights",.str "heights" t,.ref f78⟩,⟨PyData.keyHash w.params "forests",.str "forests" o,.ref f79⟩] O,#[]⟩)
 (hy_NotEven:exmOne K (.ref cC) (.ref cC)=some true)
 : ∃(fd:FuncData) (tb:F5),((tb.map (·.1)).Nodup/\noTabs K=true/\∀p∈tb,p.1∈ts/\∃c,codeHdIn K c p.1=true)/\(∀(s:Shared) (v:Value),BindsTo s fd ⟨[v],[]⟩ [("script",v)])/\∀base:Heap,K.In base->166#base.Ns->iM l.prog w K mg base rA 15 fa fd ["script"] (BU K tb):=by
 obtain⟨s,R,i⟩:=tm.ex Xk Zp;obtain⟨b,ad,a⟩:=tb.ex Xk Zp;cases pQ (a 111 7#0).n e
 cases pQ (a 112 7#0).n P
 cases pQ (a 113 7#0).n T
 cases pQ (a 114 7#0).n U
 cases pQ (a 115 7#0).n Z
 cases pQ (a 116 7#0).n H
 cases pQ (a 117 7#0).n r79
 have e:=g.symm.trans (mg_of X G (a 135 7#0).n)
 cases e;have T:∀base,Txt l.prog w base K mg ⟨b,s,ad,R,Xk,f36,Q6,_,_,_,fW,cC,dc,j,d,k,rj,f9,pe,fG⟩:=λ_=>⟨(by constructor<;>show dz X G a),(by constructor<;>show dzM i),ZJ X G x,ZJ X G u,⟨ni,(i 0 7#0).1.at_,(i 0 7#0).1.fn,EA⟩,q,⟨⟨_,_,_,_,_,_,_,_,_,_,_,_,_,_,_,Hi⟩,ir,Hh,Hj,S,Y,Hl,Q,N,Ho,Hq⟩,q.binds (λ_ _ _ _ _ _ g P=>by obtain⟨_,_,_,rfl⟩:=Vt g P;rfl),m? X G BX.n,m? X G WC.n,m? X G WD.n,m? X G EL.n,m? X G WE.n,m? X G WG.n,m? X G Uo.n,m? X G WH.n,m? X G WI.n,m? X G Q7.n,m? X G OJ.n,m? X G WJ.n,m? X G WK.n,m? X G J.n,m? X G L.n,⟨_,mg_of X G yl⟩,⟨_,mg_of X G EM⟩,⟨_,mg_of X G Lh⟩,⟨_,mg_of X G xm⟩,⟨_,mg_of X G Li⟩,mg_of X G BY,λ_=>.inr ⟨_,_,_,yn,rfl,rfl,(by change 3<=_;decide),.cons 197#0 (.cons 197#0 (.cons 197#0 (.nil)))⟩,mg_of X G B,λ_=>.inr ⟨_,_,_,yp,rfl,rfl,(by change 3<=_;decide),.cons 197#0 (.cons 197#0 (.cons 197#0 (.nil)))⟩,mg_of X G Uq,NO (l:=[("lengths",n,b 111),("base",A,b 112),("even",m,b 113),("cut",r,b 114),("odd",y,b 115),("heights",t,b 116),("forests",o,b 117)]) Q8 (fR ["lengths","base","even","cut","odd","heights","forests"]),mg_of X G z,mg_of X G M,mg_of X G G2,⟨Ew,Ex,Ey,Ez⟩,D,bY,f6,jG,⟨G3,G4,G5,G6,G7,G8,W,Sy G9⟩,λZ U c=>Sx U c z xc_RingError,hy_NotEven⟩
 show⟨_,[(f9,gB "by_length",bK),(fG,gB "least_ways",aN)],⟨pn,nt,λp M=>⟨pi _ (S? (f:=(·.1)) M),by simp only[Z',i_,or_false]at M;rcases M with rfl | rfl;all_goals first | show⟨_,x.F.hd⟩ | show⟨_,u.F.hd⟩⟩⟩,Tt (a 135 7#0),λbase _ _=>(WB (T base)).ok⟩
end
def walk{l:PySem.W.OpenLaw}{q:Program}{W:List Str}{t:(Str->Option Value)->Heap->Prop}{I:World->Heap->Prop}{d:DefRec}{K:Params->cu}{J:214#0}(g:l.most=some 63)(m:d.params.defaults=[])
 (D:∀(w:World) (h:Heap),I w h->(K w.params).In h/\∀P∈J,h.get? P=some (PySem.W.tabObj #[]))
 (F:∀(w:World) (mg:xA) (N:Addr) (h:Heap),(K w.params).In h->166#h.Ns->mg d.name=some (.ref N)->
  ∃(fd:FuncData) (tb:F5),((tb.map (·.1)).Nodup/\PySem.W.noTabs (K w.params)=true/\∀p∈tb,p.1∈J/\∃c,PySem.W.codeHdIn (K w.params) c p.1=true)/\(∀(s:Shared) (u:Value),BindsTo s fd ⟨[u],[]⟩ [("script",u)])/\∀base:Heap,(K w.params).In base->166#base.Ns->iM l.prog w (K w.params) mg base rA 15 N fd ["script"] (BU (K w.params) tb)) :
 PySem.W.WalkO q W t I l.row.toRowW d [] (λf vs=>PySem.call f vs) :=
 L2.Nr (n:=63) (k:=15) (x:="script") (CX:=λ_=>rA) (sp:=λw=>BU (K w.params)) g 7#0 m ⟨rfl,by decide,by decide⟩ D F (λ_ _ a e tb b j S=>⟨a,e,rfl,S,b,j,λ_=>rfl⟩) λ_ _ _ _ _ z=>z
end K67
namespace PySem.W.Fast
def tw17836807976957629769:=()
def tw12760053214119888014:=()
def tw9170863754677986664:=()
def tw2273308343174302689:=()
def tw7598607135211897123:=()
def tw1863148939066474350:=()
def tw5492354888324076512:=()
def tw17611585174481184371:=()
def tw13453271376132868874:=()
def tw10301347582420038114:=()
def tw8670213484461919480:=()
def tw6889839801714853734:=()
def tw14625916985436135322:=()
def tw1458493676397786866:=()
def tw16065779687535594778:=()
def tw3904484594469922933:=()
def tw948083407131811340:=()
def tw8294506100954450873:=()
def tw12605758941809091463:=()
def tw6909646339451135601:=()
def tw9643919784324384297:=()
def tw9598057529377682888:=()
def tw288311798999692478:=()
def tw11209226869968202797:=()
def tw13533121060246619539:=()
def tw14747915381712944860:=()
def tw15743220161063163306:=()
def tw11373916520189598142:=()
def tw6429877600840849667:=()
def tw9071512865976273986:=()
def tw6611113893001120550:=()
def tw7924279472857435757:=()
def tw1505854516220012381:=()
def tw17746287072043866596:=()
def tw12784957817783712935:=()
def tw10800692901174556320:=()
def tw9745864742178551391:=()
def tw279143809222425200:=()
def tw16287858660626571290:=()
def tw7828596615090765344:=()
def tw1638879386687518293:=()
def tw3530077412334610024:=()
def tw16085763360310467056:=()
def tw17419471327800797030:=()
def tw10988458481538786531:=()
def tw15700610147672591538:=()
def tw10349244571858264397:=()
def tw10674131515440404782:=()
def tw18423305778010035361:=()
def tw16672482530474736382:=()
def tw5185922805492904493:=()
def tw2190537091375220809:=()
def tw14065732743397775914:=()
def tw14323914808160301926:=()
def tw12515828251337308919:=()
def tw2698355769356440896:=()
def tw3854576255180786701:=()
def tw9312250897217028401:=()
def tw10620903373854424422:=()
def tw13053070131254675192:=()
def tw1764713781713097177:=()
def tw12322157565904871139:=()
def tw400491562994648:=()
def tw7275482144545179415:=()
def tw12735582762363957463:=()
def tw10890333238306121703:=()
def tw978006990163339481:=()
def tw11435006304019051346:=()
def tw5531192240544234679:=()
def tw18236299518679763260:=()
def tw25839125787351607:=()
def tw461413936186596708:=()
def tw8100326715281956469:=()
def tw17715495613340239734:=()
def tw16522061432793805977:=()
def tw14564328771746673067:=()
def tw1162646407765291316:=()
def tw3448819278759601486:=()
def tw784731976388784653:=()
def tw17870965494680602461:=()
def tw17249117143375500061:=()
def tw6288060527790050288:=()
def tw13789568520489546780:=()
def tw5956202552999375504:=()
def tw17730375028138677378:=()
def tw15973031090085955932:=()
def tw2478032888697197406:=()
def tw5707599670030722935:=()
def tw13734539718534138030:=()
def tw7500426392413627795:=()
def tw1221491276677665772:=()
def tw8224394780644402051:=()
def tw1003005512762081152:=()
def tw10833130619375538037:=()
def tw1523908877670030698:=()
def tw12643679818670248289:=()
def tw4150421952917994334:=()
def tw14844299157652695167:=()
def tw17412925432854380879:=()
def tw17893976736083281181:=()
def tw11965881386770450390:=()
def tw10140603184994003658:=()
def tw2493196355523743573:=()
def tw12363164712264768335:=()
def tw10347010275441602000:=()
def tw11318086692712295187:=()
def tw9068636855088003208:=()
def tw6400108984420177277:=()
def tw15061952998312115587:=()
def tw2885364886589459921:=()
def tw8483135837034124991:=()
def tw12156614452911632844:=()
def tw5700582996348305189:=()
def tw17574102161973142670:=()
def tw12984863463162183752:=()
def tw10876266210550759636:=()
def tw1602202135150992137:=()
def tw6937024232313236779:=()
def tw18407755410551200412:=()
def tw3331557647444595971:=()
def tw16508398534980144194:=()
def tw13610691272287245652:=()
def tw2861707855249221580:=()
def tw10082671859580380821:=()
def tw7706779973476749556:=()
def tw15822781193528957403:=()
def tw2165618712337015587:=()
def tw18283610016625545216:=()
def tw12185087852575501106:=()
def tw15547770666666208477:=()
def tw9795594052566597639:=()
def tw14885248182325650186:=()
def tw9627583133794618220:=()
def tw14263680737337067414:=()
def tw12479139813337484034:=()
def tw3098054827582367199:=()
def tw3100339916195766768:=()
def tw11585850633198768759:=()
def tw1074271563671499950:=()
def tw3418988121162814958:=()
def tw6929312974944208445:=()
def tw17290567805877076229:=()
def tw7961718639825607961:=()
def tw17997030660767869051:=()
def tw10748055818285465335:=()
def tw11793980989708833212:=()
def tw15801943734765889689:=()
def tw17882014963129444812:=()
def tw14350390257328577151:=()
def tw8119309642590821691:=()
def tw16026607192164600748:=()
def tw12691641766889196448:=()
def tw9472578999342191001:=()
def tw13809330907563980570:=()
def tw11933096996211928401:=()
def tw1084503722035657945:=()
def tw18292965337143451749:=()
def tw456419227666025424:=()
def tw10133434502204046197:=()
def tw7469449606487539776:=()
def tw10504634244617983119:=()
def tw1832154209484404063:=()
def tw16806970591705628963:=()
def tw9515502911542841353:=()
def tw6055022823228191051:=()
def tw2991569954794498749:=()
def tw10464569544983741908:=()
def tw15734827630229667859:=()
def tw7702378933428432737:=()
def tw15510068925416547414:=()
def tw18442987434311384250:=()
def tw9235460958167356403:=()
def tw13072324877886504103:=()
def tw6430739257216883747:=()
def tw8005213756547700791:=()
def tw9389979248281788073:=()
def tw13415475516573506553:=()
def tw10156942140013667349:=()
def tw3332971779638021741:=()
def tw12070028693843425441:=()
def tw12549280858190070086:=()
def tw13288230928330642788:=()
def tw14175719908408566146:=()
def tw4652419862999224167:=()
def tw8845632467761302063:=()
def tw15433459964962304414:=()
def tw3050666916791506354:=()
def tw15906940440318814444:=()
def tw3097423524514821098:=()
def tw10599083282900846741:=()
def tw6635859320970654158:=()
def tw13956599775254956636:=()
def tw6231248046034979187:=()
def tw13763910370136024172:=()
def tw909303791976377322:=()
def tw7081621506955485625:=()
def tw14601300183797371616:=()
def tw6092514772627165354:=()
def tw132107293869892462:=()
def tw14163153244648013393:=()
def tw4069047277862427811:=()
def tw11666848642948358830:=()
def tw7880670492488864247:=()
def tw2206115124631753578:=()
def tw5746283521471520301:=()
def tw17928221295399446267:=()
def tw16920583664620282808:=()
def tw17733572343058795252:=()
def tw11719463110185631135:=()
def tw15171944467285308138:=()
def tw6463152031833744073:=()
def tw7522203177564091662:=()
def tw13864703062014052299:=()
def tw5296159528465857049:=()
def tw3903884445258962110:=()
def tw4757659163329250828:=()
def tw8372277345294037266:=()
def tw16382460852248128381:=()
def tw17107794866037442479:=()
def tw15419832068490236632:=()
def tw6711278684500502699:=()
def tw14996119993780337256:=()
def tw14448726746853799601:=()
def tw2165926445971890932:=()
def tw15639312362665581441:=()
def tw860552724139215932:=()
def tw17471788982932592756:=()
def tw9198222112103419725:=()
def tw15673072341011497587:=()
def tw9525944954481296798:=()
def tw15626905045466068922:=()
def tw15205841180798366844:=()
def tw13575377082814987246:=()
def tw3304380630519497522:=()
def tw5992551652606164917:=()
def tw8317869807780988709:=()
def tw13293771633782208273:=()
def tw8095306523272546948:=()
def tw3514047833332543574:=()
def tw1521198898304131658:=()
def tw5038197993039622267:=()
def tw9453356518440581218:=()
def tw2412529401189797989:=()
def tw6203160550104097225:=()
def tw908288951551511998:=()
def tw16727373165027189757:=()
def tw13275962448850805609:=()
def tw4445172642627998225:=()
def tw1621222467685009771:=()
def tw16223011413835023761:=()
def tw15505048548047286413:=()
def tw1351667443280735494:=()
def tw536539116110104929:=()
def tw192738741915673946:=()
def tw5419304012619951755:=()
def tw11875500437760486201:=()
def tw15266058226275549362:=()
def tw13805525770261738093:=()
def tw15984919030122552944:=()
def tw6557473937698835982:=()
def tw5755772066398746949:=()
def tw1696218201853648238:=()
def tw13579555253956743278:=()
def tw10062621192026656271:=()
def tw4789206921444535210:=()
def tw1116696405361783369:=()
def tw12706981649677475483:=()
def tw2173049213434299897:=()
def tw16619556900092500165:=()
def tw3296221370248264494:=()
def tw14798837756368224675:=()
def tw5889416156004898492:=()
def tw928839333506948802:=()
def tw4838719121749228465:=()
def tw14187663840117082404:=()
def tw18405173017945996726:=()
def tw2998196552065910378:=()
def tw3388996167366163837:=()
def tw13088993383751945455:=()
def tw12502999383306483888:=()
def tw11468977324514935307:=()
def tw6584082873130288525:=()
def tw5164719167867583162:=()
def tw16442469011928836490:=()
def tw5497558365268948315:=()
def tw10622463443427378590:=()
def tw447359300468079025:=()
def tw13664137106235195162:=()
def tw13607120451227092143:=()
def tw17780292188043193974:=()
def tw16858507348880560873:=()
def tw14650149671557342032:=()
def tw1827954544723317288:=()
def tw12228916095318022041:=()
def tw14658228910375479999:=()
def tw2538406130449817694:=()
def tw7107992556848883822:=()
def tw4629595274131633996:=()
def tw14446656892842248804:=()
def tw17952297022671023917:=()
def tw13440067272093759140:=()
def tw9950869224292924596:=()
def tw5748397788600373013:=()
def tw3207121319178475477:=()
def tw303158050058857058:=()
def tw255545799420598684:=()
def tw17049746598159818075:=()
def tw16757594204518690594:=()
def tw16624218657596752606:=()
def tw513274844210689411:=()
def tw8672019740836062372:=()
def tw15318458479048594981:=()
def tw6369084905567168086:=()
def tw2567948578205682715:=()
def tw1132143089224855721:=()
def tw17134549992444727829:=()
def tw1199467792454627632:=()
def tw12808434107012172707:=()
def tw5262276709661513207:=()
def tw15275899037873750247:=()
def tw18012245386480511422:=()
def tw15244013205004551379:=()
def tw10856241039095961945:=()
def tw2314281243221112515:=()
def tw4340202237749145219:=()
def tw313388359761504546:=()
def tw16729308564681049476:=()
def tw14735836040130790003:=()
def tw14674730607469100415:=()
def tw9563232438299917914:=()
def tw9443366800671850419:=()
def tw18255824056084057701:=()
def tw5321422939122962296:=()
def tw7162927741171736367:=()
def tw11456200251725004201:=()
def tw3952873071853413485:=()
def tw11987434653267422276:=()
def tw7438643639419076219:=()
def tw8728475355977886560:=()
def tw13409519000634476751:=()
def tw11570757186149153012:=()
def tw10370073172721384689:=()
def tw10862037089415802801:=()
def tw6396364966956461091:=()
def tw8113130194049226134:=()
def tw3220539011946666329:=()
def tw10703867992337251427:=()
def tw3167769027482304308:=()
def tw18350380313033303426:=()
def tw15051382518827618387:=()
def tw15797849634114142545:=()
def tw13002854111673351584:=()
def tw2616739111651759116:=()
def tw11170397551512348094:=()
def tw15657323595958409768:=()
def tw5502402220764790224:=()
end PySem.W.Fast
open PySem PySem.W PyProof.Rows
set_option maxRecDepth 100000 in
set_option maxHeartbeats 0 in
theorem PySem.Challenge.cw_ringbase_k67_whole_standing_and_asked_holds : PySem.Challenge.rw_ringbase_k67_whole_standing_and_asked.Holds := by
 w_on;o_law;k_head;(case hw=>w_witness2)
 k_fill
 refine K67.walk (l:=PySem.Challenge.rw_ringbase_k67_whole_standing_and_asked) rfl rfl (fun w h Y=>⟨PySem.W.km_in_of Y,PySem.W.km_tabs_of Y⟩) ?F
 case F =>
  intro w mg fa h KX G hmg;refine' K67.all_mk KX G hmg ?te (tb:=?tb) (tm:=?tm) (xc_RingError:=?x0) (nt:=?x1) (pn:=?x2) (pi:=?x3) (hy_NotEven:=?x4) ..
  (case te=>exact rfl)
  any_goals k_is
  (case tb=>(repeat (refine' .cons (L2.dk ?ga ?gl ?gc ?gk) ?_;(case ga=>k_is);(case gl=>k_is);(case gc=>k_is);(case gk=>k_is)));exact .nil)
  (case tm=>(repeat (refine' .cons ?ma ?mj (L2.E8 ?gl ?gc ?gk) ?_;(case ma=>k_is);(case mj=>k_is);(case gl=>k_is);(case gc=>k_is);(case gk=>k_is)));exact .nil)
  any_goals (refine' L2.dkL ?ga ?gl ?gc ?gk ?gd;(case ga=>k_is);(case gl=>k_is);(case gd=>kernel_rfl);(case gc=>k_is);(case gk=>k_is))
  any_goals (refine' L2.E8 ?gl ?gc ?gk;(case gl=>k_is);(case gc=>k_is);(case gk=>k_is))
  any_goals (refine' L2.Ng.mk ?ga;(case ga=>k_is))
  (case x0=>k_exc)
  (case x1=>kernel_rfl)
  (case x2=>decide)
  (case x3=>decide)
  (case x4=>kts_exm)
