import PyProof.Rows.All
import Wide.All
import OpenK.AllK
import Wide.FinOn
import Lean
import PyProof.EqAt
import PyProof.EqKinds
import PyProof.TupleCall
import PySem.Challenge.RW_ringbase_k62_answers_refused
set_option Elab.async false
set_option linter.all false
set_option bootstrap.genMatcherCode false
set_option compiler.extract_closed false
set_option maxRecDepth 100000
set_option hygiene false
local macro_rules
|`(tactic|show $x)=>`(tactic|refine $x)
local macro_rules
|`(0#$x)=>`(ah rx (ah rx $x))
|`(1#$x)=>`(some (.lst $x))
|`(2#0)=>`(λ_ A _ s H G Q E P h=>?_)
|`(3#0)=>`(by decide)
|`(4#$x)=>`(46#(ah rx $x))
|`(5#$x)=>`(θ X pq σ $x s)
|`(6#$x)=>`(λ_ _ _ _=>$x)
|`(7#$x)=>`((($x :Nat):Int))
|`(8#$x)=>`(some (.int $x))
|`(9#0)=>`(model X.prog X.w)
|`(10#0)=>`(by decide +kernel)
|`(11#$x)=>`(decide ($x))
|`(12#0)=>`(m.testBit k)
|`(13#0)=>`(by first | show .inl rfl | show .inr rfl | assumption)
|`(14#$x)=>`(ah rx ($x))
|`(15#$x)=>`(starEach $x X.env)
|`(16#$x)=>`(199#$x&&env.scope.kind == .function&&env.kindOf n==some .cell)
|`(17#$x)=>`(some (.tup $x))
|`(18#$x)=>`(⟨dl rfl,$x ⟩)
|`(19#$x)=>`(159#($x D))
|`(20#$x)=>`(some (.ref $x))
|`(21#$x)=>`(s.heap.get? b=some $x)
|`(22#$x)=>`($x s.heap.objs.size)
|`(23#0)=>`(by simp)
|`(24#$x)=>`($x b=some o)
|`(25#$x)=>`(model prog $x)
|`(26#$x)=>`(Option.some.inj $x)
|`(27#$x)=>`(bW (pv 0) $x)
|`(28#$x)=>`(ah rx ($x))
|`(29#$x)=>`(⟨_,aK.of $x ⟩)
|`(30#0)=>`(by intro z;cases z)
|`(31#$x)=>`(List.range $x)
|`(32#0)=>`(by trivial)
|`(33#$x)=>`((false,eval $x X.env))
|`(34#$x)=>`($x A s M H _ I h)
|`(35#$x)=>`(let v:=mY;let f:=nJ;$x)
|`(36#$x)=>`($x<=sizeLine)
|`(tactic|show 37)=>`(tactic|(rcases Z'.mp t with rfl|t))
|`(38#0)=>`([.bl false,.bl false,.bl false])
|`(39#$x)=>`(Obj.mapSeq λ_=>($x :Array Value))
|`(40#$x)=>`(238#(X.env.scope.names.lookup $x))
|`(41#$x)=>`(X.env.cells.lookup $x=some c)
|`(42#$x)=>`(wpAny _ X.A.in1 ($x >>= _) _ _ _)
|`(43#$x)=>`((174#$x).objs.size)
|`(44#$x)=>`(cA K T.dm (bB $x))
|`(45#$x)=>`(c9 X (own++fq) scope (λ_ _=>False) C s H $x)
|`(46#$x)=>`(⟨rfl,$x ⟩)
|`(47#$x)=>`(Builtin.Int.intBits $x)
|`(48#$x)=>`(($x).length)
|`(49#0)=>`(aR rx _ _ rx (aq _ _ rx rx ?_))
|`(tactic|show 50#$x)=>`(tactic|(change wpAny _ _ $x _ _ _))
|`(51#$x)=>`(.fields #[.ref $x,.none,.none,.none,.bool false,.none])
|`(52#0)=>`(λ_ _=>False)
|`(53#$x)=>`(aK.of ($x))
|`(54#0)=>`(⟨by decide,by decide⟩)
|`(55#$x)=>`((List.replicate $x [V.int 0]).flatten)
|`(56#$x)=>`((∀k Y,N k Y->∃O,O<m/\W (i+1) O k Y)/\∀x Y,$x->g x M Y λP Z=>Q { D with nx:=N,ct:=N,bk:=D.nx} P Z)
|`(57#$x)=>`(if $x=true then 1 else 0)
|`(58#0)=>`(eE X.env.cells scope.names [])
|`(tactic|show 59#$x)=>`(tactic|(change wpAny _ _ $x _ _ s))
|`(60#$x)=>`(wpAny 25#w A $x Q E s)
|`(61#$x)=>`(η $x D 185#0)
|`(62#$x)=>`(PySem.W.kitOne K (.ref a.bE) $x=some false)
|`(63#$x)=>`(PySem.W.kitOne K (.ref a.aY) $x=some false)
|`(64#$x)=>`($x _ (.head _))
|`(65#$x)=>`(.int ($x :Int))
|`(66#$x)=>`(.lst ($x))
|`(tactic|show 67)=>`(tactic|(intro A s M H x y v u Q I B c h))
|`(tactic|show 68)=>`(tactic|(intro A s M H Q I h))
|`(69#$x)=>`(I.turned (t':=s.toks) (λb o U e=>$x) J R Q B z)
|`(70#0)=>`(ee K (pv 0))
|`(tactic|show 71)=>`(tactic|(obtain⟨t,rfl⟩:=B))
|`(72#$x)=>`(envOfC j scope s.heap.objs.size f $x)
|`(73#$x)=>`(h.Ns mainGlobals $x)
|`(74#0)=>`(dl (x!.mpr (by lia)))
|`(75#0)=>`(λ_ _ _ _=>bZ)
|`(76#$x)=>`(scope.names.lookup $x)
|`(77#0)=>`(absurd (show false=true from l) n!)
|`(78#$x)=>`(PySem.W.keepIn $x (.ref f)=true)
|`(79#$x)=>`(wpAny (model P w) A $x Q E s)
|`(80#$x)=>`(bI (nV K) (by rfl) T.cB b? 27#$x)
|`(81#$x)=>`($x->Hp->VK->Prop)
|`(82#0)=>`(List Value)
|`(83#$x)=>`(List.replicate $x none)
|`(84#$x)=>`(af _ (ak $x) ?_)
|`(85#$x)=>`(bj (by lia) (by lia) $x)
|`(86#$x)=>`(some (some $x))
|`(87#$x)=>`({ cls:=$x,data:=.fields #[.ref l,.int 0 0]})
|`(88#0)=>`(by with_unfolding_all rfl)
|`(89#$x)=>`(∃t,$x/\t { nx:=λ_ Y=>Q .eM Y,rt:=Q} (start N G) H)
|`(90#$x)=>`(gA X params body scope c $x)
|`(91#0)=>`(by simpa using k)
|`(92#$x)=>`(N.bP (λk=>12#0) N.n $x)
|`(tactic|show 93)=>`(tactic|(first | show Or.inl rfl | show Or.inr (Or.inl rfl) | show Or.inr (Or.inr rfl)))
|`(tactic|show 94)=>`(tactic|(obtain⟨Z,rfl⟩:=c))
|`(95#$x)=>`((N.heap.push $x).objs.size)
|`(96#0)=>`(λz=>nomatch z)
|`(97#$x)=>`(aZ.of ($x))
|`(tactic|show 98)=>`(tactic|(repeat (any_goals (first | assumption | wp_step))))
|`(99#$x)=>`(∀Y,ai H Y->Q $x Y)
local macro_rules
|`(100#$x)=>`(.inl (cJ rx _ $x))
|`(101#$x)=>`(PySem.W.fnOf x $x (eZ st) (cQ st) (aU st) .none kV m z M i ct)
|`(102#0)=>`(by simpa using U)
|`(103#0)=>`(.ListComp elt [⟨tg,iter,ifs,0⟩] scope pos)
|`(104#$x)=>`(ak (iy dJ.R7 rx (by rfl) $x m? (bB aW)))
|`(105#$x)=>`(wpAny 9#0 X.A $x (EP X pq σ Q) X.xe s)
|`(106#$x)=>`(af $x (av xs.length 23#0 (r! _) h0) ?_)
|`(107#$x)=>`(kitOne K (.ref bf) $x=some false)
|`(108#$x)=>`(kitOne K (.ref bJ) $x=some false)
|`(109#$x)=>`(Nat->$x->Hp->Prop)
|`(110#0)=>`({ s with toks:=s.toks+1})
|`(111#$x)=>`(cR (by rfl) T.c6 (bB $x))
|`(112#$x)=>`(some (.jq $x))
|`(113#$x)=>`(aq $x H (I.tok _) 234#0 q)
|`(114#$x)=>`(λG H Q _=>$x)
|`(115#$x)=>`(m=xs.length-i/\i<=xs.length/\c i $x H)
|`(116#$x)=>`(fU (xs.length-(i+1)) (by lia) rx d $x)
|`(117#$x)=>`(aI (i4 zZ z0 $x) v)
|`(118#$x)=>`(c9 X (own++fq) scope (52#0) k.objs.size N Z $x)
|`(119#0)=>`(s.heap.objs.size+1)
|`(120#$x)=>`(aG $x (I.list Y))
|`(tactic|show 121)=>`(tactic|(first | show .inl rx | show .inr rx | assumption))
|`(122#$x)=>`(bR (g7 K) (pv 2) $x)
|`(123#$x)=>`(bR (g7 K) (pv 1) $x)
|`(124#$x)=>`(ah rfl $x)
|`(125#$x)=>`(∀G H Q E,sp G H Q E->G.length=$x)
|`(126#$x)=>`(@aN _ _ _ _ _ ($x) bS (by rfl))
|`(127#$x)=>`(.inl (aK.of $x))
|`(128#$x)=>`($x ≠X.env.locals)
|`(129#0)=>`(Option Addr)
|`(130#0)=>`(bO H w p J)
|`(131#0)=>`(bB (pv 0))
|`(132#$x)=>`($x (cO I q 23#0))
|`(133#$x)=>`(SeqAt.shaped $x=true)
|`(tactic|show 134)=>`(tactic|(intro X S j l L i A s M H E I Z st y))
|`(135#$x)=>`(wpAny_bind $x)
|`(136#$x)=>`(G=[.ref w,.int $x])
|`(137#0)=>`(λ_ h=>nomatch h)
|`(138#$x)=>`(h.get? a=some $x)
|`(139#$x)=>`(A.deeper (envOfC $x (aU st) s.heap.objs.size f i))
|`(140#$x)=>`(($x).testBit j)
|`(141#$x)=>`(∃w p J,∃g:aJ p J,$x)
|`(142#$x)=>`(θ X pq σ $x { s with heap:=h',toks:=t'})
|`(143#$x)=>`(($x==sysModules)=false)
|`(144#$x)=>`(h'.get? b=some $x)
|`(145#$x)=>`(($x Value.ref).toArray)
|`(tactic|show 146#$x)=>`(tactic|(show(ah rx $x)))
|`(147#$x)=>`(ig f.size f.size $x-ig f.size 0 lo)
|`(148#$x)=>`(eg $x λv F=>aA λx S T J O=>?_)
|`(149#$x)=>`(PyData.depthAll $x)
|`(150#$x)=>`(bj (ai.new r) aa $x)
|`(151#$x)=>`(show $x by lia)
|`(152#$x)=>`(eval $x X.env)
|`(153#0)=>`({ s with heap:=h'})
|`(154#$x)=>`(bq 0 (jn $x))
|`(155#0)=>`(2^J.length)
|`(156#$x)=>`(eS X scope $x fq js)
|`(157#$x)=>`(compareOp $x)
|`(158#0)=>`(∀x,foldedSetIterable iter X.env x=pure x)
|`(159#$x)=>`($x=some (.lst I))
|`(160#$x)=>`((F.trans N).trans $x)
|`(161#$x)=>`(by have:=$x;lia)
|`(162#$x)=>`(by rw[au $x];show q)
|`(163#0)=>`(by intro y z;cases z)
|`(164#0)=>`(by intro _ z;cases z)
|`(165#0)=>`(Array (Option Value))
|`(166#$x)=>`(X.s₀.heap.get? $x)
|`(167#$x)=>`(X.s₀.heap.objs.size<=$x)
|`(tactic|show 168)=>`(tactic|(intro A s M H D I h))
|`(169#$x)=>`(λk B=>$x k (by lia))
|`(170#$x)=>`(az cT $x ao (aH _))
|`(171#$x)=>`([.int ($x :Int)])
|`(172#$x)=>`(beq_eq_false_iff_ne.mpr $x)
|`(173#$x)=>`(⟨$x,?_⟩)
|`(174#$x)=>`(s.heap.push $x)
|`(175#$x)=>`(if b=true then $x P w λv X=>19#X/\c (i+1) (I++[v]) (η X D 66#(I++[v])) else c (i+1) I w)
|`(176#$x)=>`(List (Str×$x))
|`(177#0)=>`(λv z=>by cases z)
|`(178#0)=>`(⟨by lia,by lia⟩)
|`(179#$x)=>`(a.data = .fields $x)
|`(180#$x)=>`(($x :129#0).elim Value.none λf=>rawInt f)
|`(181#$x)=>`(∀Y,ai H Y->E $x none Y)
|`(182#$x)=>`(.tup [.int (i:Int),$x])
|`(183#0)=>`(List Addr)
|`(184#$x)=>`($x (L u) (L v))
|`(185#0)=>`(.lst [])
|`(186#0)=>`(ai.refl _)
|`(187#$x)=>`(wpAny M A $x Q E s)
|`(188#$x)=>`(dz (aZ.of R) ir $x)
|`(189#$x)=>`(s.heap.objs.size<=$x)
|`(190#0)=>`(Option Int)
|`(191#$x)=>`(iJ B p J $x)
|`(tactic|show 192#$x)=>`(tactic|(show 14#(bT $x)))
|`(193#$x)=>`(bx (x8 K) (by rfl) T.mQ Z? (bB $x))
|`(194#0)=>`(Value.ref a)
|`(195#$x)=>`(wpAny_bind (m:=Builtin.Tuple.tupleExact _) (wpAny_newObj_type $x e))
|`(196#$x)=>`(.ok (.ret $x))
|`(197#$x)=>`(⟨$x,g,d,F,os⟩)
|`(198#$x)=>`((x==$x)=false)
|`(199#$x)=>`($x==NameKind.free)
local macro_rules
|`(200#$x)=>`({ D with nx:=c (i+1),ct:=$x (i+1),bk:=D.nx})
|`(201#$x)=>`($x->Q (.ref D) Y)
|`(202#0)=>`(frs X.stack)
|`(203#$x)=>`(wpAny_loadPart' $x)
|`(204#$x)=>`(N.eo K $x=N.eo K (N.a K))
|`(205#0)=>`(by simp[Str.length])
|`(206#$x)=>`(absurd $x (V! _))
|`(207#$x)=>`(cnt (λk=>$x) N.n)
|`(tactic|show 208)=>`(tactic|(show iI (s _ _ p.2.1) ((p.1.trans s).put r) aa ?_))
|`(209#$x)=>`(($x).cps.toList)
|`(210#$x)=>`(λ_ _ _ _ _ _ _ q=>$x q)
|`(211#$x)=>`($x N.heap.objs.size)
|`(212#$x)=>`(List (List Key×$x))
|`(tactic|show 213#$x)=>`(tactic|(show False.elim $x))
|`(214#0)=>`(some (.ref D))
|`(215#0)=>`(e.testBit k)
|`(216#$x)=>`(aV xs (xs[i]) $x (by simp[d]))
|`(217#$x)=>`(codeAny_builtin $x ?_)
|`(218#$x)=>`(aj $x (vals1 r))
|`(219#$x)=>`(show bL X.prog X.w H s.heap a $x from I.hok a _ U)
|`(220#$x)=>`(RM.fz g.N (fK $x) J.length)
|`(tactic|show 221)=>`(tactic|(have e:i=xs.length:=by lia))
|`(222#$x)=>`(let I:=(aI (dP qo f cu) v);$x)
|`(223#$x)=>`(show $x from r)
|`(224#$x)=>`(k _ _ (.inl rx) $x)
|`(225#$x)=>`(PyData.canLayAll0 $x)
|`(226#$x)=>`($x<s.heap.objs.size)
|`(227#$x)=>`($x->Shared->Prop)
|`(228#$x)=>`($x=some true)
|`(229#$x)=>`(@aB _ _ _ _ _ _ _ _ $x (pv 3) ao)
|`(230#$x)=>`({ cls:=$x,data:=.fields #[.int lo t,.int Y u,.int 1 v]})
|`(231#0)=>`(notedBy 25#w A env λe s'=>R (.error e) s')
|`(232#0)=>`(ah rx (?_))
|`(233#$x)=>`(.cons $x .nil)
|`(234#0)=>`(⟨_,rfl⟩)
|`(235#$x)=>`(assignEach $x X.env)
|`(236#0)=>`(X.env.frame=some X.env.locals)
|`(237#$x)=>`(if$x=true then _ else _)
|`(238#$x)=>`($x=some .local)
|`(239#$x)=>`($x N fM pre v ks left)
|`(240#0)=>`(some (.ref b))
|`(241#$x)=>`(iM (by rfl) $x)
|`(242#0)=>`(by show λ_ _=>rfl)
|`(243#$x)=>`({ cenv with scope:=relabel scope $x})
|`(244#$x)=>`(Paired.imp' (λ_ _ z=>$x) y)
|`(tactic|show 245#$x)=>`(tactic|(with_reducible show wpAny_loadPart_at $x ?_))
|`(246#$x)=>`(λi j=>.int $x)
|`(247#0)=>`(Nat->Bool)
|`(248#$x)=>`(wpAny_Call_Name_kw $x)
|`(249#$x)=>`(($x) D σ H)
|`(250#0)=>`(PySem.W.nsIn K mainGlobals x)
|`(251#0)=>`(b9 (m:Int))
|`(252#0)=>`((x.cps.toList.length:Int))
|`(253#$x)=>`(($x).cps.toList.length)
|`(254#0)=>`(λg D p m=>?_)
|`(255#$x)=>`(H D=none->ai H Y->$x)
|`(256#0)=>`(Builtin.Str.partsBetween z (Builtin.Str.occurrences z b 0 z.length (z.length+1)) b.length)
|`(tactic|show 257)=>`(tactic|(obtain⟨t,rfl⟩:=r))
|`(258#0)=>`(λ_ _ z=>z.elim)
|`(259#$x)=>`(backTo pos ($x))
|`(260#0)=>`(wpAny_newObj_type ?_ (by size_fits))
|`(261#$x)=>`(left.testBit $x)
|`(262#$x)=>`(∃N:St->Hp->Prop,56#($x i H x Y))
|`(263#$x)=>`(cg (qn K $x))
|`(264#0)=>`(ns.map V.int)
|`(tactic|show 265)=>`(tactic|(by_cases d:i<xs.length))
|`(266#$x)=>`(aB cG $x ao)
|`(267#$x)=>`(bR (g7 K) (pv 0) $x)
|`(268#0)=>`(List (κ×V))
|`(269#$x)=>`(bW (pv 1) $x)
|`(270#$x)=>`(I.hok.fresh $x)
|`(271#0)=>`(.tail _ (.tail _ t))
|`(272#$x)=>`(Txt.join ⟨$x ⟩ ss)
|`(273#0)=>`(Around.under_plainId d? _)
|`(274#$x)=>`(dI $x (Z it 23#0))
|`(275#$x)=>`(W $x A s M H _ I h)
|`(276#0)=>`(I.ok.hd L)
|`(277#$x)=>`($x X.env.scope x)
|`(278#$x)=>`(X.N[i]?=some $x)
|`(279#$x)=>`(pyNext (.ref $x))
|`(280#$x)=>`(N.trail N.n $x)
|`(281#$x)=>`(@dB _ _ 3 _ _ _ _ bw.nd rfl (Or.inr rfl) $x (by rfl) 13#0)
|`(282#0)=>`(θ X A M H s)
|`(283#$x)=>`(K.lookup f=some $x)
|`(284#$x)=>`(.inr (aZ.of $x))
|`(285#$x)=>`(gZ λB p J=>$x)
|`(286#$x)=>`(PySem.W.envX $x scope s.heap.objs.size f (.ref c) 58#0)
|`(287#$x)=>`(Q (.int $x) H)
|`(288#0)=>`(X.env::X.outer)
|`(289#0)=>`(K w.params)
|`(tactic|show 290)=>`(tactic|(intro A s M H xs g Q I r h))
|`(291#$x)=>`(N.bP S k ($x k))
|`(292#$x)=>`({ cls:=$x,data:=.seq g.toArray n})
|`(293#$x)=>`(c xs.length $x H)
|`(294#$x)=>`(($x).testBit k)
|`(tactic|show 295#$x)=>`(tactic|(change 42#(tryCatch $x _)))
|`(296#$x)=>`(aQ (wpAny_attempt $x))
|`(297#$x)=>`((a.push $x).objs.size)
|`(298#$x)=>`(by rw[U'];show g? $x)
|`(299#$x)=>`(tM CX P w K mg base N j scope f $x A outer s H E)
local macro_rules
|`(300#$x)=>`(η H $x (.IB 0 (p:Int)))
|`(301#0)=>`(.lst 55#(p:Int).toNat)
|`(302#$x)=>`(($x).map V.int)
|`(303#0)=>`(some (.ref R))
|`(304#0)=>`(some (.ref B))
|`(305#$x)=>`(PyData.strOk $x=true)
|`(306#$x)=>`(binaryOp $x)
|`(307#$x)=>`(Θ ⟨plainId_quiet d? _,$x ⟩)
|`(308#$x)=>`(if $x then _ else _)
|`(309#$x)=>`(g.N.eo k ($x k))
|`(310#0)=>`(post_val_or_str ⟨Ω (Txt.slice_le z _ _) m,a⟩)
|`(311#$x)=>`(qn K (dN C? m_ n_ (oQ K) aW $x))
|`(312#0)=>`(List Expr)
|`(313#0)=>`(HT.ig f.length 0 lo)
|`(314#$x)=>`($x=F.heap.objs.size)
|`(315#$x)=>`(ai.new (o:=.lst []) $x)
|`(tactic|show 316#$x)=>`(tactic|(rcases d!.mp $x with z|z))
|`(317#$x)=>`(Txt P w base K mg $x)
|`(318#$x)=>`($x a.bg a.di aX cL)
|`(319#0)=>`(T.hok.fresh (Ξ _))
|`(320#0)=>`(r.testBit k)
|`(321#$x)=>`(.fields #[.none,.bool false,22#.ref,$x,.none,.none])
noncomputable section
section
variable{α β γ δ ε:Sort _}{G:Prop}{A B C D E F:Prop}{P Q R S T:α->Prop}{P2 Q2 R2 S2 T2:α->β->Prop}{P3 Q3 R3 S3 T3:α->β->γ->Prop}{P4 Q4 R4 S4 T4:α->β->γ->δ->Prop}{P5 Q5 R5 S5 T5 U5:α->β->γ->δ->ε->Prop}
theorem cJ(o:A)(x)(p:P x):A/\∃x,P x:=⟨o,x,p⟩
theorem b8(o:A)(x)(p:P x)(q:Q x):A/\∃x,P x/\Q x:=⟨o,x,p,q⟩
theorem aR(o:A)(x)(y)(p:P2 x y)(q:Q2 x y):A/\∃x y,P2 x y/\Q2 x y:=⟨o,x,y,p,q⟩
theorem bj(o:A)(p:B)(q:C):A/\B/\C:=⟨o,p,q⟩
theorem bA(o:A)(p:B)(x)(q:P x)(r:Q x):A/\B/\∃x,P x/\Q x:=⟨o,p,x,q,r⟩
theorem iI(o:A)(p:B)(q:C)(r:D):A/\B/\C/\D:=⟨o,p,q,r⟩
theorem dF(o:A)(p:B)(q:C)(r:D)(s:E):A/\B/\C/\D/\E:=⟨o,p,q,r,s⟩
theorem af(x)(o:P x)(p:Q x):∃x,P x/\Q x:=⟨x,o,p⟩
theorem gB(x)(o:P x)(y)(p:P2 x y):∃x,P x/\∃y,P2 x y:=⟨x,o,y,p⟩
theorem av(x)(o:P x)(p:Q x)(q:R x):∃x,P x/\Q x/\R x:=⟨x,o,p,q⟩
theorem fU(x)(o:P x)(p:Q x)(q:R x)(r:S x):∃x,P x/\Q x/\R x/\S x:=⟨x,o,p,q,r⟩
theorem j3(x)(o:P x)(p:Q x)(q:R x)(r:S x)(s:T x):∃x,P x/\Q x/\R x/\S x/\T x:=⟨x,o,p,q,r,s⟩
theorem kZ(x)(y)(o:P2 x y):∃x y,P2 x y:=⟨x,y,o⟩
theorem aV(x)(y)(o:P2 x y)(p:Q2 x y):∃x y,P2 x y/\Q2 x y:=⟨x,y,o,p⟩
theorem aq(x)(y)(o:P2 x y)(p:Q2 x y)(q:R2 x y):∃x y,P2 x y/\Q2 x y/\R2 x y:=⟨x,y,o,p,q⟩
theorem bh(x)(y)(o:P2 x y)(p:Q2 x y)(q:R2 x y)(r:S2 x y):∃x y,P2 x y/\Q2 x y/\R2 x y/\S2 x y:=⟨x,y,o,p,q,r⟩
theorem dU(x)(y)(o:P2 x y)(p:Q2 x y)(q:R2 x y)(r:S2 x y)(s:T2 x y):∃x y,P2 x y/\Q2 x y/\R2 x y/\S2 x y/\T2 x y:=⟨x,y,o,p,q,r,s⟩
theorem iJ(x)(y)(z)(o:P3 x y z):∃x y z,P3 x y z:=⟨x,y,z,o⟩
theorem bN(x)(y)(z)(o:P3 x y z)(p:Q3 x y z):∃x y z,P3 x y z/\Q3 x y z:=⟨x,y,z,o,p⟩
theorem cC(x)(y)(z)(o:P3 x y z)(p:Q3 x y z)(q:R3 x y z):∃x y z,P3 x y z/\Q3 x y z/\R3 x y z:=⟨x,y,z,o,p,q⟩
theorem bC(x)(y)(z)(o:P3 x y z)(p:Q3 x y z)(q:R3 x y z)(r:S3 x y z):∃x y z,P3 x y z/\Q3 x y z/\R3 x y z/\S3 x y z:=⟨x,y,z,o,p,q,r⟩
theorem cF(x)(y)(z)(o:P3 x y z)(p:Q3 x y z)(q:R3 x y z)(r:S3 x y z)(s:T3 x y z):∃x y z,P3 x y z/\Q3 x y z/\R3 x y z/\S3 x y z/\T3 x y z:=⟨x,y,z,o,p,q,r,s⟩
theorem vM(x)(y)(z)(u)(o:P4 x y z u):∃x y z u,P4 x y z u:=⟨x,y,z,u,o⟩
theorem bH(x)(y)(z)(u)(o:P4 x y z u)(p:Q4 x y z u)(q:R4 x y z u)(r:S4 x y z u)(s:T4 x y z u):∃x y z u,P4 x y z u/\Q4 x y z u/\R4 x y z u/\S4 x y z u/\T4 x y z u:=⟨x,y,z,u,o,p,q,r,s⟩
theorem cD(x)(y)(z)(u)(v)(o:P5 x y z u v)(p:Q5 x y z u v)(q:R5 x y z u v)(r:S5 x y z u v)(s:T5 x y z u v)(t:U5 x y z u v):∃x y z u v,P5 x y z u v/\Q5 x y z u v/\R5 x y z u v/\S5 x y z u v/\T5 x y z u v/\U5 x y z u v:=⟨x,y,z,u,v,o,p,q,r,s,t⟩
theorem Bf(k:A->B->G):(A/\B)->G:=91#0
theorem bK(k:A->∀x,P x->Q x->G):(A/\∃x,P x/\Q x)->G:=91#0
theorem dW(k:A->B->C->G):(A/\B/\C)->G:=91#0
theorem bG(k:A->B->∀x,P x->Q x->G):(A/\B/\∃x,P x/\Q x)->G:=91#0
theorem cE(k:A->B->∀x,P x->Q x->R x->G):(A/\B/\∃x,P x/\Q x/\R x)->G:=91#0
theorem mj(k:A->B->C->D->G):(A/\B/\C/\D)->G:=91#0
theorem kG(k:A->B->C->D->E->G):(A/\B/\C/\D/\E)->G:=91#0
theorem dI(k:A->B->C->D->E->F->G):(A/\B/\C/\D/\E/\F)->G:=91#0
theorem dX(k:∀x,P x->G):(∃x,P x)->G:=91#0
theorem aj(k:∀x,P x->Q x->G):(∃x,P x/\Q x)->G:=91#0
theorem aG(k:∀x,P x->Q x->R x->G):(∃x,P x/\Q x/\R x)->G:=91#0
theorem dO(k:∀x,P x->Q x->∀y,P2 x y->G):(∃x,P x/\Q x/\∃y,P2 x y)->G:=91#0
theorem fX(k:∀x y,P2 x y->G):(∃x y,P2 x y)->G:=91#0
theorem br(k:∀x y,P2 x y->Q2 x y->G):(∃x y,P2 x y/\Q2 x y)->G:=91#0
theorem aA(k:∀x y,P2 x y->Q2 x y->R2 x y->G):(∃x y,P2 x y/\Q2 x y/\R2 x y)->G:=91#0
theorem aS(k:∀x y,P2 x y->Q2 x y->R2 x y->S2 x y->G):(∃x y,P2 x y/\Q2 x y/\R2 x y/\S2 x y)->G:=91#0
theorem gZ(k:∀x y z,P3 x y z->G):(∃x y z,P3 x y z)->G:=91#0
theorem cK(k:∀x y z,P3 x y z->Q3 x y z->G):(∃x y z,P3 x y z/\Q3 x y z)->G:=91#0
theorem bz(k:∀x y z,P3 x y z->Q3 x y z->R3 x y z->G):(∃x y z,P3 x y z/\Q3 x y z/\R3 x y z)->G:=91#0
theorem bV(k:∀x y z,P3 x y z->Q3 x y z->R3 x y z->S3 x y z->T3 x y z->G):(∃x y z,P3 x y z/\Q3 x y z/\R3 x y z/\S3 x y z/\T3 x y z)->G:=91#0
theorem sX(k:∀x y z u,P4 x y z u->G):(∃x y z u,P4 x y z u)->G:=91#0
theorem ki(k:∀x y z u v,P5 x y z u v->G):(∃x y z u v,P5 x y z u v)->G:=91#0
end
abbrev rx:=@rfl
abbrev eK:=@decide_eq_true
abbrev fV:=@decide_eq_false
abbrev lZ:=@of_decide_eq_true
abbrev j4:=@List.mem_append_right
abbrev sY:=@List.mem_cons_of_mem
abbrev iu:=@List.mem_of_getElem?
abbrev k6:=@List.getElem?_eq_some_iff
abbrev vN:=@Option.map_eq_some_iff
abbrev R4:=@List.mem_append_left
abbrev cN:=List (PySem.Addr×PySem.Obj)
abbrev kj:=PySem.Value->PySem.Shared->Prop
abbrev Bg:=PySem.Str->Option PySem.Value
abbrev bY:=PySem.W.Frag
def Δ:=@List.length_map
def Θ:=@PySem.wpAny_pure
def W':=@PySem.Heap.get?_push_of_some
def Ξ:=@Nat.le_refl
def U':=@List.length_append
def ξ:=@if_neg
def ο:=@if_pos
def a!:=@List.mem_singleton
def Ω:=@Nat.le_trans
def J':=@PySem.Heap.lt_size
def g!:=@Nat.lt_of_lt_of_le
def h!:=@List.mem_cons_self
def Z':=@List.mem_cons
def n!:=@Bool.false_ne_true
def j!:=@List.getElem?_map
def d!:=@List.mem_append
def l!:=@Int.toNat_natCast
def B!:=@List.getD_eq_getElem?_getD
def A!:=@List.getElem?_eq_getElem
def v!:=@PySem.Heap.get?_push_size
def u!:=@List.size_toArray
def o!:=@List.map_append
def p!:=@Nat.testBit_xor
def C!:=@PySem.F.plainAttrs_list
def c!:=@PySem.wpAny_mono
def i!:=@List.mem_map
def t!:=@PySem.wpAny_holding
def y!:=@List.length_cons
def L!:=@PySem.F.slot_list_append
def M!:=@PySem.F.type_list_append
def D!:=@Nat.testBit_two_pow
def q!:=@Nat.ne_of_lt
def w!:=@List.map_cons
def r!:=@Nat.zero_le
def E!:=@List.take_add_one
def z!:=@List.mem_range
def N!:=@List.length_filter_le
def b?:=@PyProof.Rows.boot_isinstance
def K!:=@List.length_range
def k!:=@congrArg
def H!:=@Bool.and_eq_true
def I!:=@List.take_length
def S!:=@List.length_singleton
def J!:=@List.mem_filter
def e!:=@Ne.symm
def x!:=@Nat.ble_eq
def m?:=@PySem.F.excBase_ValueError
def d?:=@PySem.F.plain_min_loop
def O!:=@List.length_take
def P!:=@List.filter_cons
def R!:=@List.lookup_cons
def Y!:=@PySem.Heap.SameBut.update
def B?:=@List.getElem?_append_left
def n?:=@PySem.Heap.get?_update_other
def J?:=@List.getElem?_append_right
def C?:=@PySem.F.plainAttrs_str
def T!:=@Bool.eq_iff_iff
def U!:=@List.nodup_cons
def o?:=@Nat.pow_le_pow_right
def D?:=@PySem.Heap.get?_update_self
def E?:=@PyProof.Rows.boot_str
def g?:=@Nat.succ_le_succ
def F?:=@PySem.mem_of_lookup
def Q!:=@Nat.le_succ
def V!:=@Nat.lt_irrefl
def l?:=@List.all_eq_true
def W!:=@Bool.true_and
def X!:=@Nat.ne_of_gt
def q?:=@decide_eq_decide
def R?:=@List.length_replicate
def x_:=@PyProof.Rows.slot_tuple_getitem
def Z?:=@PyProof.Rows.boot_tuple
def i?:=@Nat.xor_assoc
def r?:=@Nat.not_lt_zero
def K?:=@Nat.xor_lt_two_pow
def S?:=@Nat.eq_of_testBit_eq
def T?:=@List.getElem?_of_mem
def L?:=@Bool.false_eq_true
def a_:=@Nat.testBit_lt_two_pow
def U?:=@List.replicate_succ
def j?:=@Nat.le_of_lt
def k?:=@Int.zero_add
def G?:=@PySem.W.kia_one
def H?:=@List.append_nil
def I?:=@Nat.two_pow_pos
def y_:=@PyProof.Rows.callWith_type1
def V?:=@List.filter_append
def W?:=@Int.natAbs_natCast
def z_:=@Array.getElem?_eq_some_iff
def l_:=@List.take_of_length_le
def b_:=@PySem.W.KT.app_list
def M?:=@List.length_set
def N?:=@Nat.min_eq_left
def A_:=@Classical.byContradiction
def Z!:=@PySem.W.mg_none_of
def m_:=@PySem.F.slot_str_join
def n_:=@PySem.F.type_str_join
def P_:=@Nat.exists_testBit_of_ne_zero
def c_:=@List.mem_filterMap
def d_:=@Nat.lt_of_le_of_lt
def X?:=@List.getElem_mem
def u?:=@Nat.xor_zero
def w?:=@Nat.zero_xor
def z?:=@List.map_map
def O?:=@PySem.wpAny_tryCatch
def e_:=@Nat.lt_succ_of_lt
def Y?:=@List.find?_cons
def A?:=@Int.le_refl
def B_:=@PySem.F.entry_min_loop
def C_:=@PyProof.Rows.boot_list
def P?:=@List.any_cons
def o_:=@PySem.Obj.data_mapFields
def D_:=@PySem.Obj.isFreed_of_fields
def E_:=@List.getElem?_set_ne
def f_:=@List.length_nil
def g_:=@List.range_succ
def Q?:=@Nat.pow_succ
def F_:=@Nat.mul_le_mul_right
def h_:=@Nat.min_le_left
def p_:=@List.count_append
def Q_:=@List.getElem?_replicate
def R_:=@List.length_eq_zero_iff
def F!:=@PySem.W.mg_of
def G_:=@Array.length_toList
def i_:=@Bool.xor_false
def q_:=@List.not_mem_nil
def S_:=@List.getElem?_set_self
def _l:=@PySem.StrLaws.glued_eq_join
def H_:=@Option.toList_some
def r_:=@Option.map_some
def T_:=@PyProof.Rows.boot_min
def _n:=@Nat.mod_two_eq_zero_or_one
def I_:=@List.flatten_cons
def acq:=@PySem.F.slot_dict_keyiterator_next
def s_:=@PySem.Heap.size_push
def J_:=@List.length_drop
def K_:=@Nat.lt_succ_self
def j_:=@Nat.xor_self
def U_:=@List.getElem?_range
def V_:=@List.mem_map_of_mem
def _r:=@PySem.F.slot_tuple_hash
def t_:=@Bool.and_true
def L_:=@List.foldl_cons
def acC:=@Int.mul_le_mul_of_nonneg_right
def _t:=@List.filter_eq_nil_iff
def _u:=@PySem.F.slot_str_split
def _v:=@PySem.F.type_str_split
def W_:=@Bool.eq_false_iff
def X_:=@Bool.not_eq_true'
def Y_:=@List.foldl_append
def M_:=@Bool.and_false
def _y:=@List.lookup_cons_self
def u_:=@Nat.lt_trans
def N_:=@List.nodup_nil
def v_:=@Nat.le_of_eq
def _z:=@PyProof.Rows.boot_all
def k_:=@beq_iff_eq
def Z_:=@Nat.succ_ne_self
def _a:=@Nat.min_eq_right
def _C:=@List.mem_of_mem_drop
def _b:=@Nat.zero_testBit
def _E:=@Nat.pow_lt_pow_right
def _c:=@Nat.testBit_succ
def w_:=@Nat.log2_lt
def acX:=@PySem.F.slot_dict_getitem
def acY:=@List.mem_of_find?_eq_some
def _G:=@Int.natCast_nonneg
def _H:=@PySem.W.callWith_K
def O_:=@Nat.le_total
def _J:=@List.count_eq_zero
def ac3:=@PySem.StrLaws.join_split
def ac4:=@PySem.F.slot_list_extend
def ac5:=@PySem.F.type_list_extend
def _d:=@PySem.boot_len
def ac7:=@List.eraseIdx_cons_succ
def ac8:=@Int.eq_ofNat_of_zero_le
def ac9:=@PyProof.Rows.boot_range
def _K:=@PySem.Obj.cls_mapFields
def _L:=@List.filter_congr
def _M:=@List.nodup_append
def adf:=@PySem.W.cellsFrom_some
def adg:=@PyProof.Rows.bitAnd_pp
def adh:=@List.drop_eq_nil_of_le
def _O:=@List.getElem_inj
def _Q:=@Nat.le_add_right
def _R:=@Nat.max_eq_right
def adl:=@PyProof.Rows.slot_int_bit_length
def adm:=@PyProof.Rows.type_int_bit_length
def adn:=@PySem.F.slot_dict_get
def adC:=@PyProof.Rows.boot_max
def adD:=@PyProof.Rows.boot_int
def adE:=@Array.getElem?_setIfInBounds_ne
def adF:=@PySem.Heap.get?_none_of_le
def _S:=@List.of_mem_zip
def _U:=@Nat.max_eq_left
def _i:=@Nat.zero_add
def adJ:=@List.Pairwise.filter
def _j:=@Int.le_trans
def adL:=@List.take_append_of_le_length
def adM:=@List.eq_nil_of_length_eq_zero
def adN:=@PySem.W.hideAll_get
def adO:=@List.filterMap_cons
def adP:=@Int.toNat_of_nonneg
def _V:=@Bool.false_and
def _W:=@Bool.decide_or
def _Y:=@Int.natAbs_mul
def adT:=@PySem.W.of_hideAll
def adU:=@Int.emod_lt_of_pos
def adV:=@Nat.and_lt_two_pow
def _Z:=@List.sum_cons
def adX:=@Nat.lt_of_succ_lt
def adY:=@List.map_set
def adZ:=@List.any_eq_true
def ad0:=@List.all_map
def ad1:=@Nat.sub_self
def ad2:=@Nat.xor_comm
def ad3:=@Array.toList_inj
def ad4:=@Nat.testBit_zero
namespace L2
open PySem PySem.Spec PyProof.Rows
abbrev aQ:=@wpAny_bind
abbrev Key:=Sum Int Str
def Ck:Key->Value->Bool
 | .inl k,v=>Value.isInt k v
 | .inr x,v=>Value.isStrOf x v
noncomputable def Zd(w:World):Key->Int
 | .inl k=>hashInt k
 | .inr x=>hashStr w x
def fm:∀{k} {v},Ck k v=true->(∃i t,k=Sum.inl i/\v=Value.int i t)\/(∃x t,k=Sum.inr x/\v=Value.str x t)
 | .inl i,v,h=>by
   obtain⟨t,e⟩:=Value.isInt_shape (k:=i) (v:=v) h;show .inl (aV i t rx e)
 | .inr x,v,h=>by
   obtain⟨t,e⟩:=Value.isStrOf_shape (x:=x) (v:=v) h;show .inr (aV x t rx e)
def Mc(i:Int)(t:Tok):Ck (.inl i) (.int i t)=true:=by simp[Ck,Value.isInt]
def Me(x:Str)(t:Tok):Ck (.inr x) (.str x t)=true:=by simp[Ck,Value.isStrOf]
def UM(a b:Int):11#((Sum.inl a:Key)=Sum.inl b)=(a==b):=by
 by_cases e:a=b
 .subst e;simp
 .have h : ¬(Sum.inl a:Key)=Sum.inl b:=λq=>e (Sum.inl.inj q)
  rw[fV h];show(172#e).symm
def UN(a b:Str):11#((Sum.inr a:Key)=Sum.inr b)=decide (a=b):=by
 by_cases e:a=b
 .subst e;simp
 .have h : ¬(Sum.inr a:Key)=Sum.inr b:=λq=>e (Sum.inr.inj q)
  rw[fV h,fV e]
def UO(a:Int)(b:Str):11#((Sum.inl a:Key)=Sum.inr b)=false:=fV (λq=>nomatch q)
def UP(a:Str)(b:Int):11#((Sum.inr a:Key)=Sum.inl b)=false:=fV (λq=>nomatch q)
def fY(prog:Program)(w:World):PySem.KeyKind prog w Key where
 is:=Ck
 hash:=Zd w
 inj:=λv a b W U=>by
  rcases fm W with⟨i,t,rfl,rfl⟩|⟨x,t,rfl,rfl⟩
  .rcases fm U with⟨j,u,rfl,e⟩|⟨y,u,rfl,e⟩
   .injection e with g _;rw[g]
   .show nomatch e
  .rcases fm U with⟨j,u,rfl,e⟩|⟨y,u,rfl,e⟩
   .show nomatch e
   .injection e with g _;rw[g]
 byValue:=λk v h=>by
  rcases fm h with⟨i,t,rfl,rfl⟩|⟨x,t,rfl,rfl⟩<;>rfl
 pyHash:=λc h=>by
  rcases fm c with⟨i,t,rfl,rfl⟩|⟨x,t,rfl,rfl⟩
  .show wpAny_pyHash_int h
  .show wpAny_pyHash_str h
 eqBool:=λG c h=>by
  rcases fm G with⟨i,t,rfl,rfl⟩|⟨x,t,rfl,rfl⟩
  .rcases fm c with⟨j,u,rfl,rfl⟩|⟨y,u,rfl,rfl⟩
   .rw[UM]at h;show wpAny_eqBool_int h
   .rw[UO]at h;show SeqAt.EqAt.int_str i t y u _ _ _ _ h
  .rcases fm c with⟨j,u,rfl,rfl⟩|⟨y,u,rfl,rfl⟩
   .rw[UP]at h;show SeqAt.EqAt.str_int x t j u _ _ _ _ h
   .rw[UN]at h;show wpAny_eqBool_str h
 «strs»:=λk x t v h=>by
  rcases fm h with⟨i,u,rfl,e⟩|⟨y,u,rfl,e⟩
  .show nomatch e
  .injection e with g _
   subst g;cases v<;>rfl
def Fy(prog:Program)(w:World)(i:Int)(t:Tok):(fY prog w).is (.inl i) (.int i t)=true:=Mc i t
def Fz(prog:Program)(w:World)(x:Str)(t:Tok):(fY prog w).is (.inr x) (.str x t)=true:=Me x t
inductive V where
 | eM | bl (b:Bool) | int (i:Int) | str (x:Str) | OI (b:Array UInt8) | UQ (b:UInt64) | ref (a:Addr) | ty (n:String)
 deriving DecidableEq
def χ:V->Value->Prop
 | .eM,u=>u=Value.none
 | .bl b,u=>u=Value.bool b
 | .int i,u=>∃t,u=Value.int i t
 | .str x,u=>∃t,u=Value.str x t
 | .OI b,u=>∃t,u=Value.bytes b t
 | .UQ b,u=>∃t,u=Value.float b t
 | .ref a,u=>u=194#0
 | .ty n,u=>u=Value.type n
abbrev υ:List V->82#0->Prop:=Paired χ
def υ.length(r:υ xs g):xs.length=g.length:=Paired.length r
def υ.get:∀{xs} {us} {i:Nat} {x},υ xs us->xs[i]?=some x->∃u,us[i]?=some u/\χ x u
 | _,_,_,_,.nil,e=>by simp at e
 | _,_,0,_,.cons r _,e=>by simp at e;subst e;show af _ rx r
 | _,_,i+1,x,.cons _ t,e=>by
   show aj (λu R W=>?_) (υ.get (i:=i) (x:=x) t (by simpa using e))
   show af u (by simpa using R) W
def υ.set(r:χ x u):∀{xs} {us} i,υ xs us->υ (xs.set i x) (us.set i u)
 | _,_,_,.nil=>.nil
 | _,_,0,.cons _ t=>.cons r t
 | _,_,i+1,.cons q t=>.cons q (υ.set r i t)
def υ.append{xs ys:List V}{g k:82#0}(h:υ xs g)(s:υ ys k):υ (xs++ys) (g++k):=by
 induction h with
 | nil=>show s
 | cons r _ E=>show .cons r E
def υ.take:∀{xs} {us} n,υ xs us->υ (xs.take n) (us.take n)
 | _,_,0,_=>.nil
 | _,_,_+1,.nil=>.nil
 | _,_,n+1,.cons r t=>.cons r (υ.take n t)
def υ.drop:∀{xs} {us} n,υ xs us->υ (xs.drop n) (us.drop n)
 | _,_,0,r=>r
 | _,_,_+1,.nil=>.nil
 | _,_,n+1,.cons _ t=>υ.drop n t
def sU:Option V->Option Value->Prop
 | some v,some u=>χ v u
 | none,none=>True
 | _,_=>False
def KV{a:Type}:List (a×V)->List (a×Value)->Prop:=Paired λ(p:a×V) (q:a×Value)=>p.1=q.1/\χ p.2 q.2
def kV:Key->V
 | .inl i=>.int i
 | .inr x=>.str x
inductive HO where
 | lst (xs:List V)
 | tup (xs:List V)
 | dK (kvs:List (Key×V)) | dT (kvs:212#V)
 | set (S:Int->Bool) (n:Nat)
 | ins (C dx:Addr) (fs:List (Str×V))
 | own (x:Addr)
 | xd (fs:List (Str×V))
 | met (f x:Addr)
 | IB (lo hi:Int)
 | n9 (o:Obj) (u:HO)
 | jq (ps:Array Value)
 | ext (φ:Heap->Prop)
abbrev Hp:=Addr->Option HO
def η(H:Hp)(a:Addr)(o:HO):Hp:=λb=>if b=a then some o else H b
def aa:η H a o a=some o:=by unfold η;rw[ο rfl]
def au(h:b≠a):η H a o b=H b:=by unfold η;rw[ξ h]
def cP{H:Hp}(h:H a=some o)(h' : H b=some u)(d:o≠u):a≠b:=by
 intro e;subst e;rw[h]at h';show d (26#h')
def cf{H:Hp}(h:H a=some o)(h' : H b=none):a≠b:=by
 intro e;subst e;rw[h]at h';cases h'
def Sd(B:Array Value):Str:=match (B[0]?:Option Value) with | some (Value.str q _)=>q | _=>""
section
variable (P:Program)(w:World)
def bL(H:Hp)(h:Heap)(a:Addr):HO->Prop
 | .lst f=>36#f.length/\∃(g:82#0) (n:Nat),υ f g/\138#292#(.type "list")
 | .tup f=>36#f.length/\∃g:82#0,υ f g/\IsTup h a g.toArray
 | .dK N=>36#N.length/\143#a/\∃G,KV N G/\h.DictOf (fY P w) a G
 | .dT N=>36#N.length/\143#a/\∃f:212#(Addr×Value),
  Paired (λ(p:List Key×V) (q:List Key×Addr×Value)=>p.1=q.1/\H q.2.1=17#(p.1.map kV)/\χ p.2 q.2.2) N f/\
  ∃o l i,138#o/\o.ExactDict/\o.data = .dict l i/\l.toList=f.map (entryOfKey (tupleKind (fY P w)))/\(f.map (·.1)).Nodup
 | .set S n=>h.SetOf (intKind P w) a S n
 | .ins C g N=>H g=some (.own a)/\N.length<=1000/\g≠a/\138#(PySem.W.instObj C g)/\
  ∃m,h.Ns1 g m/\(∀f,sU (N.lookup f) (m f))/\PySem.Within m (N.map (·.1))
 | .own _=>∃o,138#o
 | .xd N=>∃m,h.Ns1 a m/\∀f,sU (N.lookup f) (m f)
 | .IB lo Y=>∃t u v,138#230#(.type "range")
 | .n9 o u=>138#o/\bL H h a u
 | .jq B=>∃Z:Array Value,138#{ cls:=.none,data:=.fields Z}/\((B.size=3/\(Z = #[]\/∃c,Z = #[B.getD 1 .none,B.getD 2 .none,.ref c]/\H c=some (.own a)/\h.CodeRec (.ref c) (Sd B)))\/∃q l k,B = #[q,l,k]++Z/\Z.size=3)
 | .met f x=>138#(PySem.W.methodObj (.ref f) (.ref x))
 | .ext d=>d h/\(∃o,138#o)/\∀R W:Heap,d R->(∀o,R.get? a=some o->W.get? a=some o)->d W
def qe(H:Hp)(h:Heap):Prop:=∀a o,H a=some o->bL P w H h a o
end
section
variable {P:Program}{w:World}{H H' : Hp}{h h' : Heap}{a:Addr}{o:HO}
def bL.lt(x:bL P w H h a o):a<h.objs.size:=by
 cases o with
 | lst f=>revert x;show Bf λ_=>br λ_ _ _ e=>?_;show J' e
 | tup f=>revert x;show bK λ_ _ _ p=>?_;show p.lt
 | dK N=>revert x;show bG λ_ _ _ _=>cK λo _ _ e _=>?_;show J' e
 | dT N=>revert x;show bG λ_ _ _ _=>cK λo _ _ e _=>?_;show J' e
 | set S n=>revert x;show dX λo=>cK λ_ _ _ e _=>?_;show J' e
 | ins C g N=>revert x;show kG λ_ _ _ e _=>?_;show J' e
 | own y=>obtain⟨_,e⟩:=x;show J' e
 | xd N=>revert x;show aj λ_ L _=>?_;obtain⟨_,_,_,e,_⟩:=L;show J' e
 | IB lo Y=>revert x;show gZ λ_ _ _ e=>?_;show J' e
 | n9 W u=>obtain⟨e,_⟩:=x;show J' e
 | jq Z=>revert x;show aj λ_ e _=>?_;show J' e
 | met f y=>show J' (show h.get? a=some _ from x)
 | ext d=>revert x;show dW λ_ Y _=>?_;obtain⟨_,e⟩:=Y;show J' e
def Paired.FA{e:List m}{c:List d}(h:Paired F e c)(f:∀a b,F a b->G a b):Paired G e c:=by
 induction h with
 | nil=>show .nil
 | cons r _ E=>show .cons (f _ _ r) E
def Paired.imp'{F G:m->d->Prop}(f:∀a b,F a b->G a b){e:List m}{c:List d}(r:Paired F e c):Paired G e c:=Paired.FA r f
def bL.stay(x:bL P w H h a o)(k:∀b u,(b=a\/H b=some (.own a))->h.get? b=some u->144#u)
 (j:∀b,H b=some (.own a)->H' b=some (.own a)) (s:∀b xs,H b=17#xs->H' b=17#xs):bL P w H' h' a o:=by
 induction o with
 | lst xs=>revert x;show Bf λz=>br λg n r e=>?_;show aR z g n r (224#e)
 | tup xs=>revert x;show bK λz g r=>aj λW e c=>?_;show cJ z g (b8 r W (224#e) c)
 | dK N=>revert x;show bG λz y G r=>cK λW l i e c=>?_;show bA z y G r (bN W l i (224#e) c)
 | dT N =>
   revert x;show bG λz y xs r=>cK λW l i e c=>?_
   show bA z y xs (Paired.FA r λp q z=>bj z.1 (s _ _ z.2.1) z.2.2) (bN W l i (224#e) c)
 | set S n=>revert x;show dX λW=>cK λl i t e c=>?_;show⟨W,(bN l i t (224#e) c)⟩
 | ins C g N =>
   revert x;show dW λd z=>bG λG e m f r=>?_;obtain⟨W,l,i,D,c⟩:=f
   show bj (j _ d) z (bA G (224#e) m (bN W l i (k _ _ (.inr d) D) c) r)
 | own y=>obtain⟨W,e⟩:=x;show⟨W,224#e⟩
 | xd N=>revert x;show aj λm d r=>?_;obtain⟨W,l,i,e,c⟩:=d;show af m (bN W l i (224#e) c) r
 | IB lo Y=>revert x;show gZ λt u v e=>?_;show iJ t u v (224#e)
 | n9 W u E=>obtain⟨e,q⟩:=x;show⟨224#e,E q⟩
 | jq B =>
   revert x;show aj λZ e f=>?_
   show af Z (224#e) ?_;rcases f with⟨m,f|⟨c,g,D,i,q,G,d,L,E,J,U⟩⟩|f
   .show .inl ⟨m,.inl f⟩
   .cases L;show .inl ⟨m,.inr (af c g (cJ (j _ D) c (bC q G d rx (k _ _ (.inr D) E) J U)))⟩
   .show .inr f
 | met f y =>
   have e:138#(PySem.W.methodObj (.ref f) (.ref y)):=x;change h'.get? a=some (PySem.W.methodObj (.ref f) (.ref y));show k a _ (.inl rx) e
 | ext d=>revert x;show dW λp O st=>?_;obtain⟨o,e⟩:=O;show bj (st _ _ p λo q=>224#q) ⟨o,224#e⟩ st
def qe.lt(x:qe P w H h)(e:H a=some o):a<h.objs.size:=(x a o e).lt
def qe.fresh(x:qe P w H h)(e:h.objs.size<=a):H a=none:=by
 cases q:H a with
 | none=>rfl
 | some u=>show 206#(g! (x.lt q) e)
def qe.kept(x:qe P w H h)(k:∀b u,h.get? b=some u->144#u):qe P w H h':=λa o e =>
 (x a o e).stay (λb u _ q=>k b u q) (λ_ q=>q) λ_ _ q=>q
def qe.laid(x:qe P w H h)(k:∀b u,h.get? b=some u->144#u)(t:h.objs.size<=a)(Q:bL P w (η H a o) h' a o):qe P w (η H a o) h':=λb u e=>by
 have S:=x.fresh t
 by_cases U:b=a
 .subst U;rw[aa]at e;cases e;show Q
 .rw[au U]at e;show(x b u e).stay (λc v _ q=>k c v q) (λc q=>162#(cf q S)) λc f q=>162#(cf q S)
end
def Rd(H:Hp)(a:Addr)(u:HO):Prop:=H a=some u\/∃o,H a=some (.n9 o u)
def Rd.ok(r:Rd H a u)(x:qe P w H h):bL P w H h a u:=by
 rcases r with r|⟨o,r⟩
 .show x a u r
 .obtain⟨_,q⟩:=x a _ r;show q
def WO:Option HO->Prop
 | some (.lst _)=>True
 | some (.dK _)=>True
 | some (.dT _)=>True
 | some (.set _ _)=>True
 | some (.ins _ _ _)=>True
 | some (.ext _)=>True
 | _=>False
section
variable {P:Program}{w:World}{H:Hp}{h h' : Heap}{x e:Addr}{o' : HO}
def qe.write(C:qe P w H h)(g:WO (H x))(n:e=x\/H e=some (.own x))(k:∀b u,b≠e->h.get? b=some u->144#u)(i:∃u,h'.get? e=some u)
 (Q:bL P w (η H x o') h' x o'):qe P w (η H x o') h':=λb u q=>by
 have d:∀c y,H c=some (.own y)->c≠x:=λc y r z=>by subst z;rw[r]at g;show g
 have j:∀c f,H c=some (.tup f)->c≠x:=λc f r z=>by subst z;rw[r]at g;show g
 by_cases U:b=x
 .subst U;rw[aa]at q;cases q;show Q
 .rw[au U]at q
  by_cases a:b=e
  .have I:H b=some (.own x):=by
    rcases n with z|z
    .show absurd (a.trans z) U
    .rw[a];show z
   rw[q]at I;cases I;obtain⟨v,l⟩:=i;show⟨v,by rw[a];show l⟩
  .show(C b u q).stay (λc v L r=>k c v ?_ r) (λc r=>by rw[au (d c b r)];show r) λc f r=>by rw[au (j c f r)];show r
   rcases L with rfl|L
   .show a
   .rintro rfl;rcases n with z|z
    .show d c b L z
    .rw[L]at z;cases z;show U rfl
end
structure Un(fs ex:183#0)(H H' : Hp)(h h' : Heap):Prop where
 keep:∀b o,24#h.get?->H b=none->b∉fs->b∉ex->24#h'.get?
 slot:∀b o,24#h.get?->H b=none->b∈fs->b∉ex->∃sl,144#{ o with slots:=sl}
 free:∀b o,24#h.get?->H b=none->b∉ex->H' b=none
 there:∀b o,24#h.get?->b∉ex->∃o',144#o'
 tups:∀b xs,H b=17#xs->H' b=17#xs
 l5:∀b o u,H b=some (.n9 o u)->H' b=some (.n9 o u)
 qj:∀b ps,H b=some (.jq ps)->∃more,H' b=112#(ps++more)
section
variable {fs fs' ex ex' : 183#0}{H H1 H2:Hp}{h h1 h2 h' : Heap}{a x e:Addr}{o:HO}
def Un.any(u:Un fs ex H H1 h h1)(q:h.get? b=some ob)(n:H b=none)(O:b∉ex):∃T,h1.get? b=some { ob with slots:=T}:=by
 by_cases U:b∈fs
 .show u.slot b ob q n U O
 .show⟨ob.slots,u.keep b ob q n U O⟩
def Un.kept(k:∀b u,h.get? b=some u->144#u):Un fs ex H H h h' :=
 ⟨λb W q _ _ _=>k b W q,λb W q _ _ _=>⟨W.slots,k b W q⟩,λ_ _ _ n _=>n,λb W q _=>⟨W,k b W q⟩,λ_ _ q=>q,λ_ _ _ q=>q,λ_ Z q=>⟨#[],by rw[q];simp⟩⟩
def Un.refl:Un fs ex H H h h:=Un.kept λ_ _ q=>q
def Un.laid(k:∀b u,h.get? b=some u->144#u)(t:h.objs.size<=a)(S:H a=none):Un fs ex H (η H a o) h h' where
 keep:=λb u q _ _ _=>k b u q
 slot:=λb u q _ _ _=>⟨u.slots,k b u q⟩
 free:=λb u q n _=>by rw[au (q! (g! (J' q) t))];show n
 there:=λb u q _=>⟨u,k b u q⟩
 tups:=λb f q=>162#(cf q S)
 l5:=λb u f q=>162#(cf q S)
 qj:=λb Z q=>⟨#[],by rw[au (cf q S),q];simp⟩
def Un.write(g:WO (H x))(c:e=x\/H e=some (.own x))(k:∀b u,b≠e->h.get? b=some u->144#u)(i:∃u,h'.get? e=some u):Un fs ex H (η H x o) h h':=by
 have O:∀b,H b=none->b≠x:=λb n z=>by subst z;rw[n]at g;show g
 have U:∀b,H b=none->b≠e:=λb n z=>by
  subst z;rcases c with r|r
  .show O b n r
  .rw[n]at r;cases r
 have d:∀b u,H b=some u->¬ WO (some u)->b≠x:=λb u q P z=>by subst z;rw[q]at g;show P g
 show⟨λb u q n _ _=>k b u (U b n) q,λb u q n _ _=>⟨u.slots,k b u (U b n) q⟩,λb u q n _=>by rw[au (O b n)];show n,λb u q _=>?_,
  λb f q=>162#(d b _ q λz=>z),λb u f q=>162#(d b _ q λz=>z),λb Z q=>⟨#[],by rw[au (d b _ q λz=>z),q];simp⟩⟩
 by_cases a:b=e
 .subst a;show i
 .show⟨u,k b u a q⟩
end
def Ui(h:Heap)(H:Hp):183#0:=(31#h.objs.size).filter λa=>(H a).isSome
def FD(h:Heap)(H:Hp):Heap:=PySem.W.hideAll h (Ui h H)
def Mf(h:Heap)(H:Hp):(FD h H).objs.size=h.objs.size:=PySem.W.hideAll_size _ _
def yY{h:Heap}(e:24#h.get?)(n:H b=none):24#(FD h H).get? :=
 adN _ e λd=>by
  have q:(H b).isSome=true:=(J!.mp d).2;rw[n]at q;simp at q
def Se(e:24#(FD h H).get?):24#h.get?/\H b=none:=by
 have f:24#h.get?:=adT (Ui h H) e;show⟨f,?_⟩;cases q:H b with
 | none=>rfl
 | some x =>
   have d:b∈Ui h H:=J!.mpr ⟨z!.mpr (J' f),by simp[q]⟩
   have z:(FD h H).get? b=none:=PySem.W.hideAll_none (Ui h H) d;rw[z]at e;cases e
structure Mod(K:bY)(mg:Bg)(base:Heap):Prop where
 Uj:K.In base
 glob:base.Ns mainGlobals mg
 blt:∃mb,base.Ns builtinsNs mb/\∀x:Str,x≠"__name__"->mb x=bootBuiltins x
 nolimit:base.NoLimit
 bmain:∃bm ob,mg "__builtins__"=20#bm/\bm≠builtinsNs/\base.get? bm=some ob/\ob.cls = .type "module"/\ob.dict=some builtinsNs/\ob.data = .plain
structure Cx where
 prog:Program
 w:World
 K:bY
 mg:Str->Option Value
 base:Heap
 A:Around
 N:List Str
 s₀:Shared
 H₀:Hp
 env:Env
 outer:List Env
 stack:List Env
 ex:183#0
 fn:Str->Bool
 calm:Bool
 pn:cN
 xe:227#Value
def frs(l:List Env):183#0:=l.filterMap (·.frame)
abbrev Cx.fs(X:Cx):183#0:=frs X.outer
def YE(y:Scope)(x:Str):Prop:=238#(y.names.lookup x)\/y.names.lookup x=some .cell\/y.names.lookup x=some .free
def Loc(y:Scope)(x:Str):Prop:=238#(y.names.lookup x)\/y.names.lookup x=some .cell
def Look(env:Env)(h:Heap)(m:Bg)(x:Str)(u:Value):Prop :=
 (238#(env.kindOf x)/\m x=some u)\/((env.kindOf x=some .cell\/env.kindOf x=some .free)/\∃c,env.cells.lookup x=some c/\h.IsCell c (some u))
structure Cx.Ok(X:Cx):Prop where
 mod:Mod X.K X.mg X.base
 kind:X.env.scope.kind = .function
 glob:X.env.globals=mainGlobals
 blt:X.env.builtins=builtinsNs
 above:167#X.env.locals
 inj:∀x y c,41#x->41#y->x=y
 has:∀x,(X.env.kindOf x=some .cell\/X.env.kindOf x=some .free)->∃c,41#x
 UR:∀x c,X.fn x=true->41#x->167#c
 hd:X.calm=true->X.A.handled=none
 frames:X.A.frames=some X.stack
 FE:X.stack=X.outer\/(X.stack=288#0/\236#0)
 YF:∀b∈X.ex,128#b/\∀x c,41#x->c≠b
 bs:∀b o,24#X.base.get?->24#X.s₀.heap.get?/\X.H₀ b=none
 OJ:X.base.objs.size<=X.s₀.heap.objs.size
 IC:∀b o,24#X.base.get?->b∉X.ex
 Mg:∀b∈X.ex,b∉X.fs
 funs:X.s₀.heap.FunFrames X.base X.outer
 OM:∀b∈X.fs,X.H₀ b=none
structure θ(X:Cx)(pq:cN)(σ:List (Option V))(H:Hp)(s:Shared):Prop where
 ok:X.Ok
 os:s.os=X.s₀.os
 bare:AllBare s.gens
 base:Un X.fs X.ex X.H₀ H X.s₀.heap s.heap
 loc:∃m,s.heap.Ns X.env.locals m/\∀(i:Nat) (x:Str) (v:V),278#x->σ[i]?=some (some v)->277#YE->∃u,χ v u/\Look X.env s.heap m x u
 cell:∀x c,41#x->∃v,s.heap.IsCell c v
 free:H X.env.locals=none
 iU:∀x c,41#x->H c=none
 pin:∀p∈X.pn++pq,s.heap.get? p.1=some p.2/\H p.1=none/\128#p.1/\p.1∉X.fs/\∀v,p.2.data≠.cell v
 hok:qe X.prog X.w H s.heap
 len:σ.length=X.N.length
section
variable {X:Cx}{pq:cN}{σ:List (Option V)}{H H' : Hp}{s:Shared}{h' : Heap}
def Cx.Ok.Ze(C:X.Ok)(e:24#X.base.get?):b∉X.fs:=λU=>by
 have:=(C.funs.mem U).1;rw[e]at this;cases this
def θ.bs(I:5#H):∀b o,24#X.base.get?->21#o/\H b=none:=λb o e =>
 ⟨I.base.keep b o (I.ok.bs b o e).1 (I.ok.bs b o e).2 (I.ok.Ze e) (I.ok.IC b o e),I.base.free b o (I.ok.bs b o e).1 (I.ok.bs b o e).2 (I.ok.IC b o e)⟩
def θ.bk(I:5#H):∀b o,24#X.base.get?->21#o:=λb o e=>(I.bs b o e).1
def θ.mod(I:5#H):Mod X.K X.mg X.base:=I.ok.mod
def θ.qp(I:5#H):X.K.In s.heap:=I.ok.mod.Uj.keeps I.bk
def θ.nolimit(I:5#H):s.heap.NoLimit:=I.ok.mod.nolimit.keeps I.bk
def θ.lt(I:5#H):226#X.env.locals:=let⟨_,hn,_⟩:=I.loc;hn.lt
def θ.sz(I:5#H):167#s.heap.objs.size:=Ω I.ok.above (j? I.lt)
def θ.WQ(I:5#H){a:Addr}(h:189#a):a∉X.fs:=λU=>by
 show bK (λ_ o j _=>?_) (I.ok.funs.mem U)
 show 206#(g! (J' j) (Ω I.sz h))
def θ.WR(I:5#H):∀x c,41#x->128#c:=λx c e z=>by
 show br (λv o j J=>?_) (I.cell x c e)
 show aj (λm t _=>?_) I.loc;obtain⟨F,l,i,E,g,_⟩:=t
 rw[z,E]at j;cases j;rw[g]at J;cases J
def θ.funs(I:5#H):s.heap.FunFrames X.base X.outer:=by
 have all:∀(l:List Env),(∀b∈frs l,b∈X.fs)->X.s₀.heap.FunFrames X.base l->s.heap.FunFrames X.base l:=by
  intro l
  induction l with
  | nil=>intro _ _;trivial
  | cons i r E =>
    intro a C
    revert C;show dW λB n P=>?_;obtain⟨L,o,Z,S,j,J⟩:=n
    have Y:L∈X.fs:=a L (by unfold frs;rw[adO,Z];show h!)
    obtain⟨T,e⟩:=I.base.slot L o j (I.ok.OM L Y) Y λz=>I.ok.Mg L z Y
    show bj B (bh L _ Z S e J) (E (λb U=>a b (by unfold frs;rw[adO,Z];show sY _ U)) P)
 show all X.outer (λ_ U=>U) I.ok.funs
def θ.stack(I:5#H):s.heap.FunFrames X.base X.stack:=by
 rcases I.ok.FE with e|⟨e,Z⟩
 .rw[e];show I.funs
 .rw[e];show aj (λm S _=>?_) I.loc
  show .cons (by rw[I.ok.kind];decide) Z S ?_ I.funs
  show adF (Ω I.ok.OJ I.ok.above)
def θ.vO(I:5#H):∀b∈202#0,b∈X.env.locals::X.fs:=λb U=>by
 rcases I.ok.FE with e|⟨e,Z⟩
 .rw[e]at U;show sY _ U
 .rw[e]at U;unfold frs at U;rw[adO,Z]at U;show U
def θ.r4(I:5#H):∀b∈202#0,H b=none:=λb U=>by
 rcases Z'.mp (I.vO b U) with e|U
 .rw[e];show I.free
 .show bK (λ_ o j _=>?_) (I.ok.funs.mem U)
  show I.base.free b o j (I.ok.OM b U) λz=>I.ok.Mg b z U
def θ.step{ch:183#0}(I:5#H)
 (f:∀b∈ch,(b∈X.ex\/167#b)/\128#b/\(∀x c,41#x->c≠b)/\∀p∈X.pn++pq,p.1≠b)
 (keep:∀b o,128#b->b∉X.fs->b∉ch->21#o->H b=none->24#h'.get?)
 (slot:∀b o,128#b->b∈X.fs->b∉ch->21#o->H b=none->∃T,144#{ o with slots:=T}) (free:∀b o,b∉ch->21#o->H b=none->H' b=none)
 (there:∀b o,b∉ch->21#o->∃F,144#F)
 (tups:∀b xs,H b=17#xs->H' b=17#xs) (l5:∀b o u,H b=some (.n9 o u)->H' b=some (.n9 o u)) (qj:∀b Z,H b=some (.jq Z)->∃more,H' b=112#(Z++more))
 (ns:∀m,s.heap.Ns X.env.locals m->h'.Ns X.env.locals m) (A:qe X.prog X.w H' h') (y:AllBare g') :
 θ X pq σ H' { s with heap:=h',gens:=g',drawn:=d',toks:=t'}:=by
 have B:∀b o,24#X.s₀.heap.get?->128#b:=λb o e=>q! (g! (J' e) I.ok.above)
 have h:∀b o,24#X.s₀.heap.get?->b∉X.ex->b∉ch:=λb o e O U=>by
  rcases(f b U).1 with z|z
  .show O z
  .show 206#(g! (J' e) z)
 have w:∀x c,41#x->∀v,s.heap.IsCell c v->h'.IsCell c v:=λx c e v=>aj λo j J=>by
  have a:c∉ch:=λz=>(f c z).2.2.1 x c e rfl
  by_cases L:c∈X.fs
  .obtain⟨T,q⟩:=slot c o (I.WR x c e) L a j (I.iU x c e);show af _ q J
  .show af o (keep c o (I.WR x c e) L a j (I.iU x c e)) J
 show⟨I.ok,I.os,y,⟨λb o e n U O=>?_,λb o e n U O=>?_,λb o e n O=>?_,λb o e O=>?_,λb xs e=>tups b xs (I.base.tups b xs e),λb o xs e=>l5 b o xs (I.base.l5 b o xs e),λb Z e=>?_⟩,?_,λx c e=>?_,?_,λx c e=>?_,λp t=>?_,A,I.len⟩
 .show keep b o (B b o e) U (h b o e O) (I.base.keep b o e n U O) (I.base.free b o e n O)
 .obtain⟨T,g⟩:=I.base.slot b o e n U O;obtain⟨d,D⟩:=slot b _ (B b o e) U (h b o e O) g (I.base.free b o e n O);show⟨d,D⟩
 .obtain⟨F,g⟩:=I.base.there b o e O;show free b F (h b o e O) g (I.base.free b o e n O)
 .obtain⟨F,g⟩:=I.base.there b o e O;show there b F (h b o e O) g
 .obtain⟨W,g⟩:=I.base.qj b Z e;obtain⟨Y,D⟩:=qj b _ g;show⟨W++Y,by rw[D,Array.append_assoc]⟩
 .show aj (λm S C=>?_) I.loc
  show af m (ns m S) λi x v g D R=>?_
  show aj (λu r l=>?_) (C i x v g D R)
  show af u r ?_;rcases l with l|⟨k,c,e,z⟩
  .show .inl l
  .show .inr (b8 k c e (w x c e _ z))
 .obtain⟨v,z⟩:=I.cell x c e;show⟨v,w x c e v z⟩
 .show aj (λm a _=>?_) I.loc;obtain⟨o,_,_,j,_⟩:=a
  show free _ o (λz=>(f _ z).2.1 rx) j I.free
 .show br (λv o j J=>?_) (I.cell x c e)
  show free c o (λz=>(f c z).2.2.1 x c e rx) j (I.iU x c e)
 .show kG (λe n G g d=>?_) (I.pin p t)
  have a:p.1∉ch:=λz=>(f p.1 z).2.2.2 p t rfl
  show dF (keep p.1 p.2 G g a e n) (free p.1 p.2 a e n) G g d
def θ.un(I:5#H)(u:Un X.fs [] H H' s.heap h')(A:qe X.prog X.w H' h'):142#H':=by
 show aj (λm w _=>?_) (id I.loc);obtain⟨o,l,i,j,r⟩:=w
 obtain⟨T,Y⟩:=u.any j I.free 23#0
 show I.step (g':=s.gens) (d':=s.drawn) (ch:=[]) (λ_ z=>nomatch z) (λb o _ U _ e n=>u.keep b o e n U 23#0) (λb o _ U _ e n=>u.slot b o e n U 23#0) (λb o _ e n=>u.free b o e n 23#0) (λb o _ e=>u.there b o e 23#0) u.tups u.l5 u.qj (λO d=>by
  revert d;show cK λF W B E G=>?_
  rw[j]at E;cases E;show bN _ W B Y G) A I.bare
def θ.call(I:5#H)(u:Un (202#0) ch H H' s.heap h')(A:qe X.prog X.w H' h')(y:AllBare g')
 (f:∀b∈ch,(b∈X.ex\/167#b)/\128#b/\(∀x c,41#x->c≠b)/\∀p∈X.pn++pq,p.1≠b) :
 θ X pq σ H' { s with heap:=h',gens:=g',drawn:=d',toks:=t'}:=by
 show aj (λm a _=>?_) (id I.loc);obtain⟨o,l,i,j,r⟩:=a
 obtain⟨T,Y⟩:=u.any j I.free λz=>(f _ z).2.1 rfl
 show I.step (ch:=ch) f (λb o Y U L e n=>u.keep b o e n (λz=>(Z'.mp (I.vO b z)).elim Y U) L) (λb o _ _ L e n=>u.any e n L) (λb o L e n=>u.free b o e n L) (λb o L e=>u.there b o e L) u.tups u.l5 u.qj (λO d=>by
  revert d;show cK λF W B E G=>?_
  rw[j]at E;cases E;show bN _ W B Y G) A y
def θ.turned(I:5#H)(k:∀b o,b≠it->21#o->24#h'.get?)(S:H it=none)(Y:128#it)
 (R:it∈X.ex\/167#it) (W:∀x c,41#x->c≠it) (M:∀p∈X.pn++pq,p.1≠it):142#H:=by
 have a:∀b u,H b=some u->b≠it:=λb u e z=>by rw[z,S]at e;cases e
 show I.step (g':=s.gens) (d':=s.drawn) (ch:=[it]) (λb U=>?_) (λb o _ _ L e _=>k b o (λz=>L (by simp[z])) e) (λb o _ _ L e _=>⟨o.slots,k b o (λz=>L (by simp[z])) e⟩) (λ_ _ _ _ n=>n)
  (λb o L e=>⟨o,k b o (λz=>L (by simp[z])) e⟩) (λ_ _ e=>e) (λ_ _ _ e=>e) (λb Z e=>⟨#[],by rw[e];simp⟩) (λm d=>?_) (λb u e=>?_) I.bare
 .have e:b=it:=102#0
  subst e;show iI R Y W M
 .revert d;show cK λo l i j r=>?_
  show bN o l i (k _ o (e! Y) j) r
 .show(I.hok b u e).stay (λc v L q=>k c v ?_ q) (λ_ q=>q) λ_ _ q=>q
  rcases L with z|z
  .rw[z];show a b u e
  .show a c _ z
def θ.tok(I:5#H)(t:Nat):θ X pq σ H { s with toks:=t}:=I.un (h':=s.heap) (t':=t) Un.refl I.hok
def θ.kept(I:5#H)(k:∀b u,21#u->144#u):142#H:=I.un (Un.kept k) (I.hok.kept k)
def θ.laid{a:Addr}(I:5#H)(k:∀b u,21#u->144#u)(t:189#a)(Q:bL X.prog X.w (η H a o) h' a o):
 142#(η H a o):=I.un (Un.laid k t (I.hok.fresh t)) (I.hok.laid k t Q)
def θ.write(I:5#H)(g:WO (H x))(n:e=x\/H e=some (.own x))(k:∀b u,b≠e->21#u->144#u)(i:∃u,h'.get? e=some u)
 (Q:bL X.prog X.w (η H x o) h' x o):142#(η H x o):=I.un (Un.write g n k i) (I.hok.write g n k i Q)
def θ.weak{k:List (Option V)}(I:5#H)(C:k.length=σ.length)(w:∀(i:Nat) v,k[i]?=some (some v)->σ[i]?=some (some v)):θ X pq k H s :=
 ⟨I.ok,I.os,I.bare,I.base,let⟨m,hn,hl'⟩:=I.loc;(af m hn (λi x v g D R=>hl' i x v g (w i v D) R)),I.cell,I.free,I.iU,I.pin,I.hok,C.trans I.len⟩
def θ.i6{yq:cN}(I:5#H)(h:∀p∈yq,s.heap.get? p.1=some p.2/\H p.1=none/\128#p.1/\p.1∉X.fs/\∀v,p.2.data≠.cell v):θ X yq σ H s :=
 ⟨I.ok,I.os,I.bare,I.base,I.loc,I.cell,I.free,I.iU,λp t=>(d!.mp t).elim (λz=>I.pin p (R4 _ z)) (h p),I.hok,I.len⟩
def yZ{N:List Str}(o:N.Nodup){i j:Nat}(a:N[i]?=some x)(b:N[j]?=some x):i=j:=by
 obtain⟨R,g⟩:=k6.mp a;obtain⟨W,D⟩:=k6.mp b;show(_O o).mp (g.trans D.symm)
def Mh{M:Model}{A:Around}{E:kj}{i:Nat}{x:Str}{v:V}{u:Value}{Q:227#Unit}(I:5#H)(hN:X.N.Nodup)(Y:278#x)(O:277#Loc)(r:χ v u)
 (h:∀s',θ X pq (σ.set i (some v)) H s'->(∃a,Heap.SameBut a s.heap s'.heap/\(a=X.env.locals\/X.env.cells.lookup x=some a))->Q () s') (Z:X.fn x=true\/40#x:=by show 121):187#(storeName X.env x u):=by
 show aj (λm S C=>?_) (id I.loc)
 have f:(X.env.scope.kind == .class || (X.env.scope.kind == .module&&X.env.locals != X.env.globals))=false:=by rw[I.ok.kind];rfl
 have E:i<σ.length:=by rw[I.len];show(k6.mp Y).1
 have v:=I.WR;have Q:∀{a:Addr} {h' : Heap},(∃o,s.heap.get? a=some o/\H a=none)->Heap.SameBut a s.heap h'->qe X.prog X.w H h':=λ{a h'} W l b g e=>by
  revert W;show aj λ_ _ d=>?_
  show(I.hok b g e).stay (λc a L q=>(l.2 c ?_).trans q) (λ_ q=>q) λ_ _ q=>q
  rintro rfl;rcases L with rfl|L
  .rw[d]at e;cases e
  .rw[d]at L;cases L
 rcases O with B|B
 .show wpAny_storeName_local B S (λh' L l=>?_) f
  show cK (λw _ _ f _=>?_) (id S)
  show h _ ⟨I.ok,I.os,I.bare,⟨λb o e n U O=>?_,λb o e n U O=>?_,I.base.free,λb o e O=>?_,I.base.tups,I.base.l5,I.base.qj⟩,af _ L λj y P g D R=>?_,λy c e=>?_,I.free,I.iU,λp t=>?_,Q (af w f I.free) l,by simpa using I.len⟩ (af _ l (.inl rx))
  .show(l.2 b (q! (g! (J' e) I.ok.above))).trans (I.base.keep b o e n U O)
  .obtain⟨T,g⟩:=I.base.slot b o e n U O;show⟨T,(l.2 b (q! (g! (J' e) I.ok.above))).trans g⟩
  .obtain⟨F,g⟩:=I.base.there b o e O;show⟨F,(l.2 b (q! (g! (J' e) I.ok.above))).trans g⟩
  .by_cases J:j=i
   .subst J;rw[Y]at g;cases g;rw[S_ E]at D;cases D;show af u r (.inl ⟨B,by simp⟩)
   .rw[E_ (e! J)]at D;show aj (λd G q=>?_) (C j y P g D R)
    show af d G ?_;rcases q with⟨k,e⟩|⟨k,c,e,z⟩
    .show .inl ⟨k,?_⟩;have:y≠x:=λe=>J (yZ hN g (e▸Y))
     simp[this,e]
    .show .inr (b8 k c e (z.sameBut l (v y c e)))
  .obtain⟨a,z⟩:=I.cell y c e;show⟨a,z.sameBut l (v y c e)⟩
  .show kG (λe n G F d=>?_) (I.pin p t)
   show dF ((l.2 p.1 G).trans e) n G F d
 .have N:X.fn x=true:=by
   rcases Z with z|z
   .show z
   .rw[z]at B;cases B
  obtain⟨c,L⟩:=I.ok.has x (.inl B);obtain⟨a,z⟩:=I.cell x c L;show wpAny_storeName_cell I.ok.kind B L z (λh' A l=>?_)
  show aj (λM f W=>?_) (id z)
  show h 153#0 ⟨I.ok,I.os,I.bare,⟨λb o e n U O=>?_,λb o e n U O=>?_,I.base.free,λb o e O=>?_,I.base.tups,I.base.l5,I.base.qj⟩,af m (S.sameBut l (e! (v x c L))) λj y P g D R=>?_,λy w e=>?_,I.free,I.iU,λp t=>?_,Q (af M f (I.iU x c L)) l,by simpa using I.len⟩ (af c l (.inr L))
  .show(l.2 b (q! (g! (J' e) (I.ok.UR x c N L)))).trans (I.base.keep b o e n U O)
  .obtain⟨T,g⟩:=I.base.slot b o e n U O;show⟨T,(l.2 b (q! (g! (J' e) (I.ok.UR x c N L)))).trans g⟩
  .obtain⟨F,g⟩:=I.base.there b o e O;show⟨F,(l.2 b (q! (g! (J' e) (I.ok.UR x c N L)))).trans g⟩
  .by_cases J:j=i
   .subst J;rw[Y]at g;cases g;rw[S_ E]at D;cases D;show af u r (.inr (b8 (.inl B) c L A))
   .rw[E_ (e! J)]at D;show aj (λd G q=>?_) (C j y P g D R)
    show af d G ?_;rcases q with q|⟨k,w,e,F⟩
    .show .inl q
    .show .inr (b8 k w e (F.sameBut l ?_));rintro rfl;show J (yZ hN g (I.ok.inj _ _ _ e L▸Y))
  .by_cases d:w=c
   .subst d;show⟨_,A⟩
   .obtain⟨k,q⟩:=I.cell y w e;show⟨k,q.sameBut l d⟩
  .show kG (λe n G F d=>?_) (I.pin p t)
   show dF ((l.2 p.1 ?_).trans e) n G F d;intro q;rw[q,f]at e;have k:M=p.2:=26#e;show d a (by rw[<-k];show W)
def qq{M:Model}{A:Around}{E:kj}{i:Nat}{x:Str}{v:V}{u:Value}{Q:227#Unit}(I:5#H)(o:X.N.Nodup)(Y:278#x)(O:277#Loc)(r:χ v u)
 (h:∀s',θ X pq (σ.set i (some v)) H s'->Q () s') (Z:X.fn x=true\/40#x:=by show 121):187#(storeName X.env x u) :=
 Mh I o Y O r (λs' b _=>h s' b) Z
def θ.K3{s' : Shared}(I:5#H)(j:s'.os=s.os)(u:Un (202#0) ch H H' s.heap s'.heap)(A:qe X.prog X.w H' s'.heap)(y:AllBare s'.gens)
 (f:∀b∈ch,(b∈X.ex\/167#b)/\128#b/\(∀x c,41#x->c≠b)/\∀p∈X.pn++pq,p.1≠b):θ X pq σ H' s':=by
 obtain⟨h',q,E,Z,F⟩:=s';have e:F=s.os:=j;subst e;show I.call (g':=q) (t':=Z) (d':=E) u A y f
end
abbrev XK:=Value->129#0->Hp->Prop
abbrev St:=List (Option V)
abbrev VK:=V->Hp->Prop
abbrev TE:=81#St
abbrev TT:=St->Hp->(Bool->Hp->Prop)->Prop
abbrev TA:=St->Hp->(List V->Hp->Prop)->Prop
structure Ends where
 nx:St->Hp->Prop
 rt:VK
 bk:St->Hp->Prop:=52#0
 ct:St->Hp->Prop:=52#0
abbrev TS:=Ends->St->Hp->Prop
def EP(X:Cx)(A:cN)(M:St)(Q:VK)(u:Value)(s' : Shared):Prop:=∃v Y,θ X A M Y s'/\χ v u/\Q v Y
def TP(X:Cx)(A:cN)(M:St)(Q:Bool->Hp->Prop)(b:Bool)(s' : Shared):Prop:=∃Y,θ X A M Y s'/\Q b Y
def AP(X:Cx)(A:cN)(M:St)(Q:List V->Hp->Prop)(g:82#0)(s' : Shared):Prop:=∃G Y,θ X A M Y s'/\υ G g/\Q G Y
def SP(X:Cx)(A:cN)(D:Ends)(f:Flow)(s' : Shared):Prop :=
 match f with
 | .next=>∃k Y,θ X A k Y s'/\D.nx k Y
 | .brk=>∃k Y,θ X A k Y s'/\D.bk k Y
 | .cont=>∃k Y,θ X A k Y s'/\D.ct k Y
 | .ret u=>∃v k Y,θ X A k Y s'/\χ v u/\D.rt v Y
def PE(X:Cx)(e:Expr)(t:TE):Prop :=
 ∀pq s (σ:St) H Q,5#H->t σ H Q->105#152#e
def PT(X:Cx)(e:Expr)(t:TT):Prop :=
 ∀pq s (σ:St) H Q,5#H->t σ H Q->wpAny 9#0 X.A (isTrue e X.env 152#e) (TP X pq σ Q) X.xe s
def PW(X:Cx)(e:Expr)(t:TT):Prop :=
 ∀whole pq s (σ:St) H Q,5#H->t σ H Q->wpAny 9#0 X.A (isTrue e X.env whole) (TP X pq σ Q) X.xe s
def PW.pt(h:PW X e t):PT X e t:=h _
def PA(X:Cx)(l:312#0)(t:TA):Prop :=
 ∀pos pq s (σ:St) H Q,5#H->t σ H Q->wpAny 9#0 X.A (spliced (259#15#l)) (AP X pq σ Q) X.xe s
def PS(X:Cx)(st:Stmt)(t:TS):Prop :=
 ∀pq s (σ:St) H D,5#H->t D σ H->wpAny 9#0 X.A (exec st X.env) (SP X pq D) X.xe s
def tK(X:Cx)(st:List Stmt)(t:TS):Prop :=
 ∀pq s (σ:St) H D,5#H->t D σ H->wpAny 9#0 X.A (execs st X.env) (SP X pq D) X.xe s
def eg(h:187#t)(O:∀a s,Q a s->c a s):wpAny M A t c E s:=c! h O λ_ _ x=>x
section
variable {X:Cx}
def WS(i:Nat):TE:=λM H Q=>∃v,M[i]?=some (some v)/\Q v H
def tC(v:V):TE:=λ_ H Q=>Q v H
def US{i:Nat}{x:Str}{j:Pos}(o:278#x)(U:277#YE)(J:198#("__debug__":Str):=by decide)(b:198#("__classdict__":Str):=by decide):PE X (.Name x j) (WS i):=by
 show 68
 revert h;show aj λv e h=>?_
 show aj (λm S C=>?_) I.loc
 show aj (λu r l=>?_) (C i x v o e U)
 have a:EP X A M Q u s:=aq v H I r h;rcases l with⟨B,d⟩|⟨B,c,L,t⟩
 .show wpAny_Name (wpAny_loadName_local I.ok.kind B S d a) J
 .rcases B with B|B
  .show wpAny_Name (wpAny_loadName_cell I.ok.kind B L t a) J
  .show wpAny_Name (wpAny_loadName_free I.ok.kind B L t a b) J
def ao{i j pos}:PE X (.Constant (.int i) j pos) (tC (.int i)):=λ_ _ _ H _ I h=>wpAny_Constant_int (aq (.int i) H (I.tok _) 234#0 h)
def qf{b j pos}:PE X (.Constant (.bool b) j pos) (tC (.bl b)):=λ_ _ _ H _ I h=>Constant_bool (aq (.bl b) H I rx h)
def dG{j pos}:PE X (.Constant .none j pos) (tC .eM):=λ_ _ _ H _ I h=>Constant_none (aq .eM H I rx h)
def aW{x j pos}:PE X (.Constant (.str x) j pos) (tC (.str x)):=λ_ _ _ H _ I h=>Calls.Constant_str (aq (.str x) H (I.tok _) 234#0 h)
def Gl(X:Cx)(x:Str):Prop:=X.env.kindOf x=some .globalImplicit
def oh{E:kj}{A:cN}{s:Shared}{M:St}{H:Hp}{x:Str}{u:Value}{j:Pos}{Q:kj}(I:282#0)(y:Gl X x)(d:X.mg x=some u)(h:Q u s)
 (J:198#("__debug__":Str):=by decide):wpAny 9#0 X.A 152#(.Name x j) Q E s :=
 Calls.Name_function_global I.ok.kind y (Calls.loadGlobal_global (by rw[I.ok.glob];show I.mod.glob.keeps I.bk) d h) J
def k7{E:kj}{A:cN}{s:Shared}{M:St}{H:Hp}{x:Str}{u:Value}{j:Pos}{Q:kj}(I:282#0)(y:Gl X x)(d:X.mg x=none)(U:bootBuiltins x=some u)(h:Q u s)
 (S:x≠"__name__":=by decide) (J:198#("__debug__":Str):=by decide):wpAny 9#0 X.A 152#(.Name x j) Q E s:=by
 show aj (λC R W=>?_) I.mod.blt
 show Calls.Name_function_global I.ok.kind y (Calls.loadGlobal_builtin (by rw[I.ok.glob];show I.mod.glob.keeps I.bk) d (by rw[I.ok.blt];show R.keeps I.bk) ((W x S).trans U) h) J
def Dt{x:Str}{v:V}{u:Value}{j:Pos}(y:Gl X x)(d:X.mg x=some u)(r:χ v u)(J:198#("__debug__":Str):=by decide):PE X (.Name x j) (tC v) :=
 λ_ _ _ H _ I h=>oh I y d (aq v H I r h) J
def Sf{x:Str}{v:V}{u:Value}{j:Pos}(y:Gl X x)(d:X.mg x=none)(U:bootBuiltins x=some u)(r:χ v u)(S:x≠"__name__":=by decide)(J:198#("__debug__":Str):=by decide):PE X (.Name x j) (tC v) :=
 λ_ _ _ H _ I h=>k7 I y d U (aq v H I r h) S J
variable {a b:Expr}{ta tb:TE}{pos:Pos}
def PC(X:Cx)(op:CmpOp)(a b:Expr)(t:TE):Prop :=
 ∀pq s (σ:St) H Q,5#H->t σ H Q->
   wpAny 9#0 X.A 152#a (λv O=>wpAny 9#0 X.A 152#b (λu p=>wpAny 9#0 X.A (compareOp op v u) (EP X pq σ Q) X.xe p) X.xe O) X.xe s
def tB(t:TE):TT:=λM H Q=>t M H λx S=>∃c,x = .bl c/\Q c S
def UT{op:CmpOp}{t:TE}(h:PC X op a b t)(R:behindInMarks op b=false:=by first | show nobehind _ 3#0 3#0 | rfl):PT X (.Compare a [op] [b] pos) (tB t):=by
 intro A s M H Q I j;show wpAny_isTrue_Compare1 (eg (h A s M H _ I j) λv F R=>eg R λu N W=>eg W λc e=>aA λx S T J O=>?_) R
 revert O;show aj λd w q=>?_;subst w
 cases J;show wpAny_truthy_bool (af S T q)
def eO{e:Expr}{t:TE}(h:PE X e t)(n:∀l,isTrue e X.env l=(do let v←l;standAt e.pos;holding [v] (truthy v)):=by intro _;rfl):PT X e (tB t):=by
 intro A s M H Q I j;show isTrue_plain (148#(h A s M H _ I j)) (n _)
 revert O;show aj λd z q=>?_;subst z
 cases J;show wpAny_truthy_bool (af S T q)
variable {tA YG:TT}{rest:312#0}
def Zf(t u:TT):TT:=λM H Q=>t M H λc S=>if c=true then u M S Q else Q false S
def tOr(t u:TT):TT:=λM H Q=>t M H λc S=>if c=true then Q true S else u M S Q
def Zg(t:TT):TT:=λM H Q=>t M H λc S=>Q (! c) S
def mq(W:PT X a tA):PW X (.BoolOp .And [a] pos) tA:=by
 intro d A s M H Q I h;show isTrue_and (eg (W A s M H Q I h) λc F e=>?_)
 cases c with
 | true=>show isTrue_and_nil e
 | false=>show e
def iK(W:PT X a tA):PW X (.BoolOp .Or [a] pos) tA:=by
 intro d A s M H Q I h;show isTrue_or (eg (W A s M H Q I h) λc F e=>?_)
 cases c with
 | false=>show isTrue_or_nil e
 | true=>show e
def qt(W:PT X a tA)(U:PW X (.BoolOp .And (b::rest) pos) YG):PW X (.BoolOp .And (a::b::rest) pos) (Zf tA YG):=by
 intro d A s M H Q I h;show isTrue_and (eg 34#W λc F=>aj λS T O=>?_)
 cases c with
 | true=>show U d A F M S Q T O
 | false=>show af S T O
def j5(W:PT X a tA)(U:PW X (.BoolOp .Or (b::rest) pos) YG):PW X (.BoolOp .Or (a::b::rest) pos) (tOr tA YG):=by
 intro d A s M H Q I h;show isTrue_or (eg 34#W λc F=>aj λS T O=>?_)
 cases c with
 | true=>show af S T O
 | false=>show U d A F M S Q T O
def iL(W:PT X a tA):PT X (.UnaryOp .Not a pos) (Zg tA):=by
 show 68;show isTrue_not (W A s M H (λc S=>Q (! c) S) I h)
def WT(ta tb:TE):TE:=λM H Q=>ta M H λx S=>∃c,x = .bl c/\if c=true then tb M S Q else Q (.bl false) S
def Zh(ta tb:TE):TE:=λM H Q=>ta M H λx S=>∃c,x = .bl c/\if c=true then Q (.bl true) S else tb M S Q
def oj{op}(h:PE X a t):PE X (.BoolOp op [a] pos) t:=λA s M H Q I j=>BoolOp_one (h A s M H Q I j)
def qu(W:PE X a ta)(U:PE X (.BoolOp .And (b::rest) pos) tb):PE X (.BoolOp .And (a::b::rest) pos) (WT ta tb):=by
 show 68;show BoolOp_and (148#34#W)
 revert O;show aj λc d O=>?_;subst d
 cases J;show wpAny_truthy_bool ?_;cases c with
 | true=>show U A F M S Q T O
 | false=>show aq (.bl false) S T rfl O
def Uk(W:PE X a ta)(U:PE X (.BoolOp .Or (b::rest) pos) tb):PE X (.BoolOp .Or (a::b::rest) pos) (Zh ta tb):=by
 show 68;show BoolOp_or (148#34#W)
 revert O;show aj λc t O=>?_;subst t
 cases J;show wpAny_truthy_bool ?_;cases c with
 | false=>show U A F M S Q T O
 | true=>show aq (.bl true) S T rfl O
def tIf(t:TT)(ta tb:TE):TE:=λM H Q=>t M H λc S=>if c=true then ta M S Q else tb M S Q
def iw(L:PT X c tA)(W:PE X a ta)(U:PE X b tb):PE X (.IfExp c a b pos) (tIf tA ta tb):=by
 show 68;show wpAny_IfExp (eg 34#L λd F=>aj λS T O=>?_)
 cases d with
 | true=>show W A F M S Q T O
 | false=>show U A F M S Q T O
end
def aK(K:bY)(H:Hp)(a:Addr)(xs:List V):Prop :=
 Rd H a (.lst xs)\/
  ∃o g n,K.lookup a=some o/\o.cls = .type "list"/\o.dict=none/\o.data = .seq g n/\36#g.size/\υ xs g.toList
def aZ(K:bY)(H:Hp)(a:Addr)(xs:List V):Prop :=
 Rd H a (.tup xs)\/
  ∃o g n,K.lookup a=some o/\o.cls = .type "tuple"/\o.data = .seq g n/\36#g.size/\υ xs g.toList
noncomputable def Zi:Value->Option V
 | .none=>some .eM
 | .bool b=>some (.bl b)
 | .int i _=>some (.int i)
 | .str x _=>some (.str x)
 | .bytes b _=>some (.OI b)
 | .float b _=>some (.UQ b)
 | .ref a=>some (.ref a)
 | .type n=>some (.ty n)
 | _=>none
def χ.abs(r:χ x u):Zi u=some x:=by
 cases x with
 | eM=>cases r;rfl
 | bl _=>cases r;rfl
 | int _=>show 257;rfl
 | str _=>show 257;rfl
 | OI _=>show 257;rfl
 | UQ _=>show 257;rfl
 | ref _=>cases r;rfl
 | ty _=>cases r;rfl
def χ.inj(r:χ x u)(q:χ y u):x=y:=26#(r.abs.symm.trans q.abs)
def υ.inj{xs ys:List V}{g:82#0}(h:υ xs g)(k:υ ys g):xs=ys:=by
 induction h generalizing ys with
 | nil=>cases k;rfl
 | cons r _ E=>obtain _ | ⟨q,t⟩:=k;rw[r.inj q,E t]
section
variable {X:Cx}{pq:cN}{σ:St}{H:Hp}{s:Shared}{a:Addr}{xs ys:List V}
def aK.of{K:bY}(h:H a=1#xs):aK K H a xs:=.inl (.inl h)
def aZ.of{K:bY}(h:H a=17#xs):aZ K H a xs:=.inl (.inl h)
def θ.list(I:5#H)(h:aK X.K H a xs):∃g:82#0,υ xs g/\PlainL s.heap a g.toArray/\36#xs.length:=by
 rcases h with h|⟨o,g,n,B,L,J,l,m,r⟩
 .show Bf (λz=>br λg n r e=>?_) (h.ok I.hok)
  show av g r (bh _ n e rx rx rx) z
 .show av g.toList r (bh o n (I.qp a o B) L J (by simpa using l)) ?_
  have e:=r.length;simp only[G_]at e
  lia
def θ.tuple(I:5#H)(h:aZ X.K H a xs):∃g:82#0,υ xs g/\IsTup s.heap a g.toArray/\36#xs.length:=by
 rcases h with h|⟨o,g,n,B,L,l,m,r⟩
 .show bK (λz g r p=>?_) (h.ok I.hok)
  show av g r p z
 .show av g.toList r (af o (I.qp a o B) (cJ L n (by simpa using l))) ?_
  have e:=r.length;simp only[G_]at e
  lia
def θ.nK(I:5#H)(h:aK X.K H a xs)(h' : aK X.K H a ys):xs=ys:=by
 show aG (λg r c _=>?_) (I.list h);obtain⟨o,n,e,_,_,d⟩:=c
 show aG (λb G k _=>?_) (I.list h');obtain⟨F,C,f,_,_,E⟩:=k
 rw[e]at f;cases f;rw[d]at E;injection E with B _
 have:g=b:=by simpa using k! Array.toList B
 subst this;show r.inj G
def θ.Cm(I:5#H)(h:aZ X.K H a xs)(h' : aZ X.K H a ys):xs=ys:=by
 show aG (λg r N _=>?_) (I.tuple h);obtain⟨o,e,_,n,d⟩:=N
 show aG (λb G L _=>?_) (I.tuple h');obtain⟨F,f,_,C,E⟩:=L
 rw[e]at f;cases f;rw[d]at E;injection E with B _
 have:g=b:=by simpa using k! Array.toList B
 subst this;show r.inj G
end
abbrev Cx.y9(X:Cx)(E:kj):Cx:={ X with xe:=E}
abbrev Cx.Ft(X:Cx):Cx:=X.y9 52#0
def Cx.Ok.y9{X:Cx}(C:X.Ok)(E:kj):(X.y9 E).Ok :=
 ⟨C.mod,C.kind,C.glob,C.blt,C.above,C.inj,C.has,C.UR,C.hd,C.frames,C.FE,C.YF,C.bs,C.OJ,C.IC,C.Mg,C.funs,C.OM⟩
def Cx.Ok.k9{X:Cx}(C:(X.y9 E).Ok):X.Ok :=
 ⟨C.mod,C.kind,C.glob,C.blt,C.above,C.inj,C.has,C.UR,C.hd,C.frames,C.FE,C.YF,C.bs,C.OJ,C.IC,C.Mg,C.funs,C.OM⟩
section
variable {X:Cx}{pq:cN}{σ:St}{H:Hp}{s:Shared}{E:kj}
def θ.y9(I:5#H)(E:kj):θ (X.y9 E) pq σ H s:=⟨I.ok.y9 E,I.os,I.bare,I.base,I.loc,I.cell,I.free,I.iU,I.pin,I.hok,I.len⟩
def θ.k9(I:θ (X.y9 E) pq σ H s):5#H:=⟨I.ok.k9,I.os,I.bare,I.base,I.loc,I.cell,I.free,I.iU,I.pin,I.hok,I.len⟩
def SP.k9(h:SP (X.y9 E) pq D f s'):SP X pq D f s':=by
 cases f with
 | next=>revert h;show br λk Y I q=>?_;show aV k Y I.k9 q
 | brk=>revert h;show br λk Y I q=>?_;show aV k Y I.k9 q
 | cont=>revert h;show br λk Y I q=>?_;show aV k Y I.k9 q
 | ret u=>revert h;show bz λv k Y I r q=>?_;show cC v k Y I.k9 r q
def tK.Ft{st:List Stmt}(h:tK X.Ft st t):tK X st t:=λpq s σ H D I j =>
 c! (h pq s σ H D (I.y9 _) j) (λ_ _ q=>q.k9) λ_ _ z=>False.elim z
end
section
variable {X:Cx}{st:Stmt}{rest:List Stmt}{t u:TS}{e:Expr}{te:TE}{pos:Pos}
def cu:TS:=λD M H=>D.nx M H
def Ends.on(D:Ends)(u:TS):Ends:={ D with nx:=u D}
def aI(t u:TS):TS:=λD M H=>t (D.on u) M H
def aO:tK X [] cu:=λ_ _ M H _ I h=>wpAny_execs_nil (aV M H I h)
def ae(R:PS X st t)(W:tK X rest u):tK X (st::rest) (aI t u):=by
 show 168;show wpAny_execs_cons (eg (R A s M H { D with nx:=u D} I h) λf F q=>?_)
 cases f with
 | next =>
   revert q;show br λk Y b q=>?_
   show W A F k Y D b q
 | ret v=>show q
 | brk=>show q
 | cont=>show q
def ak(R:PS X st t):tK X [st] t:=by
 show 168;show wpAny_execs_cons (eg (R A s M H D I h) λf F q=>?_)
 cases f with
 | next=>show wpAny_execs_nil q
 | ret v=>show q
 | brk=>show q
 | cont=>show q
def θ.quiet{A:cN}{M:St}(I:282#0):interactive X.env=false:=by simp[interactive,I.ok.kind]
def WU(te:TE):TS:=λD M H=>te M H λ_ S=>D.nx M S
def cg(n:PE X e te)(l:swapsWith e none pos.line X.env=pure false:=by rfl):PS X (.Expr e pos) (WU te):=by
 show 168;show wpAny_Expr_any (eg 34#n λv F=>aA λx S T J O=>aV M S T O) I.quiet l
def Zj(te:TE):TS:=λD M H=>te M H D.rt
def ay(n:PE X e te):PS X (.Return (some e) pos) (Zj te):=by
 show 168;show wpAny_Return_some (148#34#n)
 show cC x M S T J O
def dP(c:TT)(t u:TS):TS:=λD M H=>c M H λb S=>if b=true then t D M S else u D M S
def bD{c:Expr}{a b:List Stmt}{j:TT}(L:PT X c j)(W:tK X a t)(U:tK X b u):PS X (.If c a b pos) (dP j t u):=by
 show 168;show wpAny_If (eg 34#L λd F=>aj λS T O=>?_)
 cases d with
 | true=>show W A F M S D T O
 | false=>show U A F M S D T O
def UU:TS:=λ_ _ _=>False
def vP:tK X a UU:=λ_ _ _ _ _ _ h=>h.elim
end
abbrev TG:=V->St->Hp->(St->Hp->Prop)->Prop
abbrev R5:=List V->St->Hp->(St->Hp->Prop)->Prop
def PG(X:Cx)(c:Expr)(t:TG):Prop :=
 ∀pq s (σ:St) H v u Q,5#H->χ v u->t v σ H Q->
   wpAny 9#0 X.A (assign c X.env u) (λ_ p=>∃k Y,θ X pq k Y p/\Q k Y) X.xe s
def WD(X:Cx)(ts:312#0)(t:R5):Prop :=
 ∀pq s (σ:St) H vs us Q,5#H->υ vs us->t vs σ H Q->
   wpAny 9#0 X.A (assignInOrder ((235#ts).map (·.2)) us) (λ_ p=>∃k Y,θ X pq k Y p/\Q k Y) X.xe s
abbrev ON:=V->V->V->Hp->(Hp->Prop)->Prop
def UW(X:Cx)(t:ON):Prop :=
 ∀pq s (σ:St) H o i v ov iv u Q,5#H->χ o ov->χ i iv->χ v u->t o i v H Q->
   wpAny 9#0 X.A (setItem ov iv u) (λ_ p=>∃Y,θ X pq σ Y p/\Q Y) X.xe s
abbrev WV:=V->81#V
def PIp(X:Cx)(op:Operator)(t:WV):Prop :=
 ∀pq s (σ:St) H x y v u Q,5#H->χ x v->χ y u->t x y H Q->
   105#(inplaceOp op v u)
section
variable {X:Cx}{pos:Pos}
def K4(i:Nat):TG:=λv M H Q=>Q (M.set i (some v)) H
def yJ{i:Nat}{x:Str}(o:X.N.Nodup)(Y:278#x)(O:277#Loc)(Z:X.fn x=true\/40#x:=by show 121):PG X (.Name x pos) (K4 i):=by
 intro A s M H v u Q I r h;show wpAny_assign_Name (qq I o Y O r (λp b=>aV _ H b h) Z)
def Zk:R5:=λG M H Q=>G=[]/\Q M H
def WW(t:TG)(u:R5):R5:=λG M H Q=>∃v r,G=v::r/\t v M H λk Y=>u r k Y Q
def cX:WD X [] Zk:=by
 intro A s M H G g Q I r h;obtain⟨e,h⟩:=h;subst e;cases r;show assignInOrder_nil (aV M H I h)
def aM{e:Expr}{b:312#0}{t:TG}{u:R5}(R:PG X e t)(W:WD X b u)
 (l:(235#(e::b)).map (·.2)=assign e X.env::(235#b).map (·.2):=by rfl):WD X (e::b) (WW t u):=by
 intro A s M H G g Q I r h
 revert h;show br λv a c h=>?_
 subst c;cases r with
 | cons r C =>
   rw[l];show assignInOrder_cons (eg (R A s M H _ _ _ I r h) λ_ F=>br λi S T O=>?_)
   show W A F i S _ _ Q T C O
def WX(K:bY)(n:Nat)(t:R5):TG:=λv M H Q=>∃a f,v = .ref a/\aZ K H a f/\f.length=n/\t f M H Q
def UX{l:312#0}{k:Nat}{t:R5}{n:Nat}(L:X.calm=true)(h:WD X l t)
 (S:48#(235#l)=n:=by rfl) (p:(235#l).findIdx? (·.1)=none:=by rfl):PG X (.Tuple l k pos) (WX X.K n t):=by
 intro A s M H v u Q I r j
 revert j;show aS λa f c Y C j=>?_
 subst c;cases r;show aG (λg D d m=>?_) (I.tuple Y)
 show assign_Tuple_tuple 276#0 d (by simp[S,<-C,D.length]) p λN O=>?_
 have T:θ X A M H { s with heap:=N}:=I.kept (t':=s.toks) λb o e=>O b o (q! (J' e)) e
 show h A _ M H f _ Q T (by simpa using D) j
def Zl(d q:TE)(t:ON):TG:=λv M H Q=>d M H λo S=>q M S λi Z=>t o i v Z λw=>Q M w
def vQ{o i:Expr}{d q:TE}{t:ON}(j:PE X o d)(Y:PE X i q)(l:UW X t)
 (W:∀v,assign (.Subscript o i pos) X.env v=(do
  let L←holding [v] 152#o
  let C←holding [v,L] 152#i
  standAt pos
  holding [v,L,C] (setItem L C v)
  release [v,L,C] []):=by intro _;rfl):PG X (.Subscript o i pos) (Zl d q t):=by
 intro A s M H v u Q I r h;rw[W];show aQ (t! (eg 34#j λL F=>aA λx S T J O=>?_))
 show aQ (t! (eg (Y A F M S _ T O) λC N=>aA λy Z E a P=>?_))
 show aQ (wpAny_standAt (aQ (t! (eg (l A N M Z x y v L C u _ E J a r P) λ_ b=>aj λw B g=>?_))))
 show wpAny_release (aV M w B g)
def UY(U:TE)(g:TG):TS:=λD M H=>U M H λx S=>g x M S D.nx
def lj{tg e:Expr}{U:TE}{g:TG}(n:PE X e U)(y:PG X tg g)(l:swapsWithSole [tg] e pos.line X.env=pure false:=by rfl)(j:swappedStores [tg] e X.env=pure none:=by rfl)
 (R:(235#([tg])).map (·.2)=[assign tg X.env]:=by rfl):PS X (.Assign [tg] e pos) (UY U g):=by
 show 168;show wpAny_Assign_stores (148#34#n) l j
 rw[R];show eg (y A F M S x v _ T J O) λ_ N q=>q
def dB{i:Nat}{x:Str}{e:Expr}{U:TE}{a:Pos}(o:X.N.Nodup)(Y:278#x)(O:277#Loc)(n:PE X e U)(l:swapsWith e (some (.Name x a)) pos.line X.env=pure false:=by rfl)(Z:X.fn x=true\/40#x:=by show 121):
 PS X (.Assign [.Name x a] e pos) (UY U (K4 i)):=by
 show 168;show wpAny_Assign_Name (eg 34#n λv F=>aA λy S T J b=>?_) l
 show qq T o Y O J (λN E=>aV _ S E b) Z
def Zm(i:Nat)(U:TE)(q:WV):TS:=λD M H=>∃x,M[i]?=some (some x)/\U M H λy S=>q x y S λz Z=>D.nx (M.set i (some z)) Z
def vR{i:Nat}{x:Str}{e:Expr}{U:TE}{op:Operator}{q:WV}{a:Pos}(o:X.N.Nodup)(Y:278#x)(O:277#Loc)(n:PE X e U)(j:PIp X op q)(Q:X.fn x=true\/40#x:=by show 121):
 PS X (.AugAssign (.Name x a) op e pos) (Zm i U q):=by
 show 168
 revert h;show aj λv g h=>?_
 show aj (λm R C=>?_) I.loc
 have f:277#YE:=by rcases O with k | k;show .inl k;show .inr (.inl k)
 show aj (λu r l=>?_) (C i x v Y g f)
 show wpAny_AugAssign_Name ?_;have G:wpAny 9#0 X.A 152#e (λw p=>wpAny 9#0 X.A (inplaceOp op u w) (λr b=>wpAny 9#0 X.A (storeName X.env x r) (λ_=>SP X A D .next) X.xe b) X.xe p) X.xe s:=by
  show eg 34#n λw F=>aA λy S T J d=>?_
  show eg (j A F M S v y u w _ T r J d) λz N=>aA λc Z E t P=>?_
  show qq E o Y O t (λL B=>aV _ Z B P) Q
 rcases l with⟨B,d⟩|⟨B,c,L,t⟩
 .show wpAny_loadName_local I.ok.kind B R d G
 .rcases B with B|B
  .show wpAny_loadName_cell I.ok.kind B L t G
  .rcases O with k|k
   .have:X.env.scope.names.lookup x=some .free:=B;rw[k]at this;cases this
   .have:X.env.scope.names.lookup x=some .free:=B;rw[k]at this;cases this
def WY(d q U:TE)(a:V->81#V)(b:WV)(c:ON):TS:=λD M H=>d M H λo S=>q M S λi Z=>a o i Z λx w=>U M w λy X=>b x y X λz t=>c o i z t λr=>D.nx M r
def WZ(X:Cx)(t:V->81#V):Prop :=
 ∀pq s (σ:St) H o i ov iv Q,5#H->χ o ov->χ i iv->t o i H Q->
   105#(getItem ov iv)
def K5{o i e:Expr}{d q U:TE}{a:V->81#V}{b:WV}{c:ON}{op:Operator}{f:Pos}(j:PE X o d)(Y:PE X i q)(y:WZ X a)(n:PE X e U)(t:PIp X op b)(l:UW X c)
 (W:∀L C Q,augStore i L C Q=(do holding [Q,L,C] (setItem L C Q);release [Q,L,C] [];pure .next):=by intros;rfl):PS X (.AugAssign (.Subscript o i f) op e pos) (WY d q U a b c):=by
 show 168;show wpAny_AugAssign_SubscriptAny (eg 34#j λL F=>aA λz S T J O=>?_) W
 show eg (Y A F M S _ T O) λC N=>aA λe Z E d P=>?_
 show eg (y A N M Z z e L C _ E J d P) λh u=>aA λm w B j g=>?_
 show eg (n A u M w _ B g) λv c=>aA λq b f o k=>?_
 show eg (t A c M b m q h v _ f j o k) λQ a=>aA λG g p x i=>?_
 show eg (l A a M g z e G L C Q _ p J d x i) λ_ R=>aj λr c b=>?_
 show aV M r c b
def za(c:TT)(Q:TS):TS:=λD M H=>∃W:109#St,(∃m,W m M H)/\∀m M H,W m M H->
 c M H λb S=>if b=true then ∃N:St->Hp->Prop,(∀k Y,N k Y->∃O,O<m/\W O k Y)/\Q { D with nx:=N,ct:=N,bk:=D.nx} M S else D.nx M S
def uL(t:PassesOwn 9#0 X.A X.env X.xe)(L:PT X c j)(U:tK X R Q):PS X (.While c R [] pos) (za j Q):=by
 show 168
 revert h;show aj λW q x=>?_;obtain⟨m,y⟩:=q
 show wpAny_While (codeAny_whileLoop (λn p=>∃k Y,θ X A k Y p/\W n k Y) ?_ m (aV M H I y))
 intro n F;show br λi S T z=>?_
 show wpAny_passesOwn t (eg (L A F i S _ T (x n i S z)) λb r=>aj λZ E P=>?_)
 cases b with
 | true =>
   revert P;show aj λN o P=>?_
   rw[ο rfl];show wpAny_passesOwn t (eg (U A r i Z _ E P) λf u g=>?_)
   cases f with
   | next =>
     revert g;show br λa w B l=>?_
     show aj (λO d e=>?_) (o a w l)
     show⟨O,(aR d a w B e)⟩
   | cont =>
     revert g;show br λa w B l=>?_
     show aj (λO d e=>?_) (o a w l)
     show⟨O,(aR d a w B e)⟩
   | brk=>show g
   | ret v=>show g
 | false =>
   rw[ξ n!];show wpAny_execs_nil (aV i Z E P)
end
structure It where
 go:Nat->Hp->Prop
 Mi:Nat->Hp->V->Hp->Prop
 stop:Nat->Hp->Prop
def qv(X:Cx)(A:cN)(H:Hp)(b:Addr):Prop :=
 H b=none/\128#b/\b∉X.fs/\(b∈X.ex\/167#b)/\(∀x c,41#x->c≠b)/\∀p∈X.pn++A,p.1≠b
def θ.Bh{A:cN}{M:St}{b:Addr}(I:282#0)(U:189#b)(S:Y b=none):qv X A Y b:=by
 show⟨S,(dF (X! (g! I.lt U)) (I.WQ U) (.inr (Ω I.sz U)) (λx c e z=>?_) λp t z=>?_)⟩
 .obtain⟨v,q⟩:=I.cell x c e;show 206#(g! q.lt (by rw[z];show U))
 .show 206#(g! (J' (I.pin p t).1) (by rw[z];show U))
structure Turn(P:Program)(w:World)(K:bY)(tg:Expr)(J:It)(fp:183#0)(it:Addr)(tn:Nat->Heap->Prop):Prop where
 mem:it∈fp
 obj:∀i h,tn i h->∀b∈fp,∃o,24#h.get?/\∀v,o.data≠.cell v
 keep:∀i h h',tn i h->(∀b∈fp,∀o,24#h.get?->24#h'.get?)->tn i h'
 item:∀(X:Cx),X.prog=P->X.w=w->X.K=K->X.calm=true->∀(i:Nat) (pq:cN) (s:Shared) (σ:St) (H:Hp) (E:kj),5#H->(∀b∈fp,qv X pq H b)->tn i s.heap->J.go i H->
  wpAny (model P w) X.A (279#it) (λr s1=>∃u,r=some u/\
   wpAny (model P w) X.A (letOwnedTupleGo tg (.ref it) u) (λ_ s2=>∃x H',θ X pq σ H' s2/\χ x u/\J.Mi i H x H'/\tn (i+1) s2.heap/\∀b∈fp,H' b=none) E s1) E s
 done:∀(X:Cx),X.prog=P->X.w=w->X.K=K->X.calm=true->∀(i:Nat) (pq:cN) (s:Shared) (σ:St) (H:Hp) (E:kj),5#H->(∀b∈fp,qv X pq H b)->tn i s.heap->J.stop i H->
  wpAny (model P w) X.A (279#it) (λr s1=>r=none/\θ X pq σ H s1) E s
 self:∀(A:Around) (i:Nat) (s:Shared) (Q:kj) (E:kj),tn i s.heap->Q (.ref it) s->79#(pyIter (.ref it))
abbrev TI:=St->Hp->(It->Hp->Prop)->Prop
def PIE(X:Cx)(A:cN)(M:St)(tg:Expr)(R:It->Hp->Prop)(f:Value)(N:Shared):Prop :=
 ∃c G h J Y,f = .ref c/\θ X A M Y N/\Turn X.prog X.w X.K tg J G c h/\h 0 N.heap/\(∀b∈G,qv X A Y b)/\R J Y
def PI(X:Cx)(tg iter:Expr)(a:TI):Prop :=
 ∀pq s (σ:St) H R,5#H->a σ H R->
   wpAny 9#0 X.A 152#iter (λv F=>wpAny 9#0 X.A (pyIter v) (PIE X pq σ tg R) X.xe F) X.xe s
def Cn{s:Shared}(j:s.heap.get? it=some o)(L:o.cls = .type n)(J:o.data = .fields G)
 (S:["enumerate","zip","dict_itemiterator","dict_reverseitemiterator","odict_iterator","itertools.zip_longest","itertools.pairwise"].contains n=false) (O:Q () s):187#(letOwnedTupleGo tg (.ref it) u):=by
 unfold letOwnedTupleGo;cases tg<;>first
  | show Θ O
  | (cases u<;>first
   | show Θ O
   | (show aQ (wpAny_load j ?_)
      rw[L,J];change 187#237#(["enumerate","zip","dict_itemiterator","dict_reverseitemiterator","odict_iterator","itertools.zip_longest","itertools.pairwise"].contains n&&G[0]? == some (rawInt _))
      rw[ξ (by intro h;rw[S,_V]at h;cases h)]
      show Θ O))
def OL(K:bY)(a:Addr):It :=
 ⟨λi H=>∃f x,aK K H a f/\f[i]?=some x,λi H x Y=>Y=H/\∀f,aK K H a f->f[i]?=some x,λi H=>∃f,aK K H a f/\f.length<=i⟩
def WE(K:bY)(a:Addr):It :=
 ⟨λi H=>∃f x,aZ K H a f/\f[i]?=some x,λi H x Y=>Y=H/\∀f,aZ K H a f->f[i]?=some x,λi H=>∃f,aZ K H a f/\f.length<=i⟩
def OO(lo:Int)(n:Nat):It:=⟨λi _=>i<n,λi H x Y=>Y=H/\x = .int (lo+i),λi _=>n<=i⟩
def Co{K:bY}(a it:Addr):Turn P w K tg (OL K a) [it] it (λi h=>h.IsListIter it a i) where
 mem:=by simp
 obj:=λi h st b U=>by
  have e:b=it:=102#0
  subst e
  revert st;show aG λo e c d=>?_
  show af o e λv z=>by rw[d]at z;cases z
 keep:=λi h N st k=>st.at λo e=>k it 23#0 o e
 item:=by
  show 134;subst S j l
  revert y;show br λf x Y O=>?_
  show 120#254#0
  show aj (λu G t=>?_) (D.get O)
  show 274#(λJ R n Q B z=>?_)
  show wpAny_pyNext_list_item st p.isList (x:=u) (by simpa using G) λN q v=>?_
  have T:θ X A M H { s with heap:=N}:=69#((v.2 b U).trans e)
  show aG (λo e c d=>?_) (id q)
  show af u rx (Cn (s:={ s with heap:=N}) e c d 3#0 (dU x H T t 46#(λC r=>by rw[I.nK r Y];show O) q (λb U=>(Z b U).1)))
 done:=by
  show 134;subst S j l
  revert y;show aj λf Y O=>?_
  show 120#254#0
  show 274#(λJ R n Q B z=>?_)
  have C:=D.length;show wpAny_pyNext_list_end 276#0 st p.isList (by simp;lia) λN r=>46#(69#(r b o U e))
 self:=λ_ _ _ _ _ st h=>wpAny_pyIter_listiter st h
def ID{K:bY}(a it:Addr):Turn P w K tg (WE K a) [it] it (λi h=>h.IsTupleIter it a i) where
 mem:=by simp
 obj:=λi h st b U=>by
  have e:b=it:=102#0
  subst e
  revert st;show aG λo e c d=>?_
  show af o e λv z=>by rw[d]at z;cases z
 keep:=λi h N st k=>st.at λo e=>k it 23#0 o e
 item:=by
  show 134;subst S j l
  revert y;show br λf x Y O=>?_
  show aG 254#0 (I.tuple Y)
  show aj (λu G t=>?_) (D.get O)
  show 274#(λJ R n Q B z=>?_)
  show wpAny_pyNext_tuple_item st (show s.heap.IsTuple a g.toArray from p) (x:=u) (by simpa using G) λN q v=>?_
  have T:θ X A M H { s with heap:=N}:=69#((v.2 b U).trans e)
  show aG (λo e c d=>?_) (id q)
  show af u rx (Cn (s:={ s with heap:=N}) e c d 3#0 (dU x H T t 46#(λC r=>by rw[I.Cm r Y];show O) q (λb U=>(Z b U).1)))
 done:=by
  show 134;subst S j l
  revert y;show aj λf Y O=>?_
  show aG 254#0 (I.tuple Y)
  show 274#(λJ R n Q B z=>?_)
  have C:=D.length;show wpAny_pyNext_tuple_end 276#0 st (show s.heap.IsTuple a g.toArray from p) (by simp;lia) λN r=>46#(69#(r b o U e))
 self:=λ_ _ _ _ _ st h=>wpAny_pyIter_tupleiter st h
def IE{K:bY}(it:Addr)(lo:Int)(n:Nat):Turn P w K tg (OO lo n) [it] it (λi h=>IsRangeIter h it (lo+(i:Nat)*1) ((n:Int)-(i:Nat)) 1) where
 mem:=by simp
 obj:=λi h st b U=>by
  have e:b=it:=102#0
  subst e;show af _ st λv z=>by
   have y:Data.fields _=Data.cell v:=z;cases y
 keep:=λi h N st k=>k it 23#0 _ st
 item:=by
  show 134;subst S j l;show 274#(λJ R u Q B z=>?_)
  have W:=Walks.range (prog:=X.prog) (w:=X.w) 276#0 it lo 1 n;show W.item i s _ _ y st λv N F a q r=>?_
  obtain⟨t,rfl⟩:=a;have T:θ X A M H { s with heap:=N,toks:=F}:=I.turned (λb o U e=>r b o (102#0) e) J R Q B z
  show af _ rfl (Cn (s:={ s with heap:=N,toks:=F}) (n:="range_iterator") q rfl rfl 3#0 (dU (.int (lo+i)) H T ⟨t,?_⟩ ⟨rfl,rfl⟩ q (λb U=>(Z b U).1)))
  rw[Int.mul_one]
 done:=by
  show 134;subst S j l;show 274#(λJ R u Q B z=>?_)
  show wpAny_pyNext_range_end 276#0 st (by have:n<=i:=y;lia) λN r=>46#(69#(r b o U e))
 self:=λ_ _ _ _ _ st h=>wpAny_pyIter_rangeiter st h
section
variable {X:Cx}{tg:Expr}
def K6(K:bY)(j:TE):TI:=λM H R=>j M H λx S=>∃a,x = .ref a/\(∃f,aK K S a f)/\R (OL K a) S
def Sg(K:bY)(j:TE):TI:=λM H R=>j M H λx S=>∃a,x = .ref a/\(∃f,aZ K S a f)/\R (WE K a) S
def K7(C:PE X l j):PI X tg l (K6 X.K j):=by
 intro A s M H R I h;show 148#34#C
 revert O;show aG λa e c q=>?_;obtain⟨f,Y⟩:=c
 subst e;cases J;show aG 254#0 (T.list Y)
 show wpAny_pyIter_list p.isList ?_;show cD F.heap.objs.size [F.heap.objs.size] _ _ S rx (T.kept (t':=F.toks) λb o e=>W' _ e) (Co a _) (av _ (v! _ rx) rx rx) (λb U=>?_) q
 have e:314#b:=102#0
 subst e;show T.Bh (Ξ _) (319#0)
def OP(C:PE X l j):PI X tg l (Sg X.K j):=by
 intro A s M H R I h;show 148#34#C
 revert O;show aG λa e d q=>?_;obtain⟨f,Y⟩:=d
 subst e;cases J;show aG 254#0 (T.tuple Y)
 show wpAny_pyIter_tuple (show F.heap.IsTuple a g.toArray from p) ?_
 show cD F.heap.objs.size [F.heap.objs.size] _ _ S rx (T.kept (t':=F.toks) λb o e=>W' _ e) (ID a _) (av _ (v! _ rx) rx rx) (λb U=>?_) q
 have e:314#b:=102#0
 subst e;show T.Bh (Ξ _) (319#0)
def FF{A:cN}{M:St}{lo Y:Int}(I:282#0)(a : -(2^62)<=lo)(W:lo<2^62)(c : -(2^62)<=Y)(d:Y<2^62)
 (q:R (OO lo (Y-lo).toNat) H):wpAny 9#0 X.A (pyIter (22#.ref)) (PIE X A M tg R) E { s with heap:=174#230#(.type "range"),toks:=F}:=by
 show wpAny_pyIter_range (IsRange.new ..) (small_one a W c d) ?_;have T:θ X A M H { s with heap:=174#230#(.type "range"),toks:=F}:=I.kept λb o e=>W' _ e
 show cD (43#230#(.type "range")) [43#230#(.type "range")] _ _ H rfl (T.kept (t':=F) λb o e=>W' _ e) (IE _ lo (Y-lo).toNat) ?_ (λb U=>?_) q
 .have g:lo+((0:Nat):Int)*1=lo:=by simp
  have D:7#(Y-lo).toNat-((0:Nat):Int)=Builtin.Range.rangeSize lo Y 1:=by rw[rangeSize_one];split<;>lia
  change IsRangeIter _ _ (lo+((0:Nat):Int)*1) (7#(Y-lo).toNat-((0:Nat):Int)) 1;rw[g,D];show v! _ rfl
 .have e:b=43#230#(.type "range"):=102#0
  subst e;show T.Bh (Ξ _) (319#0)
def W0(z:TA):TI:=λM H R=>z M H λG S=>∃j:Int,G=[.int j]/\-(2^62)<=j/\j<2^62/\R (OO 0 j.toNat) S
def W2(z:TA):TI:=λM H R=>z M H λG S=>∃i j:Int,G=[.int i,.int j]/\(-(2^62)<=i/\i<2^62/\-(2^62)<=j/\j<2^62)/\R (OO i (j-i).toNat) S
def cR{a:Expr}{z:TA}{p b:Pos}(y:Gl X "range")(d:X.mg "range"=none)(W:PA X [a] z)(l:15#([a])=[33#a]:=by rfl):PI X tg (.Call (.Name "range" p) [a] [] b) (W0 z):=by
 intro A s M H R I h;show Call_ (k7 I y d boot_range (y_ (eg (275#b) λg F=>aA λG S T J O=>?_) l rx))
 revert O;show dX λj=>mj λe O P q=>?_
 subst e;cases J with
 | cons r C =>
   cases C;show 257;show call_range_1 (FF T (by lia) (by lia) O P (by simpa using q))
def r5{a b:Expr}{z:TA}{p f:Pos}(y:Gl X "range")(d:X.mg "range"=none)(W:PA X [a,b] z)(l:15#([a,b])=[33#a,33#b]:=by rfl)(v:15#([b])=[33#b]:=by rfl):
 PI X tg (.Call (.Name "range" p) [a,b] [] f) (W2 z):=by
 intro A s M H R I h;show Call_ (k7 I y d boot_range (y_ (eg (275#f) λg F=>aA λG S T J O=>?_) (by rw[l,v]) (by rw[v];rfl)))
 revert O;show aA λi j e c q=>?_;obtain⟨O,P,m,k⟩:=c
 subst e;cases J with
 | cons r C =>
   cases C with
   | cons n C =>
     cases C;show 257;obtain⟨Z,rfl⟩:=n;show call_range_2 (FF T O P m k q)
def i4(a:TI)(g:TG)(Q:TS):TS:=λD M H=>a M H λJ S=>∃W:Nat->109#St,(∃m,W 0 m M S)/\∀i m M H,W i m M H->
 (J.stop i H/\D.nx M H)\/(J.go i H/\262#J.Mi)
def vS(G:183#0)(h:Heap):cN:=G.filterMap λb=>(h.get? b).map λo=>(b,o)
def jr{h:Heap}(U:b∈G)(e:24#h.get?):(b,o)∈vS G h:=c_.mpr (af b U (by rw[e];rfl))
def Mj(t:p∈vS G h):p.1∈G/\h.get? p.1=some p.2:=by
 show aj (λb U e=>?_) (c_.mp t)
 cases q:h.get? b with
 | none=>rw[q]at e;cases e
 | some o =>
   rw[q]at e;have f:(b,o)=p:=26#e;subst f;show⟨U,q⟩
def θ.pinned{A:cN}{M:St}(I:282#0)(Z:∀b∈G,qv X A H b)(j:∀b∈G,∃o,21#o/\∀v,o.data≠.cell v):θ X (A++vS G s.heap) M H s :=
 I.i6 λp t=>(d!.mp t).elim (λz=>I.pin p (j4 _ z)) λz=>by
  obtain⟨U,e⟩:=Mj z;show mj (λJ R u _=>?_) (Z p.1 U)
  show aj (λo f d=>?_) (j p.1 U)
  rw[e]at f;cases f;show dF e J R u d
def θ.lq{A pl:cN}{M:St}(I:θ X (A++pl) M H s):282#0:=I.i6 λp t=>I.pin p (j4 _ (R4 _ t))
def dQ{iter:Expr}{a:List Stmt}{b:TI}{g:TG}{Q:TS}{j:Pos}(t:PassesOwn 9#0 X.A X.env X.xe)(L:X.calm=true)(c:PI X tg iter b)(y:PG X tg g)(U:tK X a Q)
 (l:158#0:=by intro _;rfl):PS X (.For tg iter a [] j) (i4 b g Q):=by
 show 168;show wpAny_For (eg 34#c λv F R=>eg R λa d b=>?_) l
 revert b;show gZ λg G o=>aS λJ Z e E T=>bG λf a W d q=>?_;obtain⟨c,h⟩:=d
 subst e;have g:∀{Y:Hp},(∀b∈G,Y b=none)->∀b∈G,qv X A Y b:=λS b U=>⟨S b U,(a b U).2⟩
 show codeAny_forLoop_any (λn p=>∃i k Y,θ X A k Y p/\o i p.heap/\(∀b∈G,Y b=none)/\W i n k Y) ?_ c (bC 0 M Z E f (λb U=>(a b U).1) h)
 intro n j;show dX λi=>aS λd w B l h a=>?_
 rcases q i n d w a with⟨f,p⟩|⟨m,N,s,step⟩
 .show wpAny_passesOwn t (eg (T.done X rx rx rx L i A j d w X.xe B (g h) l f) λr c a=>?_)
  obtain⟨P,f⟩:=a;subst P;show wpAny_execs_nil (aV d w f p)
 .show wpAny_passesOwn t (eg (T.item X rx rx rx L i A j d w X.xe B (g h) l m) λr c=>aj λu P p=>?_)
  subst P;show wpAny_passesOwn t (eg p λ_ a=>fX λx c=>kG λf q r h l=>?_)
  have j:=f.pinned (g l) (T.obj _ _ h);show wpAny_passesOwn t (eg (y _ a d c x u _ j q (step x c r)) λ_ p=>br λw g l m=>?_)
  show wpAny_passesOwn t (eg (U _ p w g _ l m) λf d c=>?_)
  have again:∀{z:St} {q:Hp},θ X (A++vS G a.heap) z q d->N z q->∃m,m<n/\∃i k Y,θ X A k Y d/\o i d.heap/\(∀b∈G,Y b=none)/\W i m k Y:=λ{z q} C g=>by
   show aj (λO a d=>?_) (s z q g)
   show af O a (bC (i+1) z q C.lq (T.keep _ _ _ h λb U o e=>(C.pin (b,o) (j4 _ (j4 _ (jr U e)))).1) (λb U=>?_) d)
   show aj (λo e d=>?_) (T.obj _ _ h b U)
   show(C.pin (b,o) (j4 _ (j4 _ (jr U e)))).2.1
  cases f with
  | next=>revert c;show br λz q C g=>?_;show again C g
  | cont=>revert c;show br λz q C g=>?_;show again C g
  | brk=>revert c;show br λz q C c=>?_;show aV z q C.lq c
  | ret v=>revert c;show bz λo z q C d c=>?_;show cC o z q C.lq d c
end
def uM{K:bY}{xs:List V}{g:TG}{Q:TS}{D:Ends}(c:109#St)(h0:c 0 M H)(C:∀i M H,i<=xs.length->c i M H->aK K H a xs)
 (l:∀i x M H,xs[i]?=some x->c i M H->g x M H λP Z=>Q 200#c P Z) (J:∀M H,293#M->D.nx M H) :
 ∃W:Nat->109#St,(∃m,W 0 m M H)/\∀i m M H,W i m M H->
   ((OL K a).stop i H/\D.nx M H)\/((OL K a).go i H/\262#(OL K a).Mi):=by
 show 106#(λi m M H=>115#M)
 intro i m M H;show dW λb h p=>?_;subst b
 have q:=C i M H h p
 show 265
 .show .inr (b8 216#q (c (i+1)) (λk Y f=>116#f) (λx Y y=>?_))
  obtain⟨e,y⟩:=y;subst e;show l i x M _ (y xs q) p
 .show 221
  subst e;show .inl ⟨af xs q (Ξ _),J M H p⟩
def Du{K:bY}{xs:List V}{g:TG}{Q:TS}{D:Ends}(c:109#St)(h0:c 0 M H)(C:∀i M H,i<=xs.length->c i M H->aZ K H a xs)
 (l:∀i x M H,xs[i]?=some x->c i M H->g x M H λP Z=>Q 200#c P Z) (J:∀M H,293#M->D.nx M H) :
 ∃W:Nat->109#St,(∃m,W 0 m M H)/\∀i m M H,W i m M H->
   ((WE K a).stop i H/\D.nx M H)\/((WE K a).go i H/\262#(WE K a).Mi):=by
 show 106#(λi m M H=>115#M)
 intro i m M H;show dW λb h p=>?_;subst b
 have q:=C i M H h p
 show 265
 .show .inr (b8 216#q (c (i+1)) (λk Y f=>116#f) (λx Y y=>?_))
  obtain⟨e,y⟩:=y;subst e;show l i x M _ (y xs q) p
 .show 221
  subst e;show .inl ⟨af xs q (Ξ _),J M H p⟩
def g4{lo:Int}{g:TG}{Q:TS}{D:Ends}(c:109#St)(h0:c 0 M H)
 (l:∀i M H,i<n->c i M H->g (.int (lo+i)) M H λP Z=>Q 200#c P Z) (J:∀M H,c n M H->D.nx M H) :
 ∃W:Nat->109#St,(∃m,W 0 m M H)/\∀i m M H,W i m M H->
   ((OO lo n).stop i H/\D.nx M H)\/((OO lo n).go i H/\262#(OO lo n).Mi):=by
 show af (λi m M H=>m=n-i/\i<=n/\c i M H) (av n 23#0 (r! _) h0) ?_
 intro i m M H;show dW λa b p=>?_;subst a
 by_cases d:i<n
 .show .inr (b8 d (c (i+1)) (λk Y f=>fU (n-(i+1)) (by lia) rx d f) (λx Y y=>?_))
  obtain⟨e,y⟩:=y;subst e y;show l i M _ d p
 .have e:i=n:=by lia
  subst e;show .inl ⟨Ξ _,J M H p⟩
abbrev R2:=V->81#V
def mU(X:Cx)(f:Value->Value->Sem Value)(r:R2):Prop :=
 ∀pq s (σ:St) H x y v u Q,5#H->χ x v->χ y u->r x y H Q->
   105#(f v u)
def Zn(X:Cx)(f:Value->Sem Value)(r:81#V):Prop :=
 ∀pq s (σ:St) H x v Q,5#H->χ x v->r x H Q->
   105#(f v)
def fW(X:Cx)(f:Value)(r:81#(List V)):Prop :=
 ∀pq s (σ:St) H xs us Q,5#H->υ xs us->r xs H Q->
   105#(call f us)
def UZ(r:R2)(z a:TE):TE:=λM H Q=>z M H λx S=>a M S λy Z=>r x y Z Q
def tUn(r:81#V)(z:TE):TE:=λM H Q=>z M H λx S=>r x S Q
def rI(C:Int->Int->Prop)(g:Int->Int->V):R2:=λx y H Q=>∃i j,x = .int i/\y = .int j/\C i j/\Q (g i j) H
def Mk(g:Int->Int->V):R2:=λx y H Q=>∃i j,x = .int i/\y = .int j/\Q (g i j) H
def rU(g:Int->V):81#V:=λx H Q=>∃i,x = .int i/\Q (g i) H
section
variable {X:Cx}{a b c:Expr}{ta tb tc:TE}{pos:Pos}
def U0(W:PE X a ta)(U:PE X b tb){A:cN}{M:St}{R:V->V->Hp->Prop}(I:282#0)
 (h:ta M H λx S=>tb M S λy Z=>R x y Z) {f:Value->Value->Sem Value}
 (d:∀v u N x y Z,θ X A M Z N->χ x v->χ y u->R x y Z->wpAny 9#0 X.A (f v u) Q X.xe N) :
 wpAny 9#0 X.A 152#a (λv e=>wpAny 9#0 X.A 152#b (λu p=>wpAny 9#0 X.A (f v u) Q X.xe p) X.xe e) X.xe s:=by
 show 148#34#W
 show eg (U A F M S _ T O) λu N=>aA λy Z E i P=>?_
 show d v u N x y Z E J i P
def aB{op:Operator}{r:R2}(j:mU X (binaryOp op) r)(W:PE X a ta)(U:PE X b tb):PE X (.BinOp a op b pos) (UZ r ta tb):=by
 show 68;show wpAny_BinOp (U0 W U I h λv u N x y Z E B c q=>j A N M Z x y v u Q E B c q)
def sZ(j:Zn X (unaryOp op) r)(W:PE X a ta):PE X (.UnaryOp op a pos) (tUn r ta):=by
 show 68;show UnaryOp_ (148#34#W)
 show j A F M S x v Q T J O
def Ul{g:Int->Int->Int}
 (rule:∀i j t u s Q E,C i j->Q (.int (g i j) s.toks) 110#0->wpAny 9#0 X.A (f (.int i t) (.int j u)) Q E s) :
 mU X f (rI C 246#(g i j)):=by
 show 67
 revert h;show aS λi j a b L q=>?_;subst a b
 show 71;show 94;show rule i j t Z s _ _ L (113#(.int (g i j)))
def IF{g:Int->Int->Int}
 (rule:∀i j t u s Q E,Q (.int (g i j) s.toks) 110#0->wpAny 9#0 X.A (f (.int i t) (.int j u)) Q E s) :
 mU X f (Mk 246#(g i j)):=by
 show 67
 revert h;show aA λi j b a q=>?_;subst b a
 show 71;show 94;show rule i j t Z s _ _ (113#(.int (g i j)))
def Sh{g:Int->Int->Bool}
 (rule:∀i j t u s Q E,Q (.bool (g i j)) s->wpAny 9#0 X.A (f (.int i t) (.int j u)) Q E s) :
 mU X f (Mk λi j=>.bl (g i j)):=by
 show 67
 revert h;show aA λi j a b q=>?_;subst a b
 show 71;show 94;show rule i j t Z s _ _ (aq (.bl (g i j)) H I rx q)
def U1(i j:Int):Prop:=0<j/\j<1073741824
def W3(i j:Int):Prop:=0<=j/\j<=1000000/\i.natAbs<2^64
def U3(i j:Int):Prop:=(-(2^64)<i/\i<2^64)\/(-(2^64)<j/\j<2^64)
def U3.ok(h:U3 i j):IntMulOk i j:=by
 rcases h with⟨R,W⟩|⟨R,W⟩
 .show .of_left (intBits_le_64 R W)
 .show .of_right (intBits_le_64 R W)
def IG(k:Nat):(0:Int)<=2^k:=by
 rw[two_pow_cast];show _G _
def eR:mU X 306#.Add (Mk 246#(i+j)):=IF 210#add_int
def jt:mU X 306#.Sub (Mk 246#(i-j)):=IF 210#sub_int
def qw:mU X 306#.Mult (rI U3 246#(i*j)):=Ul λ_ _ _ _ _ _ _ L q=>mul_int q L.ok
def eY:mU X 306#.FloorDiv (rI U1 246#(i/j)):=Ul λi j _ _ _ _ _ L q=>by
 have R:(0:Int)<j:=L.1;have W:j<1073741824:=L.2;show floordiv_int (by lia) (by rw[Int.fdiv_eq_ediv_of_nonneg i (by lia)];show q) (.inl (PyProof.noPylong_small (by lia)))
def cG:mU X 306#.Mod (rI (λ_ j=>0<j) 246#(i%j)):=Ul λi j _ _ _ _ _ L q=>by
 have R:(0:Int)<j:=L;show mod_int' (by lia) (by rw[Int.fmod_eq_emod_of_nonneg i (by lia)];show q)
def om:mU X 306#.Pow (rI W3 246#(i^j.toNat)):=Ul λ_ _ _ _ _ _ _ L q=>pow_int_small L.1 L.2.1 L.2.2 q
def qx:mU X 306#.LShift (rI W3 246#(i*2^j.toNat)):=Ul λ_ _ _ _ _ _ _ L q=>lshift_int_small L.1 L.2.1 L.2.2 q
def OQ:mU X 306#.RShift (rI (λ_ j=>0<=j) 246#(i/2^j.toNat)):=Ul λi j _ _ _ _ _ L q =>
 rshift_int L (by rw[Int.fdiv_eq_ediv_of_nonneg i (IG _)];show q)
def OR:mU X 306#.BitAnd (Mk 246#(Builtin.bitAnd i j)):=IF 210#and_int
def ju:mU X 306#.BitXor (Mk 246#(Builtin.bitXor i j)):=IF 210#xor_int
def K8:mU X (inplaceOp .Add) (Mk 246#(i+j)):=IF 210#iadd_int
def OS:mU X (inplaceOp .BitOr) (Mk 246#(Builtin.bitOr i j)):=IF 210#ior_int
def yK:mU X (inplaceOp .BitXor) (Mk 246#(Builtin.bitXor i j)):=IF 210#ixor_int
def unI{g:Int->Int}
 (rule:∀i t s Q E,Q (.int (g i) s.toks) 110#0->wpAny 9#0 X.A (f (.int i t)) Q E s) :
 Zn X f (rU λi=>.int (g i)):=by
 intro A s M H x v Q I B h
 revert h;show aj λi a q=>?_;subst a
 show 71;show rule i t s _ _ (113#(.int (g i)))
def mV:Zn X (unaryOp .USub) (rU λi=>.int (-i)):=unI λ_ _ _ _ _ q=>neg_int q
end
noncomputable def W4:V->V->Bool
 | .eM,.eM=>true | .eM,.int _=>true | .int _,.eM=>true | .eM,.bl _=>true | .bl _,.eM=>true | .eM,.str _=>true | .str _,.eM=>true
 | .int _,.int _=>true | .bl _,.bl _=>true | .str _,.str _=>true | .OI _,.OI _=>true
 | .int _,.str _=>true | .str _,.int _=>true | .bl _,.str _=>true | .str _,.bl _=>true
 | _,_=>false
def rEq:R2:=λx y H Q=>W4 x y=true/\Q (.bl (decide (x=y))) H
def rNe:R2:=λx y H Q=>W4 x y=true/\Q (.bl (! decide (x=y))) H
def K9:11#(V.int i=V.int j)=(i==j):=by
 rw[T!];simp
def OT:11#(V.bl i=V.bl j)=(i==j):=by
 rw[T!];simp
def La:11#(V.str i=V.str j)=(i==j):=by
 rw[T!];simp
def Lb:11#(V.OI i=V.OI j)=(i.toList==j.toList):=by
 rw[T!];cases i;cases j;simp
section
variable {X:Cx}{a b c:Expr}{ta tb tc:TE}{pos:Pos}
def cO{A:cN}{M:St}(I:282#0)(q:Q (.bl k) H)(e:k=D):EP X A M Q (.bool D) s:=by
 subst e;show aq (.bl k) H I rx q
def cT:mU X 157#.Eq rEq:=by
 show 67;obtain⟨l,q⟩:=h;cases x with
 | eM =>
   cases B;cases y with
   | eM=>cases c;show 132#PySem.EqNone.eq_none_none
   | bl j=>cases c;show 132#PySem.EqNone.eq_none_bool
   | int j=>show 94;show 132#PySem.EqNone.eq_none_int
   | str j=>show 94;show 132#PySem.EqNone.eq_none_str
   | _=>show 77#0
 | bl i =>
   cases B;cases y with
   | eM=>cases c;show 132#PySem.EqNone.eq_bool_none
   | bl j=>cases c;show eq_bool (cO I q OT)
   | str j=>show 94;show 132#PySem.EqMixed.eq_bool_str
   | _=>show 77#0
 | int i =>
   show 71;cases y with
   | eM=>cases c;show 132#PySem.EqNone.eq_int_none
   | int j=>show 94;show eq_int (cO I q K9)
   | str j=>show 94;show 132#PySem.EqMixed.eq_int_str
   | _=>show 77#0
 | str i =>
   show 71;cases y with
   | eM=>cases c;show 132#PySem.EqNone.eq_str_none
   | bl j=>cases c;show 132#PySem.EqMixed.eq_str_bool
   | int j=>show 94;show 132#PySem.EqMixed.eq_str_int
   | str j=>show 94;show eq_str (cO I q La)
   | _=>show 77#0
 | OI i =>
   show 71;cases y with
   | OI j=>show 94;show PySem.W.eq_bytes (cO I q Lb)
   | _=>show 77#0
 | _=>cases y<;>show 77#0
def nL:mU X 157#.NotEq rNe:=by
 show 67;obtain⟨l,q⟩:=h;cases x with
 | eM =>
   cases B;cases y with
   | eM=>cases c;show 132#PySem.EqNone.ne_none_none
   | bl j=>cases c;show 132#PySem.EqNone.ne_none_bool
   | int j=>show 94;show 132#PySem.EqNone.ne_none_int
   | str j=>show 94;show 132#PySem.EqNone.ne_none_str
   | _=>show 77#0
 | bl i =>
   cases B;cases y with
   | eM=>cases c;show 132#PySem.EqNone.ne_bool_none
   | bl j=>cases c;show ne_bool (cO I q (k! not OT))
   | str j=>show 94;show 132#PySem.EqMixed.ne_bool_str
   | _=>show 77#0
 | int i =>
   show 71;cases y with
   | eM=>cases c;show 132#PySem.EqNone.ne_int_none
   | int j=>show 94;show ne_int (cO I q (k! not K9))
   | str j=>show 94;show 132#PySem.EqMixed.ne_int_str
   | _=>show 77#0
 | str i =>
   show 71;cases y with
   | eM=>cases c;show 132#PySem.EqNone.ne_str_none
   | bl j=>cases c;show 132#PySem.EqMixed.ne_str_bool
   | int j=>show 94;show 132#PySem.EqMixed.ne_str_int
   | str j=>show 94;show ne_str (cO I q (k! not La))
   | _=>show 77#0
 | OI i =>
   show 71;cases y with
   | OI j=>show 94;show PySem.W.ne_bytes (cO I q (k! not Lb))
   | _=>show 77#0
 | _=>cases y<;>show 77#0
def qg:mU X 157#.Lt (Mk λi j=>.bl (decide (i<j))):=Sh 210#lt_int
def OU:mU X 157#.LtE (Mk λi j=>.bl (decide (i<=j))):=Sh 210#le_int
def mu:mU X 157#.Gt (Mk λi j=>.bl (decide (j<i))):=Sh 210#gt_int
def FG:mU X 157#.GtE (Mk λi j=>.bl (decide (j<=i))):=Sh 210#ge_int
def Ml:mU X 157#.In (λx y H Q=>∃i j,x = .str i/\y = .str j/\Q (.bl (!(Builtin.Str.occurrences j i 0 j.length 1).isEmpty)) H):=by
 show 67
 revert h;show aA λi j a b q=>?_;subst a b
 show 71;show 94;show in_str (cO I q rx)
def tL:mU X 157#.Is (λx y H Q=>y = .eM/\Q (.bl (11#(x = .eM))) H):=by
 show 67;obtain⟨rfl,q⟩:=h;cases c;show is_none_gen (cO I q ?_);cases x<;>first
  | (cases B;rfl)
  | (show 71;rfl)
def uN:mU X 157#.IsNot (λx y H Q=>y = .eM/\Q (.bl (! 11#(x = .eM))) H):=by
 show 67;obtain⟨rfl,q⟩:=h;cases c;show isnot_none_gen (cO I q ?_);cases x<;>first
  | (cases B;rfl)
  | (show 71;rfl)
def aH(b:Expr){op:CmpOp}(h:op≠.In:=by decide)(W:op≠.NotIn:=by decide):behindInMarks op b=false:=by
 have g:(op==CmpOp.In)=false:=by cases op<;>first | rfl | show absurd rx h
 have D:(op==CmpOp.NotIn)=false:=by cases op<;>first | rfl | show absurd rx W
 cases b<;>simp[behindInMarks,g,D]
def cY{op:CmpOp}{r:R2}(j:mU X 157#op r)(W:PE X a ta)(U:PE X b tb)(d:behindInMarks op b=false):PE X (.Compare a [op] [b] pos) (UZ r ta tb):=by
 show 68;show wpAny_Compare1 (U0 W U I h λv u N x y Z E B c q=>j A N M Z x y v u Q E B c q) d
def W5(t:TE):TT:=λM H Q=>t M H λx Y=>∃k,x = .bl k/\Q k Y
def az{op:CmpOp}{r:R2}(j:mU X 157#op r)(W:PE X a ta)(U:PE X b tb)(d:behindInMarks op b=false):PT X (.Compare a [op] [b] pos) (W5 (UZ r ta tb)):=by
 show 68;show wpAny_isTrue_Compare1 (eg 34#W λv F=>aA λx S T J O=>eg (U A F M S _ T O) λu N=>aA λy Z E i P=>
  eg (j A N M Z x y v u _ E J i P) λc l=>fX λz w=>bG λB f k e g=>?_) d
 subst e;cases f;show wpAny_truthy_bool (af w B g)
def qy:(sizeLine:Nat)<2^63:=by rw[sizeLine_eq];decide
def ej:mU X 306#.Add (λx y H Q=>∃i j,x = .str i/\y = .str j/\36#(i.length+j.length)/\Q (.str (i++j)) H):=by
 show 67
 revert h;show aS λi j a b m q=>?_;subst a b
 show 71;show 94;show add_str (λZ F=>113#(.str (i++j))) m
def vals1(r:υ [x] g):∃u,g=[u]/\χ x u:=by
 cases r with
 | cons J i=>cases i;show af _ rx J
def vals2(r:υ [x,y] g):∃u L,g=[u,L]/\χ x u/\χ y L:=by
 cases r with
 | cons J i =>
   cases i with
   | cons a b=>cases b;show aq _ _ rx J a
def vU(L:X.calm=true):fW X (.builtin "max") (λxs H Q=>∃i j,xs=[.int i,.int j]/\287#(if j > i then j else i)):=by
 show 290
 revert h;show br λi j d q=>?_;subst d
 show aA (λu e b a c=>?_) (vals2 r);subst b;obtain⟨t,rfl⟩:=a;show 94
 show max_two_ints 276#0 λN F k=>aq _ H (I.kept k) ?_ q
 by_cases J:j > i
 .rw[ο J,ο J];show 234#0
 .rw[ξ J,ξ J];show 234#0
def r6(L:X.calm=true):fW X (.builtin "min") (λxs H Q=>∃i j,xs=[.int i,.int j]/\287#(if j<i then j else i)):=by
 show 290
 revert h;show br λi j a q=>?_;subst a
 show aA (λu e b c d=>?_) (vals2 r);subst b;obtain⟨t,rfl⟩:=c;obtain⟨Z,rfl⟩:=d
 show min_two_ints 276#0 λN F k=>aq _ H (I.kept k) ?_ q
 by_cases J:j<i
 .rw[ο J,ο J];show 234#0
 .rw[ξ J,ξ J];show 234#0
def Mm:fW X (.type "int") (λxs H Q=>(∃i,xs=[.int i]/\Q (.int i) H)\/∃k,xs=[.bl k]/\287#(if k then 1 else 0)):=by
 show 290;rcases h with⟨i,rfl,q⟩|⟨k,rfl,q⟩
 .show 218#(λu a=>dX λt b=>?_);subst a b
  show call_int_int (aq (.int i) H I 234#0 q)
 .show 218#(λu a J=>?_);subst a
  cases J;show call_int_bool (113#(.int (if k then 1 else 0)))
def eA:fW X (.type "str") (λxs H Q=>∃i,xs=[.int i]/\i.natAbs.log2<1920/\Q (.str (toString i)) H):=by
 show 290
 revert h;show aG λi b m q=>?_;subst b
 show 218#(λu c=>dX λt a=>?_);subst c a
 show PySem.P.str_of_int m (113#(.str _))
end
structure U4(h:Heap)(x dx C:Addr)(mA:Bg):Prop where
 obj:h.get? x=some (PySem.W.instObj C dx)
 ns:h.Ns1 dx mA
 ne:dx≠x
def Cp{h:Heap}(n:h.Ns1 g m):∃W,h.get? g=some W/\∀name,PySem.W.lookIn name W=some (m name):=by
 revert n;show bV λo l i j J B _ d=>?_
 show af o j λname=>?_
 have e:=d name;unfold nsFind findBy at e;rw[<-Array.find?_toList]at e;unfold PySem.W.lookIn;rw[J];dsimp only
 split
 .rename_i y q
  rw[q]at e;show k! some e
 .rename_i q
  rw[q]at e;have a:l.toList.any (·.refKey)=false:=by
   rw[List.any_eq_false];intro y X;show fX (λz t u=>?_) (B y (Array.mem_toList_iff.mp X))
   simp[DictEntry.refKey,u]
  have r : ¬ l.toList.any (·.refKey)=true:=by rw[a];show n!
  rw[ξ r];show k! some e
def U4.look(I:U4 h x g C m):∃W,PySem.W.InstAt h x (PySem.W.instObj C g) C (some W)/\∀name,PySem.W.lookIn name W=some (m name) :=
 let⟨W,ho,hl⟩:=Cp I.ns
 (af W ⟨I.obj,rfl,rfl,ho⟩ hl)
def sU.some_of(r:sU (some v) o):∃u,o=some u/\χ v u:=by
 cases o with
 | none=>show(show False from r).elim
 | some u=>show af u rfl r
def Mn(r:χ v u):PySem.W.handedIn u=true:=by
 cases v with
 | eM=>cases 223#(u=Value.none);rfl
 | bl b=>cases 223#(u=Value.bool b);rfl
 | int i=>obtain⟨t,e⟩:=223#(∃t,u=Value.int i t);cases e;rfl
 | str x=>obtain⟨t,e⟩:=223#(∃t,u=Value.str x t);cases e;rfl
 | OI b=>obtain⟨t,e⟩:=223#(∃t,u=Value.bytes b t);cases e;rfl
 | UQ b=>obtain⟨t,e⟩:=223#(∃t,u=Value.float b t);cases e;rfl
 | ref a=>cases 223#(u=194#0);rfl
 | ty n=>cases 223#(u=Value.type n);rfl
section
variable {P:Program}{w:World}{H H' : Hp}{h h' : Heap}{a C dx:Addr}{fs fs' : List (Str×V)}
def Si(A:qe P w H h)(e:H a=some (.ins C dx fs)):∃m,U4 h a dx C m/\(∀f,sU (fs.lookup f) (m f))/\PySem.Within m (fs.map (·.1))/\fs.length<=1000/\H dx=some (.own a):=by
 show dW (λd z=>cE λG W m n r q=>?_) (show bL P w H h a (.ins C dx fs) from A a _ e)
 show j3 m ⟨W,n,G⟩ r q z d
end
structure Zo(K:bY)(C:Addr):Prop where
 pg:PySem.W.plainGet K C Str.empty=true
 hd:PySem.W.hasDictIn K C=true
 po:PySem.W.plainOver K C=true
 sa:PySem.W.findIn K (.ref C) "__setattr__"=86#(.builtin "object.__setattr__")
def Zo.get{K:bY}(c:Zo K C)(f:Str):PySem.W.plainGet K C f=true:=c.pg
section
variable {X:Cx}{pq:cN}{σ:St}{H:Hp}{s:Shared}{a C dx:Addr}{fs:List (Str×V)}{f:Str}{v:V}{A:Around}{E:kj}
def Sj(U:attributeBase e f env (eval e env)=eval e env)
 (h:wpAny 25#w A (eval e env) (λo O=>wpAny 25#w A (getAttr o f true) Q E O) E s):60#(eval (.Attribute e f j) env) :=
 Attribute_any_ h (by rw[arm_eval_Attribute,U])
end
section
variable {X:Cx}{pq:cN}{σ:St}{H:Hp}{s:Shared}{A:Around}{E:kj}{Q:kj}{c:Value}{b:Bool}
inductive vV(K:bY)(H:Hp):V->Value->Prop where
 | eM:vV K H .eM (.type "NoneType")
 | bl (x:Bool):vV K H (.bl x) (.type "bool")
 | int (i:Int):vV K H (.int i) (.type "int")
 | str (x:Str):vV K H (.str x) (.type "str")
 | UQ (x:UInt64):vV K H (.UQ x) (.type "float")
 | lst {a:Addr} {xs:List V} (e:H a=1#xs):vV K H (.ref a) (.type "list")
 | n9 {a:Addr} {o:Obj} {xs:List V} (e:H a=some (.n9 o (.lst xs))):vV K H (.ref a) (.type "list")
 | tup {a:Addr} {xs:List V} (e:H a=17#xs):vV K H (.ref a) (.type "tuple")
 | dK {a:Addr} {kvs:List (Key×V)} (e:H a=some (.dK kvs)):vV K H (.ref a) (.type "dict")
 | dT {a:Addr} {kvs:212#V} (e:H a=some (.dT kvs)):vV K H (.ref a) (.type "dict")
 | ins {a C dx:Addr} {fs:List (Str×V)} (e:H a=some (.ins C dx fs)) (cl:Zo K C) (ha:PySem.W.findIn K (.ref C) "__class__"=86#(.builtin "object.__class__"))
  (hn:PySem.W.specialIn K (.builtin "object.__class__") "__get__"=86#(.builtin "getset_descriptor.__get__")) (htk:228#(PySem.W.takesIn K (.builtin "object.__class__")))
  (hm:228#(PySem.W.mroIn K C (.type "object"))):vV K H (.ref a) (.ref C)
def Mp(I:5#H)(B:χ x u)(ty:vV X.K H x t)(e:PySem.W.kitOne X.K t c=some b)(h:∀F,Q (.bool b) { s with toks:=F}):
 wpAny 9#0 A (call (.builtin "isinstance") [u,c]) Q E s:=by
 cases ty with
 | eM=>cases(show u=Value.none from B);show G? PySem.W.kitx_none I.qp True.intro e 96#0 h
 | bl y=>cases(show u=Value.bool y from B);show G? PySem.W.kitx_bool I.qp True.intro e 96#0 h
 | int i=>obtain⟨t,q⟩:=(show ∃t,u=Value.int i t from B);cases q;show G? PySem.W.kitx_int I.qp True.intro e 96#0 h
 | str y=>obtain⟨t,q⟩:=(show ∃t,u=Value.str y t from B);cases q;show G? PySem.W.kitx_str I.qp True.intro e 96#0 h
 | UQ y=>obtain⟨t,q⟩:=(show ∃t,u=Value.float y t from B);cases q;show G? PySem.W.kitx_float I.qp True.intro e 96#0 h
 | @lst a f U =>
   cases(show u=194#0 from B)
   show Bf (λ_=>br λ_ n _ R=>?_) (219#(.lst f))
   show G? PySem.W.kitx_list I.qp (af _ R rx) e 96#0 h
 | @n9 a W f U =>
   cases(show u=194#0 from B)
   show dW (λ_ _=>br λ_ n _ R=>?_) (219#(.n9 W (.lst f)))
   show G? PySem.W.kitx_list I.qp (af _ R rx) e 96#0 h
 | @tup a f U =>
   cases(show u=194#0 from B)
   show bK (λ_ _ _ p=>?_) (219#(.tup f))
   revert p;show aG λo R W _=>?_
   show G? PySem.W.kitx_tuple I.qp (af o R W) e 96#0 h
 | @dK a N U =>
   cases(show u=194#0 from B)
   show bG (λ_ _ G _ p=>?_) (219#(.dK N))
   revert p;show bz λo l i R W _=>?_
   show G? PySem.W.kitx_dict I.qp (af o R W.1) e 96#0 h
 | @dT a N U =>
   cases(show u=194#0 from B)
   show bG (λ_ _ f _=>bz λo l i R W _=>?_) (219#(.dT N))
   show G? PySem.W.kitx_dict I.qp (af o R W.1) e 96#0 h
 | @ins a C g N U w W S f d =>
   cases(show u=194#0 from B)
   show aj (λm O _=>?_) (Si I.hok U)
   show aj (λi J _=>?_) O.look
   show G? (PySem.W.kitx_own (w.get _) w.hd W S f d) I.qp J e 96#0 h
end
structure fF(k:Nat)(A:Around):Prop where
 hd:A.handled=none
 dp:A.depth+3*k+5<recursionLimit
 un:A.units+16*k+200<cLine
def fF.mono(r:fF k A)(h:j<=k):fF j A:=⟨r.hd,by have:=r.dp;lia,by have:=r.un;lia⟩
def fF.deeper(r:fF (k+1) A)(env:Env):fF k (A.deeper env) :=
 ⟨r.hd,by have:=r.dp;change A.depth+1+3*k+5<_;lia,by have:=r.un;change A.units+3+16*k+200<_;lia⟩
def fF.in1(r:fF (k+1) A):fF k A.in1 :=
 ⟨r.hd,by have:=r.dp;change A.depth+3*k+5<_;lia,by have:=r.un;change A.units+1+16*k+200<_;lia⟩
def II{A:Around}:(A.under (.builtin "type.__call__" ⟨.ref C::g,a⟩)).depth=A.depth+1:=by
 first | rfl | simp[Around.under,Code.weight,Code.isCreation,Code.isGuard,Code.isCaller,Code.frames,Code.isFrame,guardIds]
def IJ{A:Around}:(A.under (.builtin "type.__call__" ⟨.ref C::g,a⟩)).units=A.units+1:=by
 first | rfl | simp[Around.under,Code.cUnits,Code.frames,Code.isFrame]
def fF.make(r:fF (k+1) A)(C:Addr)(g:82#0)(a:176#Value):fF k (A.under (.builtin "type.__call__" ⟨.ref C::g,a⟩)) :=
 ⟨r.hd,by have:=r.dp;rw[II];lia,by have:=r.un;rw[IJ];lia⟩
def fF.depth(r:fF k A):A.depth<recursionLimit:=by have:=r.dp;lia
def fF.units(r:fF k A):A.units+64<cLine:=by have:=r.un;lia
def fF.IK(r:fF k A):A.units<cLine:=by have:=r.un;lia
def U5:TA:=λ_ H Q=>Q [] H
def Lc(z:TE)(d:TA):TA:=λM H Q=>z M H λx S=>d M S λf Z=>Q (x::f) Z
section
variable {X:Cx}{e:Expr}{es:312#0}{te:TE}{t:TA}{pos:Pos}
def bS:PA X [] U5:=λ_ _ _ _ H Q I h=>Calls.spliced_nil (aq [] H I .nil h)
def aN(W:PE X e te)(P:PA X es t)(l:15#(e::es)=33#e::15#es:=by rfl):PA X (e::es) (Lc te t):=by
 intro pos A s M H Q I h;rw[l];show 59#(spliced (33#e::259#15#es));show Calls.spliced_cons (eg 34#W λu F=>aA λx S T J O=>?_)
 show eg (P pos A F M S _ T O) λg N=>aA λf Z E i a=>?_
 show aq (x::f) Z E (.cons J i) a
def Zp(t:TA):TE:=λM H Q=>t M H λf S=>36#f.length/\∀p,S p=none->Q (.ref p) (η S p (.tup f))
def Zq(t:TA):TE:=λM H Q=>t M H λf S=>36#f.length/\∀p,S p=none->Q (.ref p) (η S p (.lst f))
def cU{x1}(h:PA X es t):PE X (.Tuple es x1 pos) (Zp t):=by
 intro A s M H Q I Y;show wpAny_Tuple_spliced (eg (h pos A s M H _ I Y) λg F=>aS λf S T r z q=>?_)
 show⟨by rw[<-r.length];show z,?_⟩
 have Z:S F.heap.objs.size=none:=319#0;show aq (.ref F.heap.objs.size) (η S F.heap.objs.size (.tup f)) (T.laid (t':=F.toks) (λb u e=>W' _ e) (Ξ _) ?_) rx (q _ Z)
 show b8 z g r (af _ (v! _ rx) (cJ rx _ rx))
def bu(h:PA X es t):PE X (.List es pos) (Zq t):=by
 intro A s M H Q I Y;show wpAny_List_spliced (eg (h pos A s M H _ I Y) λg F=>aS λf S T r z q=>?_)
 show⟨by rw[<-r.length];show z,?_⟩
 have Z:S F.heap.objs.size=none:=319#0;show aq (.ref F.heap.objs.size) (η S F.heap.objs.size (.lst f)) (T.laid (t':=F.toks) (λb u e=>W' _ e) (Ξ _) ?_) rx (q _ Z)
 show aR z g 0 r (v! _ rx)
end
abbrev Sp:=List V->Hp->VK->XK->Prop
abbrev Sk:=List Env->Hp->Shared->XK->227#Value
structure Dv(P:Program)(w:World)(K:bY)(mg:Bg)(base:Heap)(A:Around)(outer:List Env)(s:Shared)(H:Hp):Prop where
 frames:A.frames=some outer
 mod:Mod K mg base
 bs:∀b o,24#base.get?->21#o/\H b=none
 OJ:base.objs.size<=s.heap.objs.size
 funs:s.heap.FunFrames base outer
 OM:∀b∈frs outer,H b=none
 hok:qe P w H s.heap
 bare:AllBare s.gens
def CE(outer:List Env)(P:Program)(w:World)(H:Hp)(s:Shared)(Q:VK)(u:Value)(s' : Shared):Prop :=
 ∃v Y,s'.os=s.os/\AllBare s'.gens/\Un (frs outer) [] H Y s.heap s'.heap/\qe P w Y s'.heap/\χ v u/\Q v Y
def CR(CX:Sk)(outer:List Env)(P:Program)(w:World)(H:Hp)(s:Shared)(Q:VK)(E:XK)(r:Result)(s' : Shared):Prop :=
 match r with
 | .ok (.ret u)=>CE outer P w H s Q u s'
 | .ok _=>False
 | .error e=>CX outer H s E e s'
structure i5(P:Program)(w:World)(K:bY)(mg:Bg)(base:Heap)(CX:Sk)(k:Nat)(f:Addr)(fd:FuncData)(ps:List Str)(sp:Sp):Prop where
 len:∀vs H Q E,sp vs H Q E->vs.length=ps.length
 run:∀(A:Around) (outer:List Env) (s:Shared) (H:Hp) (args:Args) (us:82#0) (vs:List V) (Q:VK) (E:XK),fF k A->Dv P w K mg base A outer s H->BindsTo s fd args (ps.zip us)->υ vs us->sp vs H Q E->
  codeAny (model P w) A (.call (.ref f) args) (CR CX outer P w H s Q E) s
def i5.imp{K:bY}(F:i5 P w K mg base CX k f d Z sp)
 (h:∀G H Q E,a G H Q E->sp G H Q E):i5 P w K mg base CX k f d Z a :=
 ⟨λG H Q E q=>F.len G H Q E (h _ _ _ _ q),λA b s H c g G Q E e n U i l=>F.run A b s H c g G Q E e n U i (h _ _ _ _ l)⟩
def Dv.make{K:bY}(e:Dv P w K mg base A outer s H)(C:Addr)(g:82#0)(a:176#Value):
 Dv P w K mg base (A.under (.builtin "type.__call__" ⟨.ref C::g,a⟩)) outer s H:=⟨by first | show e.frames | (simpa[Around.under,Code.envs,Code.isFrame,pushEnvs]using e.frames),e.mod,e.bs,e.OJ,e.funs,e.OM,e.hok,e.bare⟩
section
variable {X:Cx}{pq:cN}{σ:St}{H:Hp}{s s' : Shared}
def θ.U6(I:5#H):Dv X.prog X.w X.K X.mg X.base X.A X.stack s H :=
 ⟨I.ok.frames,I.ok.mod,I.bs,Ω I.ok.OJ I.sz,I.stack,I.r4,I.hok,I.bare⟩
def θ.after(I:5#H)(h:CE X.stack X.prog X.w H s Q u s'):EP X pq σ Q u s':=by
 revert h;show fX λv Y=>dI λos J j A r q=>?_
 obtain⟨N,g,d,t,a⟩:=s';obtain rfl:a=s.os:=os;show aq v Y (I.call (h':=N) (g':=g) (d':=d) (t':=t) (ch:=[]) j A J (λb z=>absurd z 23#0)) r q
end
def OV(sp:Sp)(a:List V)(E:XK)(t:TA):TE:=λM H Q=>t M H λG S=>sp (G++a) S Q E
def Binds(K:bY)(n:FuncData)(Z:List Str)(ds:82#0):Prop :=
 ∀s g,K.In s.heap->48#(g++ds)=Z.length->BindsTo s n ⟨g,[]⟩ (Z.zip (g++ds))
def Binds.all{K:bY}{Z:List Str}(h:∀g:82#0,g.length=Z.length->bindArgs n ⟨g,[]⟩=pure (Z.zip g)):Binds K n Z []:=λs g _ C=>by
 rw[H?]at C ⊢;show .of_eq (h g C)
def Passes(CX:Sk)(X:Cx)(E:XK):Prop:=∀pq (σ:St) H s e s',5#H->CX X.stack H s E e s'->X.xe e s'
section
variable {X:Cx}{CX:Sk}{k:Nat}{f C:Addr}{fd:FuncData}{ps:List Str}{sp:Sp}{OX:List V}{ds:82#0}{E:XK}{x m:Str}{p pos apos:Pos}{e o:Expr}{es:312#0}{ta:TE}{t:TA}
def OY{A:cN}{M:St}(F:i5 X.prog X.w X.K X.mg X.base CX k f fd ps sp)(P:fF k X.A)(U:Binds X.K fd ps ds)(J:υ OX ds)(O:Passes CX X E)
 (I:282#0) (r:υ G g) (h:sp (G++OX) H Q E):wpAny 9#0 X.A (call (.ref f) g) (EP X A M Q) X.xe s:=by
 have i:υ (G++OX) (g++ds):=r.append J;have C:48#(g++ds)=ps.length:=by rw[<-i.length];show F.len _ _ _ _ h
 show wpAny_call (codeAny_mono (F.run X.A X.stack s H ⟨g,[]⟩ (g++ds) (G++OX) Q E P I.U6 (U s g I.qp C) i h) λr p Y=>?_)
 cases r with
 | error e=>show O A M H s e p I Y
 | ok w =>
   cases w with
   | ret u=>show I.after Y
   | next=>show 213#Y
   | brk=>show 213#Y
   | cont=>show 213#Y
def Ld(F:i5 X.prog X.w X.K X.mg X.base CX k f fd ps sp)(P:fF k X.A)(y:Gl X x)(d:X.mg x=some (.ref f))(B:78#X.K)(U:Binds X.K fd ps ds)(J:υ OX ds)(O:Passes CX X E)
 (W:PA X (e::es) t) (v:198#("__debug__":Str):=by decide) (n:15#(e::es)=33#e::15#es:=by rfl) (b:(259#15#es).any (·.1)=false:=by rfl) :
 PE X (.Call (.Name x p) (e::es) [] pos) (OV sp OX E t):=by
 show 68;show 248#(oh I y d ?_ v);show _H (h₀:=X.base) I.ok.mod.Uj B (eg (275#pos) λg a=>aA λG S T r q=>⟨T.qp,?_⟩) n b
 show OY F P U J O T r q
end
structure g6(N P:List Str)(sc:Scope):Prop where
 kind:sc.kind = .function
 co:sc.isCoroutine=false
 gen:sc.isGenerator=false
 nd:N.Nodup
 pre:N.take P.length=P
 par:∀x∈P,238#(sc.names.lookup x)\/sc.names.lookup x=some .cell
 U7:∀y∈sc.names,y.2≠.free
theorem Cq{kindOf:Str->Option NameKind}:∀{binds} {m},(∀v,(x,v)∉binds)->bindL kindOf binds m x=m x
 | [],_,_=>rfl
 | (n,v)::r,m,h=>by
   unfold bindL;rw[Cq λw j=>h w (sY _ j)]
   split
   .have:x≠n:=by rintro rfl;show h v h!
    simp[this]
   .rfl
theorem Cr{kindOf:Str->Option NameKind}:∀{binds} {m},(∀v,(x,v)∉binds)->bindC kindOf binds m x=m x
 | [],_,_=>rfl
 | (n,v)::r,m,h=>by
   unfold bindC;rw[Cr λw j=>h w (sY _ j)]
   split
   .rfl
   .have:x≠n:=by rintro rfl;show h v h!
    simp[this]
theorem Cs{kindOf:Str->Option NameKind}:∀{P:List Str} {vs} {i:Nat} {m},P.Nodup->P[i]?=some x->vs[i]?=some v->238#(kindOf x)->
 bindL kindOf (P.zip vs) m x=some v
 | [],_,_,_,_,h,_,_=>by simp at h
 | _::_,[],_,_,_,_,h,_=>by simp at h
 | p::P,w::vs,0,m,nd,h1,h2,hk=>by
   simp at h1 h2;subst h1;subst h2;change bindL kindOf ((p,w)::P.zip vs) m p=_;unfold bindL;rw[Cq λv U=>(U!.mp nd).1 (_S U).1,ο hk]
   simp
 | p::P,w::vs,i+1,m,nd,h1,h2,hk=>by
   change bindL kindOf ((p,w)::P.zip vs) m x=_;unfold bindL;show Cs (i:=i) (U!.mp nd).2 (by simpa using h1) (by simpa using h2) hk
theorem Ct{kindOf:Str->Option NameKind}:∀{P:List Str} {vs} {i:Nat} {m},P.Nodup->P[i]?=some x->vs[i]?=some v->kindOf x≠some .local->
 bindC kindOf (P.zip vs) m x=some v
 | [],_,_,_,_,h,_,_=>by simp at h
 | _::_,[],_,_,_,_,h,_=>by simp at h
 | p::P,w::vs,0,m,nd,h1,h2,hk=>by
   simp at h1 h2;subst h1;subst h2;change bindC kindOf ((p,w)::P.zip vs) m p=_;unfold bindC;rw[Cr λv U=>(U!.mp nd).1 (_S U).1,ξ hk]
   simp
 | p::P,w::vs,i+1,m,nd,h1,h2,hk=>by
   change bindC kindOf ((p,w)::P.zip vs) m x=_;unfold bindC;show Ct (i:=i) (U!.mp nd).2 (by simpa using h1) (by simpa using h2) hk
def start(N:List Str)(G:List V):St:=G.map some++83#(N.length-G.length)
def tM(CX:Sk)(P:Program)(w:World)(K:bY)(mg:Bg)(base:Heap)(N:List Str)(j:Str)(scope:Scope)(f:Addr)(cd:Value)(A:Around)(outer:List Env)(s:Shared)(H:Hp)(E:XK):Cx where
 prog:=P
 w:=w
 K:=K
 mg:=mg
 base:=base
 A:=A.deeper (72#cd)
 N:=N
 s₀:=s
 H₀:=H
 env:=72#cd
 outer:=outer
 stack:=72#cd::outer
 ex:=[]
 calm:=true
 fn:=λ_=>true
 pn:=[]
 xe:=λe p=>wpAny (model P w) (A.deeper (72#cd)) (leaving (72#cd) e) (λ_ a=>CX outer H s E e a) (λb a=>CX outer H s E b a) p
def FH{y:Scope}(h:y.names.lookup x=some .cell):∃c,(cellsFrom n y.names []).lookup x=some c:=by
 have q:=adf y.names n [] (.inl h);show Option.isSome_iff_exists.mp q
def Cu{K:bY}{A:Around}{G:List V}
 (S:g6 N Z scope) (J:A.handled=none) (T:Dv P w K mg base A outer s H) (C:G.length=Z.length) (r:υ G g)
 (x:InCallC s s.heap.objs.size (bindL (72#cd).kindOf (Z.zip g) λ_=>none) (cellsFrom (119#0) scope.names []) (bindC (72#cd).kindOf (Z.zip g) λ_=>none) F) :
 θ (299#cd) [] (start N G) H F:=by
 have I:Z.length<=N.length:=by have:=k! List.length S.pre;rw[O!]at this;lia
 show br (λR L l B=>?_) x.done;subst l
 have d:∀b:Addr,b∉(299#cd).ex:=λb z=>absurd (show b∈([]:183#0) from z) 23#0
 show⟨⟨T.mod,S.kind,rfl,rfl,Ξ _,λy z c R W=>?_,λy X=>?_,λy c _ h=>?_,λ_=>J,Around.frames_deeper T.frames,.inr ⟨rfl,rfl⟩,λb z=>absurd z (d b),T.bs,T.OJ,λb _ _=>d b,λb z=>absurd z (d b),T.funs,T.OM⟩,
  rfl,T.bare,Un.kept B,af _ x.toInCall.ns λi y v R W M=>?_,λy c h=>⟨_,x.cell y c h⟩,319#0,λy c h=>?_,λp t=>absurd (show p∈([]:cN) from t) 23#0,T.hok.kept B,?_⟩
 .show name_of_addr x.apart (F? R) (F? W)
 .have X:76#y=some .cell\/76#y=some .free:=X;rcases X with X|X
  .show FH X
  .show absurd rx (S.U7 _ (F? X))
 .show j? (x.above y c (F? h))
 .have Y:i<G.length:=by
   unfold start at W
   by_cases Y:i<G.length
   .show Y
   .rw[J? (by simpa using Y)]at W
    rw[Q_]at W
    split at W<;>cases W
  have o:G[i]?=some v:=by
   unfold start at W;rw[B? (by simpa using Y),j!]at W
   cases e:G[i]? with
   | none=>rw[e]at W;cases W
   | some a=>rw[e]at W;cases W;rfl
  show aj (λu m D=>?_) (r.get o)
  have t:Z[i]?=some y:=by
   rw[<-S.pre,List.getElem?_take_of_lt (by lia)];show R
  have a:Z.Nodup:=by rw[<-S.pre];show S.nd.sublist (List.take_sublist _ _)
  show af u D ?_;rcases S.par y (iu t) with k|k
  .show .inl ⟨k,Cs a t m k⟩
  .obtain⟨c,e⟩:=FH (n:=119#0) k;show .inr (b8 (.inl k) c e ?_);have q:=x.cell y c e;rw[Ct a t m (by change 76#y≠_;rw[k];decide)]at q
   show q
 .show T.hok.fresh (j? (x.above y c (F? h)))
 .unfold start;change _=N.length;rw[U',Δ,R?]
  lia
def Le{K:bY}{a kV m z i ct oc:Value}
 (c:283#⟨oc,W,.func (PySem.W.fnOf name j h R scope a kV m z M i ct),b⟩) (B:PySem.W.codeIn K i j=true) (S:g6 N Z scope)
   (len:125#Z.length)
   (O:∀A outer s H G Q E,fF k (A.deeper (72#i))->sp G H Q E->
    89#(tK (299#i) R t)) :
   i5 P w K mg base CX (k+1) f (PySem.W.fnOf name j h R scope a kV m z M i ct) Z sp:=by
  show⟨len,λA outer s H b g G Q E a T U r h=>?_⟩
  have C:=len _ _ _ _ h;have L:K.In s.heap:=T.mod.Uj.keeps λb o e=>(T.bs b o e).1
  have l:s.heap.NoLimit:=T.mod.nolimit.keeps λb o e=>(T.bs b o e).1
  have d:∀y∈Z.zip g,238#76#y.1\/(76#y.1=some .cell/\((cellsFrom (119#0) scope.names []).lookup y.1).isSome=true):=λ⟨n,v⟩ X=>by
   rcases S.par n (_S X).1 with q|q
   .show .inl q
   .show .inr ⟨q,adf _ _ _ (.inl q)⟩
  show codeAny_call_function a.depth (L _ _ c) rx S.co S.gen rx (PySem.W.codeRec_of L B) (U _ _ _ _ ?_);show wpAny_newFunctionEnv_cells S.kind d λc b F x=>?_
  subst b;show⟨l.keeps x.toInCall.keep,codeAny_func ?_⟩;show aj (λt d b=>?_) (O A outer s H G Q E (a.deeper _) h)
  have I:θ (299#i) [] (start N G) H F:=Cu S a.hd T C r x;show c! (d [] F (start N G) H _ I b) (λc p l=>?_) λe p l=>l
  have a:∀{b:St} {Y:Hp} {v:V} {u:Value},θ (299#i) [] b Y p->χ v u->Q v Y->CE outer P w H s Q u p :=
   λ{b Y v u} J D q=>aV v Y J.os (dF J.bare J.base J.hok D q)
  cases c with
  | ret u =>
    revert l;show bz λv b Y J D q=>?_
    show a J D q
  | next =>
    revert l;show br λb Y J q=>?_
    show a (v:=V.eM) (u:=Value.none) J rx q
  | brk =>
    revert l;show br λ_ _ _ q=>?_
    show 213#q
  | cont =>
    revert l;show br λ_ _ _ q=>?_
    show 213#q
section
variable {X:Cx}{x:Str}{p pos:Pos}{e:Expr}{es:312#0}{t:TA}{id T:String}{r:81#(List V)}
def Zr(r:81#(List V))(t:TA):TE:=λM H Q=>t M H λG S=>r G S Q
def bI(L:fW X (.builtin id) r)(y:Gl X x)(d:X.mg x=none)(U:bootBuiltins x=some (.builtin id))(W:PA X (e::es) t)(a:x≠"__name__":=by decide)(v:198#("__debug__":Str):=by decide)
 (n:15#(e::es)=33#e::15#es:=by rfl) (b:(259#15#es).any (·.1)=false:=by rfl):PE X (.Call (.Name x p) (e::es) [] pos) (Zr r t):=by
 show 68;show 248#(k7 I y d U ?_ a v);show PyProof.Rows.callWith_builtin1 (eg (275#pos) λg F=>aA λG S T J O=>L A F M S G g Q T J O) n b
def bx(L:fW X (.type T) r)(y:Gl X x)(d:X.mg x=none)(U:bootBuiltins x=some (.type T))(W:PA X (e::es) t)(c:x≠"__name__":=by decide)(v:198#("__debug__":Str):=by decide)
 (n:15#(e::es)=33#e::15#es:=by rfl) (b:(259#15#es).any (·.1)=false:=by rfl):PE X (.Call (.Name x p) (e::es) [] pos) (Zr r t):=by
 show 68;show 248#(k7 I y d U ?_ c v);show y_ (eg (275#pos) λg F=>aA λG S a J O=>L A F M S G g Q a J O) n b
end
end L2
namespace HT
open PySem PyProof.Rows
noncomputable def lexLt:List Int->List Int->Bool
 | [],[]=>false
 | [],_::_=>true
 | _::_,[]=>false
 | x::xs,y::ys=>if x=y then lexLt xs ys else decide (x<y)
def lu(x y:Int)(xs ys:List Int):lexLt (x::xs) (y::ys)=if x=y then lexLt xs ys else decide (x<y):=rfl
def s9:lexLt [] []=false:=rfl
def zb(y:Int)(ys:List Int):lexLt [] (y::ys)=true:=rfl
def i7(x:Int)(xs:List Int):lexLt (x::xs) []=false:=rfl
def FI(A:Around)(s:Shared)(a:Int)(t:Tok)(c:Int)(u:Tok):∃e,SeqAt.EqAt A s (.int a t) (.int c u) e/\(e=true↔a=c) :=
 (af (a==c) (SeqAt.EqAt.int_int a t c u) 23#0)
def OZ(A:Around)(s:Shared)(a:Int)(t:Tok)(c:Int)(u:Tok)(prog:Program)(w:World)(E:kj)(Q:kj)(h:Q (.bool (decide (a<c))) s):
 60#(richCompare .Lt (.int a t) (.int c u)) :=
 (PyProof.Rows.lt_int h:60#(compareOp .Lt (.int a t) (.int c u)))
section
open PySem.SeqAt
open PySem.AutoSeq1 (wpAny_loadPart')
open PySem.MeetsSeq PySem.MeetsSeq2 PySem.MeetsSeq3
def Bj(l b:Addr)(f B:Array Value)(n M:Nat)(dd I:129#0)(T N:165#0)(ns z:List Int)(Y:IntsAre f.toList ns)(J:IntsAre B.toList z):
 Meets (Builtin.«tuple.__lt__» ⟨[.ref l,.ref b],[]⟩)
  (λ_ R s=>s.heap.get? l=some { cls:=.type "tuple",dict:=dd,data:=.seq f n,slots:=T}/\21#{ cls:=.type "tuple",dict:=I,data:=.seq B M,slots:=N}/\
   R (196#(.bool (lexLt ns z))) s) :=
 .of_wp λH w A R s h=>by
  obtain⟨n,g,d,F,os⟩:=s;revert h;show dW λC U h=>?_
  have a:=AutoSeq1.sub_tuple_tuple;have a:f.size=ns.length:=by rw[<-Y.length];simp
  have a:B.size=z.length:=by rw[<-J.length];simp
  wp_walk using 203#C,203#U,wpAny_forIn_list _ (λL b p=>b.1=none/\p=197#n/\∃(G k:82#0) (l v:List Int),L=G.zip k/\
   IntsAre G l/\IntsAre k v/\l.length+B.size=v.length+f.size/\R (196#(.bool (lexLt l v))) 197#n) _
  case turn =>
   intro W L b p;show dW λr Q=>dX λG=>bV λk l v m E o i D=>?_;obtain⟨y,x⟩:=W;subst Q
   cases E with
   | nil=>rw[List.zip_nil_left]at m;cases m
   | cons a t j =>
     cases o with
     | nil=>rw[List.zip_nil_right]at m;cases m
     | cons c u q =>
       rw[List.zip_cons_cons]at m;injection m with Z S
       injection Z with X O
       subst X O;rw[lu]at D;simp only[y!]at i;show aj (λe b P=>?_) (FI A.in1 197#n a t c u)
       show 135#(b H w _ _ ?_);cases e with
       | true =>
         rw[ο (P.mp rx)]at D
         wp_walk
         show bj rx rx (bH _ _ _ _ S j q (by lia) D)
       | false =>
         rw[ξ (λq=>absurd (P.mpr q) n!)]at D
         have b:=OZ A.in1 197#n a t c u H w
         wp_walk using b
         show af _ rx (by simpa using D)
  case fin =>
   intro q p;show dW λr e=>dX λG=>bV λk l v m E o i D=>?_;obtain⟨y,O⟩:=q;subst e
   simp only at r;subst r;have x:lexLt l v=11#(f.size<B.size):=by
    cases E with
    | nil =>
      cases o with
      | nil =>
        simp only[f_]at i;rw[s9];show(fV (by lia)).symm
      | cons c u j =>
        simp only[f_,y!]at i;rw[zb];show(eK (by lia)).symm
    | cons a t x =>
      cases o with
      | nil =>
        simp only[f_,y!]at i;rw[i7];show(fV (by lia)).symm
      | cons c u j =>
        rw[List.zip_cons_cons]at m;cases m
   rw[x]at D
   wp_walk
   show af _ rx (by simpa[Builtin.Tuple.tupleCompareSizes]using D)
  case h =>
   show bj rx rx (bH f.toList B.toList ns z rx Y J (by lia) h)
end
section
variable {prog:Program}{w:World}{A:Around}{E:kj}{s:Shared}
def IL(C:IsTup s.heap l f)(U:IsTup s.heap b B)(Y:IntsAre f.toList ns)(e:IntsAre B.toList z)
 (G:A.units<cLine) (h:Q (.bool (lexLt ns z)) s):60#(compareOp .Lt (.ref l) (.ref b)):=by
 show dO (λa j L n J=>?_) (id C);obtain⟨R,p,W,T⟩:=a
 show dO (λc d y M H=>?_) (id U);obtain⟨F,I,data2,N⟩:=c
 simp only at L J y H;subst L J y H;show richCompare_meets_room (op:=.Lt) (af _ j rx) (af _ d rx) PySem.F.slot_tuple_lt PySem.F.entry_tuple_lt (PySem.F.args_tuple_lt_2 _ _) (Bj l b f B n M p I T N ns z Y e)
  (bj j d (show Value.bool (lexLt ns z)≠Value.notImplemented/\Q (.bool (lexLt ns z)) s from⟨(λx=>nomatch x),h⟩)) G
noncomputable def ig(n d:Nat):190#0->Nat
 | none=>d
 | some v=>if v<0 then(v+(n:Int)).toNat else min v.toNat n
def uO(n d:Nat):ig n d none=d:=rfl
def r7(n d k:Nat):ig n d (some (k:Int))=min k n:=by
 change(if(k:Int)<0 then((k:Int)+(n:Int)).toNat else min (k:Int).toNat n)=min k n
 rw[ξ (by lia),l!]
def U8(n d:Nat)(J:d<=n)(o:190#0):ig n d o<=n:=by
 cases o with
 | none=>show J
 | some v =>
   change(if v<0 then(v+(n:Int)).toNat else min v.toNat n)<=n
   by_cases U:v<0
   .rw[ο U];lia
   .rw[ξ U];show Nat.min_le_right _ _
def Lf(v:Int)(n d:Nat):(if v<0 then max (v+(n:Int)) 0 else min v (n:Int))=7#(ig n d (some v)):=by
 change(if v<0 then max (v+(n:Int)) 0 else min v (n:Int))=7#(if v<0 then(v+(n:Int)).toNat else min v.toNat n)
 by_cases U:v<0
 .simp only[ο U];lia
 .simp only[ξ U];lia
def IM(lo Y:190#0)(n:Nat):Builtin.Slice.sliceAdjust lo Y 1 (n:Int)=(7#(ig n 0 lo),7#(ig n n Y)):=by
 have R : ¬((1:Int)<0):=by lia
 unfold Builtin.Slice.sliceAdjust;simp only[R,if_false];show Prod.ext ?_ ?_
 .cases lo with
  | none=>rfl
  | some v=>show Lf v n 0
 .cases Y with
  | none=>rfl
  | some v=>show Lf v n n
def IP(i j:Nat):Builtin.Slice.slicePlaces (i:Int) (j:Int) 1=j-i:=by
 unfold Builtin.Slice.slicePlaces;have R:(1:Int) > 0:=by lia
 simp only[R,if_true,Int.ediv_one]
 split<;>lia
def zc(p:IsPart v o)(h:Q o s):60#(Builtin.Slice.slicePartIndex v):=by
 cases p with
 | none=>show slicePart_none h
 | int i t=>show slicePart_int h
def nM{lo Y:190#0}{n:Nat}(l:s.heap.IsSliceOf T D p .none)(pl:IsPart D lo)(c:IsPart p Y)
 (h:Q (7#(ig n 0 lo),1,ig n n Y-ig n 0 lo) s):60#(Builtin.Slice.sliceApplied (.ref T) (pure (n:Int))):=by
 show aG (λos b u a=>?_) (id l)
 unfold Builtin.Slice.sliceApplied Builtin.Slice.sliceFields;show 135#(wpAny_bind (wpAny_field b a (x:=D) rx (wpAny_bind (wpAny_field b a (x:=p) rx (wpAny_bind (wpAny_field b a (x:=.none) rx (Θ ?_)))))));show 135#(slicePart_none ?_);show 59#237#((1:Int)==0)
 rw[ξ 3#0]
 show 135#(zc pl (wpAny_bind (zc c (wpAny_bind (Θ ?_)))));show 59#(match Builtin.Slice.sliceAdjust lo Y 1 (n:Int) with | (lo,Y)=>pure (lo,(1:Int),Builtin.Slice.slicePlaces lo Y 1))
 rw[IM lo Y n];show 59#(pure (7#(ig n 0 lo),(1:Int),Builtin.Slice.slicePlaces 7#(ig n 0 lo) 7#(ig n n Y) 1));rw[IP];show Θ h
def O0(xs:Array Value)(i k:Nat):((31#k).filterMap λ(m:Nat)=>xs[((i:Int)+(m:Int)*1).toNat]?).toArray=((xs.toList.drop i).take k).toArray:=by
 have e:(λ(m:Nat)=>xs[((i:Int)+(m:Int)*1).toNat]?)=λm=>xs[i+m]?:=by
  funext m
  have:((i:Int)+(m:Int)*1).toNat=i+m:=by lia
  rw[this]
 rw[e];have:=pick_run xs i k;rw[List.filterMap_map]at this;have D:((λx=>xs[x]?)∘λx=>i+x)=λm=>xs[i+m]?:=rfl
 rw[D]at this;rw[this]
def mw{lo Y:190#0}(d:IsTup s.heap t f)(l:s.heap.IsSliceOf T D p .none)(pl:IsPart D lo)(c:IsPart p Y)
 (j : ¬(ig f.size 0 lo=0/\ig f.size f.size Y=f.size))
 (h:Q (22#.ref) { s with heap:=174#{ cls:=.type "tuple",data:=.seq ((f.toList.drop (ig f.size 0 lo)).take (147#Y)).toArray}})
 (hsz:36#f.size):60#(getItem (.ref t) (.ref T)):=by
 have e:sizeOk (.seq ((f.toList.drop (ig f.size 0 lo)).take (147#Y)).toArray):=by
  change 36#((f.toList.drop (ig f.size 0 lo)).take (147#Y)).toArray.size;rw[u!,O!,J_,G_]
  lia
 have J:ig f.size f.size Y<=f.size:=U8 _ _ (Ξ _) Y;show aG (λos b u a=>?_) (id l)
 have g:s.TypeIs (.ref T) "slice":=af os b u;unfold getItem
 try with_reducible show t! ?_
 first | show 135#(Θ ?_) | skip
 show 135#(wpAny_sequenceKey d.typeIs 3#0 ?_)
 show wpAny_bind (wpAny_callSpecial?_slot (name:=Str.ofString "__getitem__") d.typeIs x_
  (wpAny_call_entry x_ d.typeIs entry_tuple_getitem ?_ (args_tuple_getitem _ _)))
 show 59#(Builtin.Tuple.tupleItemsOf (.ref t) >>= _);show 135#(tupleItemsOf_ d ?_);show 135#(wpAny_typeOf g ?_);rw[ο 3#0]
 show 135#(nM l pl c ?_);have x : ¬((7#(ig f.size 0 lo)==0&&(1:Int)==1&&(147#Y)==f.size)=true):=by
  intro q;rw[H!,H!]at q;have O:7#(ig f.size 0 lo)=0:=eq_of_beq q.1.1;have P:147#Y=f.size:=eq_of_beq q.2;show j 178#0
 show 59#237#(7#(ig f.size 0 lo)==0&&(1:Int)==1&&(147#Y)==f.size)
 rw[ξ x,O0]
 first
  | show 195#(Θ (af _ rfl (Θ h)))
  | show 195#(135#(Θ (Θ ⟨_,rfl,Θ h⟩)))
  | show 135#(195#(Θ (Θ ⟨_,rfl,Θ h⟩)))
  | show 135#(195#(Θ ⟨_,rfl,Θ h⟩))
end
end HT
namespace L2
open PySem PySem.Spec PyProof.Rows
abbrev TO:=St->Hp->(190#0->Hp->Prop)->Prop
def PO(X:Cx)(e:Option Expr)(t:TO):Prop :=
 ∀pq s (σ:St) H Q,5#H->t σ H Q->
   wpAny 9#0 X.A (evalPart e X.env) (λu p=>∃o Y,θ X pq σ Y p/\IsPart u o/\Q o Y) X.xe s
def Sl:TO:=λ_ H Q=>Q none H
def W6(t:TE):TO:=λM H Q=>t M H λx S=>∃i,x = .int i/\Q (some i) S
def intsAre_of{ns:List Int}:∀{g},υ 264#0 g->IntsAre g ns:=by
 induction ns with
 | nil=>intro g r;rw[List.map_nil]at r;cases r;show .nil
 | cons n ns E =>
   intro g r;rw[w!]at r;cases r with
   | cons J i =>
     obtain⟨t,e⟩:=J;subst e;show .cons n t (E i)
section
variable {X:Cx}{e:Expr}{te:TE}{lo hi:Option Expr}{tl th:TO}{pos p2:Pos}
def fu:PO X none Sl:=by
 show 68;rw[evalPart_none];show Θ (aq none H I .none h)
def eB(h:PE X e te):PO X (some e) (W6 te):=by
 intro A s M H Q I j;rw[evalPart_some];show eg (h A s M H _ I j) λu F=>aA λx S T J O=>?_
 revert O;show aj λi a q=>?_;subst a
 obtain⟨t,rfl⟩:=J;show aq (some i) S T (.int i t) q
def U9(X:Cx)(r:V->190#0->81#(190#0)):Prop :=
 ∀pq s (σ:St) H x v vl vu lo hi sl Q,5#H->χ x v->s.heap.IsSliceOf sl vl vu .none->IsPart vl lo->IsPart vu hi->r x lo hi H Q->
   ∃T id,typeLookup (.type T) "__getitem__"=pure (some (.builtin id))/\s.TypeIs v T/\105#(getItem v (.ref sl))
def tSl(r:V->190#0->81#(190#0))(te:TE)(tl th:TO):TE:=λM H Q=>te M H λx S=>tl M S λl Z=>th M Z λu w=>r x l u w Q
def dH(P:U9 X r)(n:PE X e te)(C:PO X lo tl)(G:PO X hi th):PE X (.Subscript e (.Slice lo hi none p2) pos) (tSl r te tl th):=by
 show 68;show Subscript_ (eg 34#n λv F=>aA λx S i J O=>?_)
 show wpAny_Slice (eg (C A F M S _ i O) λD N=>aA λl Z E j k=>?_)
 show eg (G A N M Z _ E k) λp a=>aA λu w B c g=>?_
 rw[evalPart_none];show Θ ?_;have f:θ X A M w { a with heap:=a.heap.push { cls:=.type "slice",data:=.fields #[D,p,.none]}}:=B.kept (t':=a.toks) λb W q=>W' _ q
 show aA (λT id t d y=>?_) (P A { a with heap:=a.heap.push { cls:=.type "slice",data:=.fields #[D,p,.none]}} M w x v D p l u a.heap.objs.size Q f J (Heap.IsSliceOf.new ..) j c g)
 change wpAny 9#0 X.A (subscriptTail e (.Slice lo hi none p2) v (.ref a.heap.objs.size)) (EP X A M Q) X.xe { a with heap:=a.heap.push { cls:=.type "slice",data:=.fields #[D,p,.none]}}
 show tail_any (ops:=[.ref a.heap.objs.size,v]) d t y (88#0)
def l7(xs:List V)(lo hi:190#0):List V:=(xs.drop (HT.ig xs.length 0 lo)).take (HT.ig xs.length xs.length hi-HT.ig xs.length 0 lo)
def qz(xs:List V)(lo hi:190#0):48#(l7 xs lo hi)<=xs.length:=by
 unfold l7;rw[O!,J_]
 lia
def W7(K:bY):V->190#0->81#(190#0):=λx lo hi H Q=>∃a f,x = .ref a/\aZ K H a f/\
 ¬(313#0=0/\HT.ig f.length f.length hi=f.length)/\∀p,H p=none->Q (.ref p) (η H p (.tup (l7 f lo hi)))
def Va:U9 X (W7 X.K):=by
 intro A s M H x v D p lo hi T Q I B l P c h
 revert h;show aS λa f e O j q=>?_;subst e
 cases B;show aG (λg r d m=>?_) (I.tuple O)
 have i:g.toArray.size=f.length:=by rw[u!];show r.length.symm
 show aq "tuple" _ x_.lookup d.typeIs ?_;show HT.mw d l P c (by rw[i];show j) ?_ (by rw[i];show m)
 rw[i];show aq (22#.ref) _ (I.laid (t':=s.toks) (o:=.tup (l7 f lo hi)) (λb W q=>W' _ q) (Ξ _) ?_) rx (q _ (270#(Ξ _)))
 show b8 (Ω (qz f lo hi) m) _ ((r.drop (313#0)).take (HT.ig f.length f.length hi-313#0)) (IsTup.new _ _)
end
noncomputable def Lg(n:Nat)(i:Int):Option Nat:=if 0<=i then(if i<n then some i.toNat else none) else if -(n:Int)<=i then some (i+n).toNat else none
def vW{m:Type}(xs:List m)(i:Int):Option m:=(Lg xs.length i).bind λj=>xs[j]?
def Lh(h:Lg n i=some j):seqIndex? i n=some j/\j<n/\-(n:Int)<=i/\i<n:=by
 unfold Lg at h
 by_cases F:0<=i
 .rw[ο F]at h
  by_cases R:i<n
  .rw[ο R]at h;have e:i.toNat=j:=26#h;show iI (by rw[seqIndex_of F R,e]) (by lia) (by lia) R
  .rw[ξ R]at h;cases h
 .rw[ξ F]at h
  by_cases R : -(n:Int)<=i
  .rw[ο R]at h;have e:(i+n).toNat=j:=26#h;show iI (by rw[seqIndex_neg (by lia) R,e]) (by lia) R (by lia)
  .rw[ξ R]at h;cases h
def Dw(h:vW xs i=some v):∃j,seqIndex? i xs.length=some j/\xs[j]?=some v/\j<xs.length/\-(xs.length:Int)<=i/\i<xs.length:=by
 unfold vW at h;cases e:Lg xs.length i with
 | none=>rw[e]at h;cases h
 | some j =>
   rw[e]at h;show mj (λR W M T=>?_) (Lh e)
   show j3 j R h W M T
def aE{xs:List m}{j:Nat}{v:m}(h:xs[j]?=some v):vW xs (j:Int)=some v:=by
 have J:j<xs.length:=(k6.mp h).1;have e:Lg xs.length (j:Int)=some j:=by
  unfold Lg;rw[ο (by lia),ο (by lia)];simp
 unfold vW;rw[e];show h
def O1(xs:List m)(v:m):vW (xs++[v]) (-1)=some v:=by
 have C:48#(xs++[v])=xs.length+1:=by simp
 have e:Lg 48#(xs++[v]) (-1)=some xs.length:=by
  unfold Lg;rw[C,ξ 3#0,ο (by lia)]
  congr 1
  lia
 unfold vW;rw[e];change(xs++[v])[xs.length]?=some v;simp
def Li(b:Expr):Prop:=∀o i,subscripted b false o i=operate [o,i] (getItem o i)
def Lj(X:Cx)(r:R2):Prop :=
 ∀value slice pq s (σ:St) H x y v u Q,5#H->χ x v->χ y u->r x y H Q->
   subscripted slice false v u=operate [v,u] (getItem v u)->105#(subscriptTail value slice v u)
def W8(X:Cx)(id:String)(r:V->81#(List V)):Prop :=
 ∀pq s (σ:St) H x xs v us Q,5#H->χ x v->υ xs us->r x xs H Q->
   105#(call (.builtin id) (v::us))
section
variable {X:Cx}{a b:Expr}{ta tb:TE}{pos:Pos}
def Lj.or(h:Lj X r)(h' : Lj X G):Lj X (λx y H Q=>r x y H Q\/G x y H Q):=by
 intro e d A s M H x y v u Q I B c q l;rcases q with q|q
 .show h e d A s M H x y v u Q I B c q l
 .show h' e d A s M H x y v u Q I B c q l
def W9(P:Lj X r)(W:PE X a ta)(U:PE X b tb)(l:Li b):PE X (.Subscript a b pos) (UZ r ta tb):=by
 show 68;show Subscript_ (U0 W U I h λv u N x y Z E B c q=>P a b A N M Z x y v u Q E B c q (l _ _))
def Sm(K:bY):R2:=λx y H Q=>∃p f i v,x = .ref p/\y = .int i/\aK K H p f/\vW f i=some v/\Q v H
def Sn(K:bY):R2:=λx y H Q=>∃p f i v,x = .ref p/\y = .int i/\aZ K H p f/\vW f i=some v/\Q v H
def Vb:R2:=λx y H Q=>∃z i c,x = .str z/\y = .int i/\36#z.length/\vW z.cps.toList i=some c/\Q (.str ⟨#[c]⟩) H
def Ll:Lj X (Sm X.K):=by
 intro e d A s M H x y v u Q I B c h l
 revert h;show dX λp=>bV λf i z E o Y n q=>?_;subst E o
 cases B;obtain⟨t,rfl⟩:=c;show 120#(λg r P m=>?_)
 show dX (λj=>kG λR W L T b=>?_) (Dw n)
 show aj (λw k D=>?_) (r.get W)
 have C:=r.length;have S:=qy;have a:EP X A M Q w s:=aq z H I D q
 by_cases F:0<=i
 .have J:i.toNat=j:=by
   rw[seqIndex_of F b]at R;show 26#R
  show item_listR P.isList F (by lia) (by rw[J];simpa using k) a l
 .have J:(i+(g.toArray.size:Int)).toNat=j:=by
   rw[seqIndex_neg (by lia) T]at R
   rw[u!,<-C];show 26#R
  show subscriptTail_builtinR (x:=w) P.isList.typeIs slot_list_getitem.lookup
   (wpAny_getItem_list_neg (Q:=λr G=>r=w/\EP X A M Q r G) P.isList (by lia) (by rw[u!]<;>lia) (by lia) (by rw[J];simpa using k) ⟨rfl,a⟩) l
def O2:Lj X (Sn X.K):=by
 intro e d A s M H x y v u Q I B c h l
 revert h;show dX λp=>bV λf i z o E Y n q=>?_;subst o E
 cases B;obtain⟨t,rfl⟩:=c;show aG (λg r P m=>?_) (I.tuple Y)
 show dX (λj=>kG λR W G T b=>?_) (Dw n)
 show aj (λw k D=>?_) (r.get W)
 have C:=r.length;have S:=qy;have a:EP X A M Q w s:=aq z H I D q;show subscriptTail_builtinR (x:=w) P.typeIs slot_tuple_getitem.lookup
  (getItem_tuple (j:=j) (Q:=λr F=>r=w/\EP X A M Q r F) P (by lia) (by lia) (by rw[u!,<-C];show R) (91#0) ⟨rfl,a⟩) l
def O3:Lj X Vb:=by
 intro e d A s M H x y v u Q I B k h l
 revert h;show bV λz i c f a m n q=>?_;subst f a
 show 71;obtain⟨Z,rfl⟩:=k;show dX (λj=>kG λR W o T b=>?_) (Dw n)
 have C:z.cps.toList.length=z.length:=205#0
 rw[C]at R T b;have S:=qy;show tail_any (typeIs_str s z t) slot_str_getitem.lookup (getItem_str (c:=c) (by
  have g:11#(i < -(2^63:Int))=false:=fV (by lia)
  have D:11#(i ≥ 2^63)=false:=fV (by lia)
  rw[g,D,Bool.or_false]) (by rw[R];simpa using W) (113#(.str ⟨#[c]⟩))) l
def Zs(K:bY):R2:=λx y H Q=>Sm K x y H Q\/Sn K x y H Q\/Vb x y H Q
def Vc:Lj X (Zs X.K):=Ll.or (O2.or O3)
def IQ(g:82#0)(n j:Nat)(u:Value):Obj.mapSeq (·.setIfInBounds j u) 292#(.type "list")={ cls:=.type "list",data:=.seq (g.set j u).toArray n}:=by
 simp[Obj.mapSeq]
def θ.lst{A:cN}{M:St}{H:Hp}{s:Shared}{p:Addr}{xs:List V}(I:282#0)(h:H p=1#xs):
 ∃g n,υ xs g/\s.heap.get? p=some 292#(.type "list")/\36#xs.length:=by
 show Bf (λz=>br λg n r e=>?_) (I.hok p _ h)
 show aq g n r e z
def θ.Vd{A:cN}{M:St}{g its' : 82#0}(I:282#0)(h:H p=1#xs)
 (j:s.heap.get? p=some 292#(.type "list")) (Z:f 292#(.type "list")={ cls:=.type "list",data:=.seq its'.toArray C}) (r:υ ys its') (hz:36#ys.length) (t:Nat) :
 θ X A M (η H p (.lst ys)) { s with heap:=s.heap.update p f,toks:=t}:=by
 have e:(s.heap.update p f).get? p=some { cls:=.type "list",data:=.seq its'.toArray C}:=by
  rw[D? f j (by rw[Z]<;>rfl),Z]
 show I.write (x:=p) (e:=p) (by rw[h];trivial) (.inl rx) (λb u U q=>(n? _ _ (e! U)).trans q) ⟨_,e⟩ ?_
 show aR hz its' C r e
def Xa:V->V->V->Hp->(Hp->Prop)->Prop:=λo i v H Q=>∃p f k j,o = .ref p/\i = .int k/\H p=some (.lst f)/\Lg f.length k=some j/\Q (η H p 66#(f.set j v))
def set_list:UW X Xa:=by
 intro A s M H o i v L y u Q I c a D h
 revert h;show dX λp=>bV λf k j e d x J q=>?_;subst e d
 cases c;obtain⟨t,rfl⟩:=a;show aA (λg n r l m=>?_) (I.lst x)
 show mj (λR W w T=>?_) (Lh J)
 have C:=r.length;have S:=qy;have b:θ X A M (η H p 66#(f.set j v)) { s with heap:=s.heap.update p (Obj.mapSeq (·.setIfInBounds j u))} :=
  I.Vd x l (IQ g n j u) (r.set D j) (by rw[M?];show m) s.toks
 by_cases F:0<=k
 .have B:k.toNat=j:=by
   rw[seqIndex_of F T]at R;show 26#R
  show PySem.W.ki_setAt l F (by lia) (by rw[u!,<-C];show T) (by rw[B];show af _ b q)
 .have B:(k+(g.toArray.size:Int)).toNat=j:=by
   rw[seqIndex_neg (by lia) w]at R
   rw[u!,<-C];show 26#R
  show PySem.W.ki_setBack l (by lia) (by rw[u!,<-C];show w) (by lia) (by rw[B];show af _ b q)
def Dy(lo Y:190#0)(n:Nat):(sliceBounds lo Y none n).1=7#(HT.ig n 0 lo)/\(sliceBounds lo Y none n).2.1=7#(HT.ig n n Y)/\(sliceBounds lo Y none n).2.2=1:=by
 show bj ?_ ?_ rfl
 .cases lo with
  | none=>simp[sliceBounds,HT.ig]
  | some i =>
    simp only[sliceBounds,HT.ig,Option.getD_none,show(1:Int) > 0 by decide,if_true]
    by_cases h:i<0
    .simp only[h,if_true]<;>lia
    .simp only[h,if_false]<;>lia
 .cases Y with
  | none=>simp[sliceBounds,HT.ig]
  | some i =>
    simp only[sliceBounds,HT.ig,Option.getD_none,show(1:Int) > 0 by decide,if_true]
    by_cases h:i<0
    .simp only[h,if_true]<;>lia
    .simp only[h,if_false]<;>lia
def Bk(g:82#0)(lo Y:190#0):slicePick g.toArray lo Y none=((g.drop (HT.ig g.length 0 lo)).take (HT.ig g.length g.length Y-HT.ig g.length 0 lo)).toArray:=by
 show dW (λR W M=>?_) (Dy lo Y g.toArray.size)
 unfold slicePick;rw[R,W,M];simp only[sliceRange_one,pick_run,u!]<;>rfl
def Xb(K:bY):V->190#0->81#(190#0):=λx lo Y H Q=>∃a f,x = .ref a/\aK K H a f/\∀p,H p=none->Q (.ref p) (η H p 66#(l7 f lo Y))
def So:U9 X (Xb X.K):=by
 intro A s M H x v D p lo Y T Q I B l P c h
 revert h;show aA λa f e O q=>?_;subst e
 cases B;show aG (λg r d m=>?_) (I.list O)
 have i:=r.length;show aq "list" _ slot_list_getitem.lookup d.isList.typeIs ?_;show wpAny_getItem_list_slice d.isList l P c .none 23#0 ?_ (by rw[u!]<;>lia)
 rw[Bk,<-i];show aq (22#.ref) _ (I.laid (t':=s.toks) (o:=.lst (l7 f lo Y)) (λb W q=>W' _ q) (Ξ _) ?_) rx (q _ (270#(Ξ _)))
 show aR (Ω (qz f lo Y) m) _ 0 ((r.drop (313#0)).take (HT.ig f.length f.length Y-313#0)) (v! _ rx)
def ly:V->Bool
 | .eM=>true
 | .bl _=>true
 | .int _=>true
 | .str _=>true
 | _=>false
noncomputable def Lm:V->V->Bool
 | .eM,.eM=>true
 | .bl a,.bl b=>a==b
 | .bl a,.int b=>(if a then 1 else 0)==b
 | .int a,.bl b=>a==(if b then 1 else 0)
 | .int a,.int b=>a==b
 | .str a,.str b=>a==b
 | _,_=>false
def Ve(c:χ y u)(B:χ x v)(p:ly y=true)(i:ly x=true):SeqAt.EqAt A s u v (Lm y x):=by
 cases y with
 | eM =>
   cases c;cases x with
   | eM=>cases B;show SeqAt.EqAt.same _
   | bl b=>cases B;show SeqAt.EqAt.none_bool b
   | int b=>show 71;show SeqAt.EqAt.none_int b t
   | str b=>show 71;show SeqAt.EqAt.none_str b t
   | _=>show absurd (show false=true from i) n!
 | bl a =>
   cases c;cases x with
   | eM=>cases B;show SeqAt.EqAt.bool_none a
   | bl b=>cases B;show SeqAt.EqAt.bool_bool a b
   | int b=>show 71;show SeqAt.EqAt.bool_int a b t
   | str b=>show 71;show SeqAt.EqAt.bool_str a b t
   | _=>show absurd (show false=true from i) n!
 | int a =>
   show 94;cases x with
   | eM=>cases B;show SeqAt.EqAt.int_none a Z
   | bl b=>cases B;show SeqAt.EqAt.int_bool a Z b
   | int b=>show 71;show SeqAt.EqAt.int_int a Z b t
   | str b=>show 71;show SeqAt.EqAt.int_str a Z b t
   | _=>show absurd (show false=true from i) n!
 | str a =>
   show 94;cases x with
   | eM=>cases B;show SeqAt.EqAt.str_none a Z
   | bl b=>cases B;show SeqAt.EqAt.str_bool a Z b
   | int b=>show 71;show SeqAt.EqAt.str_int a Z b t
   | str b=>show 71;show SeqAt.EqAt.str_str a Z b t
   | _=>show absurd (show false=true from i) n!
 | _=>show absurd (show false=true from p) n!
def Dz(x:V)(u:Value):Bool:=match u with
 | .none=>Lm .eM x
 | .bool b=>Lm (.bl b) x
 | .int i _=>Lm (.int i) x
 | .str z _=>Lm (.str z) x
 | _=>false
def DA(r:χ y u)(f:ly y=true):Dz x u=Lm y x:=by
 cases y with
 | eM=>cases r;rfl
 | bl b=>cases r;rfl
 | int i=>show 257;rfl
 | str z=>show 257;rfl
 | _=>show absurd (show false=true from f) n!
theorem uP:∀{xs} {us},υ xs us->xs.all ly=true->us.any (Dz x)=xs.any λy=>Lm y x
 | _,_,.nil,_=>rfl
 | y::xs,u::us,.cons r t,f=>by
   rw[List.all_cons,H!]at f;rw[P?,P?,DA r f.1,uP t f.2]
theorem lz(B:χ x v)(i:ly x=true):∀{xs} {us},υ xs us->xs.all ly=true->∀u∈us,SeqAt.EqAt A s u v (Dz x u)
 | _,_,.nil,_=>λu G=>by cases G
 | y::xs,u::us,.cons r t,f=>λd G=>by
   rw[List.all_cons,H!]at f;rcases Z'.mp G with rfl|G
   .rw[DA r f.1];show Ve r B f.1 i
   .show lz B i t f.2 d G
def Vf(x:V)(xs:List V):Bool:=xs.any λy=>Lm y x
def YH(K:bY)(c:Bool):R2:=λx y H Q=>∃p f,y = .ref p/\(aK K H p f\/aZ K H p f)/\ly x=true/\f.all ly=true/\Q (.bl (if c then ! Vf x f else Vf x f)) H
def Mq:mU X 157#.In (YH X.K false):=by
 show 67
 revert h;show fX λp f=>kG λa Y i N q=>?_;subst a
 cases c;rcases Y with Y|Y
 .show 120#(λg r P m=>?_)
  show SeqAt.in_listAt (Dz x) P.isList (λw j=>lz B i r N w (by simpa using j)) (aq (.bl _) H I rx ?_)
  rw[show g.toArray.any (Dz x)=g.any (Dz x) by simp,uP r N]
  show q
 .show aG (λg r P m=>?_) (I.tuple Y)
  show SeqAt.in_tupleAt (Dz x) P (λw j=>lz B i r N w (by simpa using j)) (aq (.bl _) H I rx ?_)
  rw[show g.toArray.any (Dz x)=g.any (Dz x) by simp,uP r N]
  show q
def DB:mU X 157#.NotIn (YH X.K true):=by
 show 67
 revert h;show fX λp f=>kG λa Y i N q=>?_;subst a
 cases c;rcases Y with Y|Y
 .show 120#(λg r P m=>?_)
  show SeqAt.notIn_listAt (Dz x) P.isList (λw j=>lz B i r N w (by simpa using j)) (aq (.bl _) H I rx ?_)
  rw[show g.toArray.any (Dz x)=g.any (Dz x) by simp,uP r N]
  show q
 .show aG (λg r P m=>?_) (I.tuple Y)
  show SeqAt.notIn_tupleAt (Dz x) P (λw j=>lz B i r N w (by simpa using j)) (aq (.bl _) H I rx ?_)
  rw[show g.toArray.any (Dz x)=g.any (Dz x) by simp,uP r N]
  show q
def DC:fW X (.builtin "len") (λxs H Q=>∃p ys,xs=[.ref p]/\(aK X.K H p ys\/aZ X.K H p ys)/\287#ys.length):=by
 intro A s M H xs c Q I r h
 revert h;show aA λp ys b Y q=>?_;subst b
 show 218#(λu a B=>?_);subst a
 cases B;have S:=qy;rcases Y with Y|Y
 .show 120#(λg G P m=>?_)
  have i:=G.length;show Calls.call_len_list P.isList (by simp only[u!]<;>lia) (aq (.int ys.length) H (I.tok _) ⟨s.toks+1,by rw[u!,i]⟩ q)
 .show aG (λg G P m=>?_) (I.tuple Y)
  have i:=G.length;show len_tuple P (by simp only[u!]<;>lia) (aq (.int ys.length) H (I.tok _) ⟨s.toks+1,by rw[u!,i]⟩ q)
def oq:fW X (.builtin "len") (λxs H Q=>∃z,xs=[.str z]/\36#z.length/\287#z.length):=by
 show 290
 revert h;show aG λz b m q=>?_;subst b
 show 218#(λu c=>dX λt a=>?_);subst c a
 have S:=qy;show len_str (by lia) (113#(.int z.length))
def DE:fW X (.type "list") (λxs H Q=>∃p ys,xs=[.ref p]/\(aK X.K H p ys\/aZ X.K H p ys)/\∀l,H l=none->Q (.ref l) (η H l (.lst ys))):=by
 intro A s M H xs f Q I r h
 revert h;show aA λp ys d Y q=>?_;subst d
 show 218#(λu c B=>?_);subst c
 cases B;have a:∀(g:82#0),υ ys g->36#ys.length->∀(N:Heap) (w:Nat),(∀b F,21#F->N.get? b=some F)->
  22#N.get?=some { cls:=.type "list",dict:=none,data:=.seq g.toArray w,slots:=#[]}->EP X A M Q (22#.ref) { s with heap:=N}:=λg G m N w k e =>
  (aq (22#.ref) _ (I.laid (t':=s.toks) k (Ξ _) (show bL X.prog X.w _ N _ (.lst ys) from(aR m g w G e))) rx (q _ (270#(Ξ _))))
 rcases Y with Y|Y
 .show 120#(λg G P m=>?_)
  have i:=G.length;show dO (λo j L n J=>?_) P.isList
  show call_list_seq p (.inl rx) j L J (λN w k e=>a g G m N w k e) (by simp only[u!]<;>lia)
 .show aG (λg G P m=>?_) (I.tuple Y)
  have i:=G.length
  revert P;show dO λo j L n J=>?_
  show call_list_seq p (.inr rx) j L J (λN w k e=>a g G m N w k e) (by simp only[u!]<;>lia)
def Bl:fW X (.type "tuple") (λxs H Q=>∃p ys,xs=[.ref p]/\((aK X.K H p ys/\∀l,H l=none->Q (.ref l) (η H l (.tup ys)))\/(aZ X.K H p ys/\Q (.ref p) H))):=by
 intro A s M H xs d Q I r h
 revert h;show br λp ys a h=>?_;subst a
 show 218#(λu c B=>?_);subst c
 cases B;rcases h with⟨Y,q⟩|⟨Y,q⟩
 .show 120#(λg G P m=>?_)
  have i:=G.length;show call_tuple_list P.isList (λN k=>?_) (by simp only[u!]<;>lia)
  have T:θ X A M H { s with heap:=N}:=I.kept (t':=s.toks) k
  have E:θ X A M (η H N.objs.size (.tup ys)) { s with heap:=N.push { cls:=.type "tuple",data:=.seq g.toArray}} :=
   T.laid (t':=s.toks) (λb o e=>W' _ e) (Ξ _) (show bL X.prog X.w _ _ _ (.tup ys) from(b8 m g G (IsTup.new _ _)))
  show aq (.ref N.objs.size) _ E rx (q _ (319#0))
 .show aG (λg G P m=>?_) (I.tuple Y)
  show call_tuple_same P (aq (.ref p) H I rx q)
def Zt(K:bY)(T:String)(x:V)(H:Hp):Prop:=match x with
 | .str _=>T="str"
 | .int _=>T="int"
 | .ref p=>(T="list"/\∃f,aK K H p f)\/(T="tuple"/\∃o,K.lookup p=some o/\o.cls = .type "tuple"/\o.dict=none)\/
  (T="dict"/\((∃N,H p=some (.dK N))\/∃N,H p=some (.dT N)))\/(T="set"/\∃S n,H p=some (.set S n))
 | _=>False
def O4{A:cN}{M:St}(I:282#0)(r:χ x v)(ty:Zt X.K T x H):
 s.TypeIs v T/\∀a,v = .ref a->∃ob,s.heap.get? a=some ob/\ob.dict=none:=by
 cases x with
 | str z =>
   show 257;cases(show T="str" from ty)
   show⟨typeIs_str s z t,λ_ e=>nomatch e⟩
 | int i =>
   show 257;cases(show T="int" from ty)
   show⟨typeIs_int s i t,λ_ e=>nomatch e⟩
 | ref p =>
   cases r;rcases ty with⟨rfl,f,Y⟩|⟨rfl,o,B,L,J⟩|⟨rfl,B⟩|⟨rfl,S,n,B⟩
   .show 120#(λg _ P _=>?_)
    show⟨P.isList.typeIs,λa e=>?_⟩
    cases e
    revert P;show aS λo n e c J _=>?_
    show af o e J
   .show⟨af o (I.qp p o B) L,λa e=>?_⟩
    cases e;show af o (I.qp _ o B) J
   .have z:∃o,s.heap.get? p=some o/\o.ExactDict:=by
     rcases B with⟨N,B⟩|⟨N,B⟩
     .show bG 6#(bz λo _ _ e q _=>?_) (I.hok p _ B)
      show af o e q
     .show bG 6#(bz λo _ _ e q _=>?_) (I.hok p _ B)
      show af o e q
    revert z;show aj λo e q=>?_
    show⟨af o e q.1,λa D=>?_⟩
    cases D;show af o e q.2.1
   .show dX (λo=>bz λ_ _ _ e q _=>?_) (I.hok p _ B)
    show⟨af o e q.1,λa D=>?_⟩
    cases D;show af o e q.2.1
 | _=>show 213#ty
def Zu(K:bY)(T:String)(r:V->81#(List V))(d:TE):TE:=λM H Q=>d M H λx S=>Zt K T x S/\r x [] S Q
def Zv(K:bY)(T:String)(r:V->81#(List V))(d:TE)(t:TA):TE:=λM H Q=>d M H λx S=>Zt K T x S/\t M S λf Z=>r x f Z Q
variable {o e:Expr}{es:312#0}{to:TE}{t:TA}{name:Str}{apos cpos:Pos}{T id:String}{r:V->81#(List V)}
def O5(y:PlainAttrs T)(slot:Slot T name id)(f:typeOf (.builtin id)=pure (.type "method_descriptor"))(d:W8 X id r)(j:PE X o to)
 (c:attributeBase o name X.env 152#o=eval o X.env:=by rfl) (k:(apos.endLine==cpos.line)=true:=by rfl):PE X (.Call (.Attribute o name apos) [] [] cpos) (Zu X.K T r to):=by
 show 68;show wpAny_Call_method0_late c k (eg 34#j λv F=>aS λx S a J U O=>?_)
 obtain⟨R,W⟩:=O4 a J U;show aV T id y (dF slot f R W (Calls.callWith_builtin rx (PySem.evalArgs_none (d A F M S x [] v [] Q a J .nil O))))
def dN(y:PlainAttrs T)(slot:Slot T name id)(f:typeOf (.builtin id)=pure (.type "method_descriptor"))(d:W8 X id r)(j:PE X o to)(p:PA X (e::es) t)
 (c:attributeBase o name X.env 152#o=eval o X.env:=by rfl)
 (m:((backTo cpos (15#(e::es))).all (λx=>! x.1)&&(backToKw cpos (keywordEach [] X.env)).all (λx=>x.1.isSome)
  && 11#(48#(e::es)+([]:List Keyword).length+(if([]:List Keyword).isEmpty then 0 else 1)<30))=true:=by rfl)
 (k:(apos.endLine==cpos.line)=true:=by rfl) (l:15#(e::es)=33#e::15#es:=by rfl) (n:(backTo cpos (15#es)).any (·.1)=false:=by rfl) :
 PE X (.Call (.Attribute o name apos) (e::es) [] cpos) (Zv X.K T r to t):=by
 show 68;show wpAny_Call_method_late c m k rx (eg 34#j λv F=>aS λx S a J U O=>?_)
 obtain⟨R,W⟩:=O4 a J U;show aV T id y (dF slot f R W ?_);have Y:=p cpos A F M S _ a O;rw[l]at Y ⊢;show Calls.callWith_builtin (by change(false || (backTo cpos (15#es)).any (·.1))=false;rw[n]<;>rfl) (Calls.evalArgs_plain ?_)
 show eg Y λg N=>aA λG Z E i P=>?_
 show d A N M Z x G v g Q E J i P
end
def YI(X:Cx)(id:String)(r:V->81#(List V)):Prop :=
 ∀pq s (σ:St) H x xs v us Q,5#H->χ x v->υ xs us->r x xs H Q->
   105#(call (.builtin id) (v::us))
def υ.one{x:V}{g:82#0}(h:υ [x] g):∃u,g=[u]/\χ x u:=by
 obtain _|⟨r,_|_⟩:=h
 show af _ rx r
def υ.rep(h:υ xs g):∀k:Nat,υ (List.replicate k xs).flatten (List.replicate k g).flatten
 | 0=>.nil
 | k+1=>by
   rw[U?,U?,I_,I_];show υ.append h (υ.rep h k)
theorem foldl_rep(g:82#0):∀k I,
 List.foldl (λz j=>z++j) I.toArray (List.replicate k g.toArray)=(I++(List.replicate k g).flatten).toArray
 | 0,I=>by simp
 | k+1,I=>by
   have e:I.toArray++g.toArray=(I++g).toArray:=by simp
   have D:(I++g)++(List.replicate k g).flatten=I++(List.replicate (k+1) g).flatten:=by
    rw[U?,I_,List.append_assoc]
   rw[<-D,<-foldl_rep g k (I++g),<-e,U?,L_]
section
variable {X:Cx}{pq:cN}{σ:St}{H:Hp}{s:Shared}{l b:Addr}{xs ys zs:List V}
def θ.Xc{g its' : 82#0}(I:5#H)(o:H l=1#xs)
 (e:s.heap.get? l=some 292#(.type "list")) (Z:f g.toArray=its'.toArray) (a:υ ys its') (hz:36#ys.length) :
 θ X pq σ (η H l (.lst ys)) { s with heap:=s.heap.update l (Obj.mapSeq f),toks:=t'}:=by
 have q:=PySem.IsL.update e f;rw[Z]at q;show I.write (x:=l) (e:=l) (by rw[o];show trivial) (.inl rx) (λA u U G=>(n? s.heap (Obj.mapSeq f) (e! U)).trans G) ⟨_,q⟩ ?_
 show aR hz its' _ a q
def θ.Xd(I:5#H)(U:υ ys g)(hz:36#ys.length):
 θ X pq σ (η H s.heap.objs.size (.lst ys)) { s with heap:=174#{ cls:=.type "list",data:=.seq g.toArray},toks:=t'} :=
 I.laid (λ_ _ q=>W' _ q) (Ξ _) (aR hz g 0 U (v! _ rx))
def θ.fresh(I:5#H):22#H=none:=270#(Ξ _)
def θ.Mr(I:5#H)(o:H l=1#xs):36#xs.length/\∃g n,υ xs g/\xs.length=g.length/\s.heap.get? l=some 292#(.type "list"):=by
 show Bf (λz=>br λg n r e=>?_) (I.hok l _ o)
 show⟨z,(aq g n r r.length e)⟩
def FJ(h:n<=sizeLine):Builtin.List.listTooLong n=false:=by
 unfold Builtin.List.listTooLong;show fV (by lia)
end
section
variable {X:Cx}
def Sq:V->81#(List V):=λx G H Q=>∃l f y,x = .ref l/\G=[y]/\H l=some (.lst f)/\f.length<sizeLine/\Q .eM (η H l 66#(f++[y]))
def cy:YI X "list.append" Sq:=by
 intro A s M H x G v i Q I B D h
 revert h;show bV λl f y c a o m q=>?_;subst c a
 cases B;show aj (λu b d=>?_) D.one;subst b
 show Bf (λz=>aA λg n r C e=>?_) (I.Mr o)
 show call_meets F.slot_list_append (af _ e rx) F.entry_list_append (F.args_list_append_2 _ _) (PySem.list_append l g.toArray n u (by rw[u!];lia)) ⟨e,?_⟩
 show aq .eM _ (I.Xc (its':=g++[u]) o e 23#0 (r.append 233#d) ?_) rx q
 rw[U',S!]
 lia
def Ss:V->81#(List V):=λx G H Q=>∃l b f U,x = .ref l/\G=[.ref b]/\H l=some (.lst f)/\H b=some (.lst U)/\36#(f.length+U.length)/\Q .eM (η H l (.lst (f++U)))
def vX:YI X "list.extend" Ss:=by
 intro A s M H x G v J Q I B E h
 revert h;show sX λl b f U=>dI λj p o k m q=>?_;subst j p
 cases B;show aj (λu c d=>?_) E.one;subst c
 cases d;show Bf (λz=>aA λg n r C e=>?_) (I.Mr o)
 show Bf (λL=>aA λZ y i a D=>?_) (I.Mr k)
 have t:36#(g.toArray.size+Z.toArray.size):=by rw[u!,u!];lia
 have w : ¬(! g.toArray.isEmpty&&Builtin.List.listTooLong (g.toArray.size+Z.toArray.size))=true:=by
  rw[FJ t,M_];show n!
 show call_meets F.slot_list_extend (af _ e rx) F.entry_list_extend (F.args_list_extend_2 _ _)
  (AutoSeq1.list_extend_list_list_0 l g.toArray n b Z.toArray y w (by rw[u!];lia) (by lia)) (bj e D ?_)
 show aq .eM _ (I.Xc (its':=g++Z) o e 23#0 (r.append i) ?_) rx q
 rw[U']
 lia
def Zw:R2:=λx y H Q=>∃l k f,x = .ref l/\y = .int k/\H l=some (.lst f)/\-(2^63)<=k/\k<2^63/\36#(f.length*k.toNat)/\
 ∀p,H p=none->Q (.ref p) (η H p (.lst (List.replicate k.toNat f).flatten))
def len_rep{m:Type}(xs:List m)(k:Nat):(List.replicate k xs).flatten.length=k*xs.length:=by
 induction k with
 | zero=>simp
 | succ k E=>rw[U?,I_,U',E,Nat.succ_mul,Nat.add_comm]
def IS:mU X 306#.Mult Zw:=by
 show 67
 revert h;show cK λl k f d=>dI λE o R W O q=>?_;subst d E
 cases B;obtain⟨t,rfl⟩:=c;show Bf (λz=>aA λg n r C e=>?_) (I.Mr o)
 have i:36#(g.toArray.size*k.toNat):=by rw[u!,<-C];show O
 have L : ¬ g.toArray.size*k.toNat > (2^63-1)/8:=by
  have:(sizeLine:Nat)<=(2^63-1)/8:=by decide
  lia
 have b : ¬(! Builtin.List.listFitsIndex k)=true:=by
  rw[fitsIndex_both R W];show n!
 have w : ¬ Builtin.List.listTooLong (g.toArray.size*k.toNat)=true:=by
  rw[FJ i];show n!
 have D:List.foldl (λN j=>N++j) #[] (List.replicate (if g.toArray.isEmpty=true then 0 else k.toNat) g.toArray)=(List.replicate k.toNat g).flatten.toArray:=by
  have J:∀m:Nat,List.foldl (λN j=>N++j) #[] (List.replicate m g.toArray)=(List.replicate m g).flatten.toArray:=λm=>by
   have:=foldl_rep g m [];rw[List.nil_append]at this;show this
  rw[J];cases g with
  | nil=>simp
  | cons a G=>rw[ξ 23#0]
 show wpAny_binaryOp_repeat_ref (T:="list") (U:="int") 3#0 (af _ e rfl) (λp=>typeIs_int p k t) noFill_list_mul F.fills_int_mul F.slot_int_rmul repeat_list F.slot_int_index.lookup
  (call_meets F.slot_int_rmul (typeIs_int s k t) F.entry_int_rmul (F.args_int_rmul_2 _ _) (int___rmul___int_list k t l g.toArray n)
   (iI e rx (af _ e rx) (call_meets F.slot_list_mul (af _ e rx) F.entry_list_mul (F.args_list_mul_2 _ _) (AutoListH.list___mul___list_int_3 l g.toArray n k t b L w) ⟨e,?_⟩)))
 rw[D];show aq (.ref _) _ (I.Xd (t':=s.toks) (r.rep k.toNat) (by rw[len_rep,Nat.mul_comm];show O)) rx (q _ I.fresh)
end
end L2
namespace Att
open PySem PySem.W PySem.Calls PyProof.Rows
def yr:∀ns G,WellAll P h G (ns.map WData.int)->IntsAre G ns:=by
 intro ns
 induction ns with
 | nil =>
   intro G w;rw[List.map_nil]at w;cases w;show .nil
 | cons n ns E =>
   intro G w;rw[w!]at w;cases w with
   | cons a b =>
     cases a;show .cons _ _ (E _ b)
def Ms{l:OpenLaw}(S:l.most=some n)
 (e:l.row.toRowW.claim.pre args=true) (p:WellAll P h v args) :
 ∃a G ns,v=[194#0]/\args=[WData.list (ns.map WData.int)]/\138#{ cls:=.type "list",data:=.seq G.toArray}/\IntsAre G ns/\ns.length<=n:=by
 have c:WShape.hasAll [] args [.list .int]=true:=(pre_splitW e).1;have L:l.pre.holds [] { args:=args}=true:=(pre_splitW e).2;show aA (λd r m R W=>?_) (hasAllW_cons c);subst m
 obtain rfl:=hasAllW_nil W;show aj (λf o M=>?_) (hasW_list R);subst o
 obtain⟨ns,rfl⟩:=items_int M;have i:ns.length<=n:=by
  unfold OpenLaw.pre at L;have T:(WTm.not (.lt (.lit (.int (n:Int))) (.len (.arg 0)))).holds [] { args:=[.list (ns.map .int)]}=true:=by
   have T:=(holds_andW L).1;rw[S]at T;show T
  have b:=condW_of T (w_not (w_lt w_lit (w_len_list (w_arg rx))));rw[Δ]at b;show Nat.le_of_not_lt λq=>?_
  have I:(n:Int)<7#ns.length:=by lia
  first
   | (rw[eK I]at b;show absurd b 3#0)
   | (simp at b;lia)
 cases p with
 | cons u k =>
   cases k;cases u with
   | list j g=>show cF _ _ ns rfl rfl j (yr ns _ g) i
def Mt(l:OpenLaw)(args:List WData):l.row.toRowW.claim.post args (.bool true) args=true :=
 postW_of (r:=l.row.toRowW) (X:=(true==true))
  (show WShape.has [] (.bool true) .bool=true by first | rfl | decide | simp[WShape.has,WShape.arms,WShape.armsAll])
  (show(WTm.eq .res (.lit (.bool true))).value [] { args:=args,res:=some (.bool true),after:=args}=some (.bool (true==true)) from w_eq_bool (w_res rx) w_lit) rfl
def FL{l:OpenLaw}{d:DefRec}
 (S:l.most=some n) (D:d.params.defaults=[])
 (call:∀w s₀ O mg C E o z cd m a N ns,
  Ground q I [] X w s₀ mg C O.heap->A w O.heap->
  O.heap.get? E=some o->o.data = .func (docDef d.name d.params d.body d.scope z cd m)->O.heap.CodeRec cd d.name->mg d.name=some (.ref E)->
  O.heap.get? a=some { cls:=.type "list",data:=.seq N.toArray}->IntsAre N ns->ns.length<=n->O.gens = #[]->
  codeAny (model l.prog w) callerA (.call (.ref E) ⟨[.ref a],[]⟩) (λr s'=>r = 196#(.bool true)/\OldK O.heap s'.heap/\s'.os=O.os/\AllBare s'.gens) O) :
 WalkO q I X A l.row.toRowW d [] (λf N=>PySem.call f N):=by
 intro w s₀ O mg C G Y E o z cd m b kV j J B P h y c v k e L H p g;obtain rfl:b = .none:=Dflts.none P D;obtain rfl:kV = .none:=Dflts.noKw P;show bV (λa N ns u x s t i=>?_) (Ms S e p);subst u x
 show enter_call (codeAny_mono (call w s₀ O mg C E o z cd m a N ns G Y j (fd_plain J) B h s t i y) λr s' R=>?_)
 revert R;show mj λF W M T=>?_;subst F
 show iI (.inl (cF (.bool true) (.bool true) [] rx (λ_=>rfl) (.bool true) (Mt l _) (λ_=>⟨List.Pairwise.nil,λ_ Q=>(nomatch Q)⟩))) W M T
end Att
namespace L2
open PySem PySem.Spec PyProof.Rows
theorem Cv:∀{vs} {ns},IntsAre vs ns->υ 264#0 vs
 | _,_,.nil=>.nil
 | _,_,.cons n t h=>.cons ⟨t,rfl⟩ (Cv h)
def inClass(s:Stmt)(j:Nat):Stmt:=match s with
 | .ClassDef _ _ _ R _ _ _ _ _ _ _=>R.getD j (.Pass ⟨0,0,0,0⟩)
 | _=>.Pass ⟨0,0,0,0⟩
def eZ(s:Stmt):Arguments:=match s with
 | .FunctionDef _ a _ _ _ _ _ _ _ _=>a
 | _=>{ posonlyargs:=[],args:=[],vararg:=none,kwonlyargs:=[],kw_defaults:=[],kwarg:=none,defaults:=[]}
def cQ(s:Stmt):List Stmt:=match s with
 | .FunctionDef _ _ b _ _ _ _ _ _ _=>b
 | _=>[]
def aU(s:Stmt):Scope:=match s with
 | .FunctionDef _ _ _ _ _ _ y _ _ _=>y
 | _=>{ kind:=.function,names:=[],isGenerator:=false,isCoroutine:=false}
abbrev uQ:Sk:=λ_ _ _ _ _ _=>False
abbrev E0:XK:=λ_ _ _=>False
def aL:Passes uQ X E0:=λ_ _ _ _ _ _ _ h=>h.elim
structure IT(K:bY)(x qual:Str)(st:Stmt)(f:Addr)(fd:FuncData):Prop where
 ex:∃(oc:Value) (od:129#0) (kV doc pm:Value) (an:129#0) (cdv ct:Value) (osl:165#0),
  fd=PySem.W.fnOf x qual (eZ st) (cQ st) (aU st) .none kV doc pm an cdv ct/\283#⟨oc,od,.func fd,osl⟩/\PySem.W.codeIn K cdv qual=true
 kp:78#K
section
variable {P:Program}{w:World}{K:bY}{mg:Bg}{base:Heap}
def IT.ok{st:Stmt}(F:IT K x j st f n)(S:g6 N Z (aU st))(len:125#Z.length)
 (O:∀i A outer s H G Q E,fF k (139#j)->sp G H Q E->
  89#(tK (tM uQ P w K mg base N j (aU st) f i A outer s H E).Ft (cQ st) t)):i5 P w K mg base uQ (k+1) f n Z sp:=by
 show dX (λe=>ki λW kV m z M=>bz λi l o a c B=>?_) F.ex;subst a
 show Le c B S len λA outer s H G Q E d b=>?_
 show aj (λt h q=>?_) (O i A outer s H G Q E d b)
 show af t h.Ft q
def IT.binds{st:Stmt}{Z:List Str}(F:IT K x j st f n)
 (h:∀kV m z M i ct g,g.length=Z.length->bindArgs 101#j ⟨g,[]⟩=pure (Z.zip g)):Binds K n Z []:=by
 show dX (λq=>ki λW kV m z M=>bz λi ct o a c B=>?_) F.ex;subst a
 show .all (h kV m z M i ct)
def IU{st:Stmt}{kV m z i ct:Value}(l:283#⟨oc,W,.func 101#j,o⟩)
 (c:PySem.W.codeIn K i j=true) (k:78#K):IT K x j st f 101#j:=⟨kZ oc W (vM kV m z M (cC i ct o rx l c)),k⟩
end
def FN(P:fF k A):A.units+1<cLine:=d_ (Nat.add_le_add_left (by decide:1<=64) _) P.units
def ff(h:n<=1000):n<sizeLine:=d_ h 3#0
section
variable {X:Cx}
def pv(i:Nat){x:Str}{j:Pos}(o:278#x:=by rfl)(U:277#YE:=by show 93)(J:198#("__debug__":Str):=by decide)
 (B:198#("__classdict__":Str):=by decide):PE X (.Name x j) (WS i):=US o U J B
end
def cZ{A B:Prop}(h:B):if false=true then A else B:=by
 rw[ξ n!];show h
def eu{A B:Prop}(h:A):if true=true then A else B:=by
 rw[ο rfl];show h
def gE{c A B:Prop}[Decidable c](R:c->A)(W : ¬ c->B):if c then A else B:=by
 by_cases h:c
 .rw[ο h];show R h
 .rw[ξ h];show W h
def x7{c A B:Prop}[Decidable c](L:c)(h:B):if(! decide c)=true then A else B:=by
 rw[eK L];show cZ h
def ai(H Y:Hp):Prop:=∀b o,H b=some o->Y b=some o
def ai.refl(H:Hp):ai H H:=λ_ _ h=>h
def ai.trans(a:ai H S)(b:ai S Z):ai H Z:=λc o h=>b c o (a c o h)
def ai.free(e:ai H Y)(h:Y l=Option.none):H l=Option.none:=by
 cases q:H l with
 | none=>rfl
 | some o =>
   rw[e l o q]at h;cases h
def ai.seq{K:bY}(e:ai H Y)(h:aK K H a xs):aK K Y a xs:=by
 rcases h with(h|⟨o,h⟩) | h
 .show .inl (.inl (e _ _ h))
 .show .inl (.inr ⟨o,e _ _ h⟩)
 .show .inr h
noncomputable def eE(cells:176#Addr):176#NameKind->176#Addr->176#Addr
 | [],a=>a
 | (n,k)::r,a=>eE cells r (if(199#k)=true then(n,(cells.lookup n).getD 0)::a else a)
theorem zd{env:Env}
 (b:∀n k cs c,(199#k)=true->env.cells.lookup n=some c->f (n,k) cs=pure (.yield ((n,c)::cs)))
 (a:∀n k cs,(199#k)=false->f (n,k) cs=pure (.yield cs)) :
 ∀names cs,(∀n k,(n,k)∈names->(199#k)=true->∃c,env.cells.lookup n=some c)->
   forIn names cs f=(pure (eE env.cells names cs):Sem (176#Addr))
 | [],cs,_=>by rw[List.forIn_nil];rfl
 | (n,k)::r,cs,h=>by
   have E:=λcs=>zd b a r cs λm j d=>h m j (sY _ d)
   rw[List.forIn_cons];cases e:(199#k) with
   | true =>
     obtain⟨c,L⟩:=h n k h! e;rw[b n k cs c e L,pure_bind];change forIn r ((n,c)::cs) f=_;rw[E]
     conv=>rhs;unfold eE
     rw[ο e,L];rfl
   | false =>
     rw[a n k cs e,pure_bind];change forIn r cs f=_;rw[E]
     conv=>rhs;unfold eE
     rw[ξ (by rw[e];show n!)]
def lA{scope:Scope}{env:Env}(h:∀n k,(n,k)∈scope.names->(199#k)=true->∃c,env.cells.lookup n=some c):closureFor scope env=pure (eE env.cells scope.names []):=by
 simp only[closureFor];rw[zd (env:=env) ?_ ?_ scope.names [] h]
 .rfl
 .intro n k a c e L;change 237#(199#k)=_
  rw[ο e];unfold cellOf;rw[L];rfl
 .intro n k a e;change 237#(199#k)=_
  rw[ξ (by rw[e];show n!)]
theorem my:∀{names} {cs},(eE cells names cs).lookup x=some c->cs.lookup x=some c\/((x,NameKind.free)∈names/\(cells.lookup x).getD 0=c)
 | [],cs,h=>.inl h
 | (n,k)::r,cs,h=>by
   unfold eE at h;rcases my h with q|⟨a,P⟩
   .by_cases e:(199#k)=true
    .rw[ο e]at q
     by_cases O:x=n
     .subst O;rw[_y]at q;have B:k=NameKind.free:=eq_of_beq e;show .inr ⟨by rw[B];show h!,26#q⟩
     .have U:(x==n)=false:=172#O;simp only[R!,U]at q;show .inl q
    .rw[ξ e]at q;show .inl q
   .show .inr ⟨sY _ a,P⟩
theorem lB:∀{names} {cs},((x,NameKind.free)∈names\/∃c,cs.lookup x=some c)->∃c,(eE cells names cs).lookup x=some c
 | [],cs,h=>by
   rcases h with h|h
   .cases h
   .show h
 | (n,k)::r,cs,h=>by
   unfold eE;apply lB;rcases h with h|⟨c,h⟩
   .rcases Z'.mp h with h|h
    .cases h
     right
     rw[ο (by rfl)]
     show⟨_,_y⟩
    .show .inl h
   .right
    by_cases e:(199#k)=true
    .rw[ο e]
     by_cases O:x=n
     .subst O;show⟨_,_y⟩
     .have U:(x==n)=false:=172#O;show⟨c,by simp only[R!,U];show h⟩
    .rw[ξ e];show⟨c,h⟩
theorem ou{env:Env}{x:Str}{k:NameKind}:∀{names:176#NameKind},
 (names.map λ(n,k)=>if(16#k) then(n,NameKind.cell) else(n,k)).lookup x=some k->
  ∃k0,names.lookup x=some k0/\(k=k0\/(k0 = .free/\k = .cell))
 | [],h=>by cases h
 | (n,j)::r,h=>by
   have E:=@ou env x k r
   replace h:List.lookup x ((if(16#j)=true then(n,NameKind.cell) else(n,j))::_)=some k:=h
   cases O:x==n with
   | true =>
     by_cases L:(16#j)=true
     .rw[ο L]at h;simp only[R!,O]at h ⊢;have J:j=NameKind.free:=by
       rw[H!,H!]at L;show eq_of_beq L.1.1
      show af j rx (.inr ⟨J,(26#h).symm⟩)
     .rw[ξ L]at h;simp only[R!,O]at h ⊢;show af j rx (.inl (26#h).symm)
   | false =>
     by_cases L:(16#j)=true
     .rw[ο L]at h;simp only[R!,O]at h ⊢;show E h
     .rw[ξ L]at h;simp only[R!,O]at h ⊢;show E h
theorem uR{env:Env}{x:Str}:∀{names:176#NameKind},names.lookup x=some .free->
 (names.map λ(n,k)=>if(16#k) then(n,NameKind.cell) else(n,k)).lookup x=some .cell\/
 (names.map λ(n,k)=>if(16#k) then(n,NameKind.cell) else(n,k)).lookup x=some .free
 | [],h=>by cases h
 | (n,j)::r,h=>by
   have E:=@uR env x r;change List.lookup x ((if(16#j)=true then(n,NameKind.cell) else(n,j))::_)=_\/
    List.lookup x ((if(16#j)=true then(n,NameKind.cell) else(n,j))::_)=_
   cases O:x==n with
   | true =>
     simp only[R!,O]at h;cases h
     by_cases L:(16#NameKind.free)=true
     .rw[ο L];simp only[R!,O];show .inl trivial
     .rw[ξ L];simp only[R!,O];show .inr trivial
   | false =>
     simp only[R!,O]at h
     by_cases L:(16#j)=true
     .rw[ο L];simp only[R!,O];show E h
     .rw[ξ L];simp only[R!,O];show E h
def c9(X:Cx)(N:List Str)(scope:Scope)(xe:kj)(C:Addr)(s:Shared)(H:Hp)(G:183#0):Cx where
 prog:=X.prog
 w:=X.w
 K:=X.K
 mg:=X.mg
 base:=X.base
 A:=X.A
 N:=N
 s₀:=s
 H₀:=H
 env:=compEnvC scope 58#0 C X.env
 outer:=X.stack
 stack:=X.stack
 ex:=G
 fn:=λ_=>false
 calm:=X.calm
 pn:=[]
 xe:=xe
def iq(M:St)(js:List Nat):St:=js.map λj=>(M[j]?).getD none
structure eS(X:Cx)(scope:Scope)(own fq:List Str)(js:List Nat):Prop where
 kind:scope.kind = .function
 DF:∀y∈scope.names,y.2≠.cell
 names:∀y∈scope.names,y.2 = .local->238#76#y.1
 free:∀y∈scope.names,y.2 = .free->X.env.scope.names.lookup y.1=some .cell\/X.env.scope.names.lookup y.1=some .free
 at_:js.map (λj=>X.N[j]?)=fq.map some
 fr:∀x∈fq,76#x=some .free
def ze{i:Nat}(h:(iq M js)[i]?=some (some v)):∃j,js[i]?=some j/\M[j]?=some (some v):=by
 unfold iq at h;rw[j!]at h;cases e:js[i]? with
 | none=>rw[e]at h;cases h
 | some j =>
   rw[e]at h;have N:(M[j]?).getD none=some v:=26#h;show af j rx ?_;cases q:M[j]? with
   | none=>rw[q]at N;cases N
   | some o=>rw[q]at N;rw[show o=some v from N]
section
variable {X:Cx}
def gF{A:cN}{M:St}{own fq:List Str}(I:282#0)(T:156#own):
 ∀n k,(n,k)∈scope.names->(199#k)=true->∃c,41#n:=λn k d e=>by
 have B:k=NameKind.free:=eq_of_beq e;show I.ok.has n (T.free (n,k) d B)
def O6{A:cN}{M:St}{own fq:List Str}{D C:Addr}{R:Heap}
 (I:282#0) (T:156#own) (Z:∀b∈G,qv X A H b) (l:∀b∈G,∃o,21#o) (hD:189#D) (k:189#C) (N:D≠C)
 (F:∀b o,21#o->24#R.get?) (hl:R.get? D=some { cls:=.type "list",data:=.seq ([]:82#0).toArray 0}) (S:R.Ns C m) :
 θ (c9 X (own++fq) scope xe C s H G) [] (83#own.length++iq M js) (61#H) { s with heap:=R,toks:=t1}:=by
 have E:∀x c,(58#0).lookup x=some c->41#x:=λx c h=>by
  rcases my h with q|⟨O,P⟩
  .cases q
  .obtain⟨w,Q⟩:=gF I T x .free O rfl;rw[Q]at P;rw[Q];show k! some P
 have n:∀b o,21#o->226#b:=λb o e=>J' e
 have A:∀x c,41#x->226#c:=λx c e=>by
  obtain⟨v,q⟩:=I.cell x c e;show q.lt
 have P:∀b∈202#0,226#b:=λb U=>by
  show bK (λ_ o j _=>?_) (I.stack.mem U)
  show J' j
 have h:H D=none:=270#hD;have f:H C=none:=I.hok.fresh k;show⟨⟨I.ok.mod,T.kind,I.ok.glob,I.ok.blt,k,λx y c a b=>I.ok.inj x y c (E x c a) (E y c b),λx O=>?_,λx c z _=>(nomatch z),I.ok.hd,I.ok.frames,.inl rfl,λb U=>⟨?_,λx c e z=>?_⟩,
  λb o e=>I.bs b o e,Ω I.ok.OJ I.sz,λb o e U=>?_,λb U z=>?_,I.stack,I.r4⟩,
  rfl,I.bare,Un.laid F hD h,af m S λi x v g a d=>?_,λx c e=>?_,?_,λx c e=>?_,λp t=>absurd (show p∈([]:cN) from t) 23#0,?_,?_⟩
 .
  have O:(relabel scope X.env).names.lookup x=some .cell\/(relabel scope X.env).names.lookup x=some .free:=O;have g:(x,NameKind.free)∈scope.names:=by
   rcases O with O|O
   .show aj (λv q r=>?_) (ou O)
    have d:=F? q;rcases r with r|⟨r,_⟩
    .show absurd r.symm (T.DF _ d)
    .rw[r]at d;show d
   .show aj (λv q r=>?_) (ou O)
    have d:=F? q;rcases r with r|⟨_,r⟩
    .rw[<-r]at d;show d
    .cases r
  show lB (.inl g)
 .
  obtain⟨o,j⟩:=l b U;show q! (g! (n b o j) k)
 .show(Z b U).2.2.2.2.1 x c (E x c e) z
 .
  show dI (λ_ _ _ Q _ _=>?_) (Z b U)
  rcases Q with z|z
  .show I.ok.IC b o e z
  .show 206#(g! (J' (I.ok.bs b o e).1) z)
 .
  show mj (λ_ d u _=>?_) (Z b U)
  rcases Z'.mp (I.vO b z) with q|q
  .show d q
  .show u q
 .
  by_cases Y:i<own.length
  .rw[B? (by simpa using Y),Q_,ο Y]at a
   cases a
  .rw[J? (by simpa using Y),R?]at a
   replace g:(own++fq)[i]?=some x:=g
   rw[J? (by lia)]at g
   show aj (λj J W=>?_) (ze a)
   have a:X.N[j]?=some x:=by
    have q:=k! (λl=>l[i-own.length]?) T.at_
    simp only[j!,J,g,r_]at q;show 26#q
   have p:=T.fr x (iu g);have d:=F? p;have B:=T.free (x,.free) d rfl;show aj (λg b n=>?_) I.loc
   show aj (λu r l=>?_) (n j x v a W (by rcases B with k | k;show .inr (.inl k);show .inr (.inr k)))
   show af u r (.inr ⟨uR p,?_⟩);rcases l with⟨a,_⟩|⟨_,c,L,t⟩
   .have a:40#x:=a;rcases B with k|k<;>(rw[a]at k;cases k)
   .obtain⟨w,Q⟩:=lB (cells:=X.env.cells) (names:=scope.names) (cs:=[]) (x:=x) (.inl d);have q:=E x w Q;rw[L]at q;cases q;show af c Q (t.keeps F)
 .
  obtain⟨v,q⟩:=I.cell x c (E x c e);show⟨v,q.keeps F⟩
 .
  change η H D 185#0 C=none;rw[au (e! N)];show f
 .change η H D 185#0 c=none;have e:=E x c e;rw[au (q! (g! (A x c e) hD))];show I.iU x c e
 .show I.hok.laid F hD (aR (r! _) [] 0 .nil hl)
 .change _=48#(own++fq);have q:=k! List.length T.at_;rw[Δ,Δ]at q;rw[U',U',R?];unfold iq;rw[Δ,q]
def jO{A:cN}{M k:St}{C:Addr}
 (I:282#0) (Z:∀b∈G,qv X A H b) (w:189#C) (J:θ (c9 X N scope xe C s H G) [] k Y s') (D:Heap.SameBut C s'.heap h'):θ X A M Y { s' with heap:=h'}:=by
 have f:Y C=none:=J.free;show I.K3 (ch:=G) J.os ?_ ?_ J.bare (λb U=>?_)
 .have u:Un (202#0) G H Y s.heap s'.heap:=J.base;have a:∀b o,21#o->b≠C:=λb o e=>q! (g! (J' e) w)
  show⟨λb o e n U O=>(D.2 b (a b o e)).trans (u.keep b o e n U O),λb o e n U O=>?_,u.free,λb o e O=>?_,u.tups,u.l5,u.qj⟩
  .obtain⟨T,q⟩:=u.slot b o e n U O;show⟨T,(D.2 b (a b o e)).trans q⟩
  .obtain⟨F,q⟩:=u.there b o e O;show⟨F,(D.2 b (a b o e)).trans q⟩
 .intro b W e;show(J.hok b W e).stay (λc a L q=>(D.2 c ?_).trans q) (λ_ q=>q) λ_ _ q=>q
  rintro rfl;rcases L with rfl|L
  .rw[f]at e;cases e
  .rw[f]at L;cases L
 .show dI (λ_ R _ Q B z=>?_) (Z b U)
  show iI Q R B z
end
section
variable {prog:Program}{w:World}{A:Around}{R:227#Result}{s:Shared}
abbrev Ln(d:312#0)(env:Env):Sem Bool:=forIn d true λc r=>if r=true then do let ok←isTrue c env (eval c env);pure (ForInStep.yield ok) else pure (ForInStep.yield r)
def DG{f c iter:Expr}{d:312#0}{scope:Scope}{j:Pos}{it o:Value}{env:Env}(I:227#Nat)
 (B:∀n s,I n s->wpAny 25#w A (pyNext it) (λr O=>match r with
  | none=>R (.ok .next) O
  | some v=>wpAny 25#w A (letOwnedTupleGo c it v) (λ_ s₀=>wpAny 25#w A (assign c env v) (λ_ p =>
   wpAny 25#w A (Ln d env) (λC b =>
    if C=true then wpAny 25#w A (eval f env) (λx a =>
     wpAny 25#w A (call (.builtin "list.append") [o,x]) (λ_ g=>∃m,m<n/\I m g) (231#0) a) (231#0) b
    else ∃m,m<n/\I m b) (231#0) p) (231#0) s₀) (231#0) O) (231#0) s)
 (n:Nat) (h:I n s) :
 codeAny 25#w A (.compLoop (.ListComp f [⟨c,iter,d,0⟩] scope j) 0 it o env) R s:=by
 show codeAny_loop rx I (λn s J=>?_) n h
 change wpAny _ A ((compTurn (.ListComp f [⟨c,iter,d,0⟩] scope j) 0 it o env).onRaise (λx=>do noteFrame x env;theTreesLotGoes x)) _ _ s
 show wpAny_noted ?_;rw[compTurn_list];show aQ (wpAny_standAt (aQ (c! (B n s J) (λr O W=>?_) λ_ _ N=>N)))
 cases r with
 | none=>show Θ W
 | some v =>
   show aQ (c! W (λ_ s₀ l=>?_) λ_ _ N=>N)
   show aQ (c! l (λ_ p u=>aQ (c! u (λC b F=>?_) λ_ _ N=>N)) λ_ _ N=>N)
   cases C with
   | false=>show Θ ⟨rfl,F⟩
   | true =>
     show aQ (aQ (c! F (λx a i=>aQ (c! i (λ_ g k=>Θ (Θ ⟨rfl,k⟩)) λ_ _ N=>N)) λ_ _ N=>N))
end
def Vg(X:Cx)(d:312#0)(t:TT):Prop :=
 ∀pq s (σ:St) H Q,5#H->t σ H Q->wpAny 9#0 X.A (Ln d X.env) (TP X pq σ Q) X.xe s
def Xe:TT:=λ_ H Q=>Q true H
def bZ:Vg X [] Xe:=λ_ _ _ H _ I h=>wpAny_tests_nil (af H I h)
def iD(h:PT X c t):Vg X [c] t:=λA s M H Q I q=>wpAny_tests_one (h A s M H Q I q)
def i8(J:It)(g:TG)(j:TT)(U:TE)(n:Nat)(s:St)(D:Addr)(Q:Hp->Prop)(S:Hp):Prop :=
 ∃W:Nat->109#(List V),(∃m,W 0 m [] S)/\∀i m I H,W i m I H->19#H/\
   ((J.stop i H/\Q H)\/(J.go i H/\I.length<sizeLine/\∃N:List V->Hp->Prop,(∀c Y,N c Y->∃O,O<m/\W (i+1) O c Y)/\
     ∀x Y,J.Mi i H x Y->g x (83#n++s) Y λP Z=>P.drop n=s/\j P Z λb w =>
     if b=true then U P w λv X=>19#X/\N (I++[v]) (η X D 66#(I++[v]))
     else N I w))
def Lo(a:TI)(g:TG)(j:TT)(U:TE)(n:Nat)(js:List Nat):TE:=λM H Q=>a M H λJ S=>∀D,S D=none->i8 J g j U n (iq M js) D (λZ=>Q (.ref D) Z) (61#S)
structure Lp(A:Around)(cm:Bool)(P:Program)(w:World)(K:bY)(tg:Expr)(J:It)(fp:183#0)(it:Addr)(tn:Nat->Heap->Prop):Prop where
 mem:it∈fp
 obj:∀i h,tn i h->∀b∈fp,∃o,24#h.get?/\∀v,o.data≠.cell v
 keep:∀i h h',tn i h->(∀b∈fp,∀o,24#h.get?->24#h'.get?)->tn i h'
 item:∀(X:Cx),X.prog=P->X.w=w->X.K=K->X.A=A->X.calm=cm->∀(i:Nat) (pq:cN) (s:Shared) (σ:St) (H:Hp) (E:kj),5#H->(∀b∈fp,qv X pq H b)->tn i s.heap->J.go i H->
  wpAny (model P w) X.A (279#it) (λr s1=>∃u,r=some u/\
   wpAny (model P w) X.A (letOwnedTupleGo tg (.ref it) u) (λ_ s2=>∃x H',θ X pq σ H' s2/\χ x u/\J.Mi i H x H'/\tn (i+1) s2.heap/\∀b∈fp,H' b=none) E s1) E s
 done:∀(X:Cx),X.prog=P->X.w=w->X.K=K->X.A=A->X.calm=cm->∀(i:Nat) (pq:cN) (s:Shared) (σ:St) (H:Hp) (E:kj),5#H->(∀b∈fp,qv X pq H b)->tn i s.heap->J.stop i H->
  wpAny (model P w) X.A (279#it) (λr s1=>r=none/\θ X pq σ H s1) E s
 self:∀(A:Around) (i:Nat) (s:Shared) (Q:kj) (E:kj),tn i s.heap->Q (.ref it) s->79#(pyIter (.ref it))
def Turn.x{K:bY}(T:Turn P w K tg J G it h)(L:cm=true):Lp A cm P w K tg J G it h :=
 ⟨T.mem,T.obj,T.keep,λX a b c _ d=>T.item X a b c (d.trans L),λX a b c _ d=>T.done X a b c (d.trans L),T.self⟩
section
variable {X:Cx}{elt iter tg:Expr}{ifs:312#0}{scope:Scope}{pos:Pos}{own fq:List Str}{js:List Nat}{wi:TI}{g:TG}{tt:TT}{te:TE}
def IV{A:cN}{M:St}(I:θ (c9 X N scope xe C s H G) A M a y):θ (c9 X N scope Su C s H G) A M a y :=
 ⟨⟨I.ok.mod,I.ok.kind,I.ok.glob,I.ok.blt,I.ok.above,I.ok.inj,I.ok.has,I.ok.UR,I.ok.hd,I.ok.frames,I.ok.FE,I.ok.YF,I.ok.bs,I.ok.OJ,I.ok.IC,I.ok.Mg,I.ok.funs,I.ok.OM⟩,I.os,I.bare,I.base,I.loc,I.cell,I.free,I.iU,I.pin,I.hok,I.len⟩
def mz{A:cN}{M:St}{n:Value->Env->227#Result}{QQ:Addr->Hp->Prop}
 {xf:Addr->Shared->Hp->183#0->227#Value} (T:156#own)
 (hg:∀C s H G,PG 45#G tg g)
 (ht:∀C s H G,Vg 45#G ifs tt)
 (he:∀C s H G,PE (c9 X (own++fq) scope (xf C s H G) C s H G) elt te)
 (r:θ X A M Z N) (Um:Lp X.A X.calm X.prog X.w X.K tg J G it h) (i:h 0 N.heap) (f2:∀b∈G,qv X A Z b)
 (j:∀D,Z D=none->i8 J g tt te own.length (iq M js) D (QQ D) (61#Z))
 (hRR:∀D C k Y s',N.heap.objs.size<=C->θ (c9 X (own++fq) scope (52#0) C N Z G) [] k Y s'->QQ D Y->n (.ref D) (newEnv scope C X.env.globals 58#0 X.env.qual none .none (some X.env) builtinsNs) (.ok .next) s')
 (hER:∀D C e L,N.heap.objs.size<=C->xf C N Z G e L->notedBy 9#0 X.A (compEnvC scope 58#0 C X.env) (λe s'=>n D (newEnv scope C X.env.globals 58#0 X.env.qual none .none (some X.env) builtinsNs) (.error e) s') e L) :
 wpAny 9#0 X.A (newList []) (λI m=>wpAny 9#0 X.A (newFunctionEnv scope X.env.globals 58#0 [] X.env.qual none .none (some X.env)) (λcenv a =>
  codeAny 9#0 X.A (.compStart 103#0 0 (.ref it) I 243#X.env) (n I cenv) a) E m) E N:=by
 show wpAny_newObj_type (wpAny_newFunctionEnv T.DF (by intro y c;simp at c) (λu H a=>?_) T.kind)
 dsimp only at H a ⊢;generalize d:N.heap.push { cls:=.type "list",dict:=none,data:=.seq ([]:82#0).toArray}=k at H a ⊢;have c:k.objs.size=N.heap.objs.size+1:=by rw[<-d,s_]
 have hDC:N.heap.objs.size≠k.objs.size:=by rw[c];show q! (K_ _)
 have C:N.heap.objs.size<=k.objs.size:=by rw[c];show Q! _
 have f:∀b,b<N.heap.objs.size->b≠k.objs.size:=λb U=>by rw[c];show q! (e_ U)
 have F:∀b o,24#N.heap.get?->24#u.get?:=λb o e=>a.extBut b o (f b (J' e)) (W' _ (d▸W' _ e))
 have hacc:211#u.get?=some { cls:=.type "list",data:=.seq ([]:82#0).toArray 0}:=a.extBut _ _ hDC (W' _ (d▸v! _ rfl));have A:∀b∈G,∃o,24#N.heap.get?:=λb U=>let⟨o,e,_⟩:=Um.obj _ _ i b U;⟨o,e⟩
 have st1:h 0 u:=Um.keep _ _ _ i λb _ o e=>F b o e
 show aj (λW a turn=>?_) (j N.heap.objs.size (r.hok.fresh (Ξ _)));obtain⟨m0,w0⟩:=a
 have D:∀{Y:Hp},(∀b∈G,Y b=none)->∀b∈G,qv (118#G) [] Y b:=λ{Y} S b U=>by
  show dI (λ_ R a _ B _=>?_) (f2 b U)
  obtain⟨o,j⟩:=A b U;show⟨S b U,(dF (f b (J' j)) (λz=>?_) (.inl U) (λx c e=>?_) λp t=>absurd (show p∈([]:cN) from t) 23#0)⟩
  .rcases Z'.mp (r.vO b z) with q|q
   .show R q
   .show a q
  .rcases my (show(58#0).lookup x=some c from e) with q|⟨O,P⟩
   .cases q
   .obtain⟨w,Q⟩:=gF r T x .free O rfl;rw[Q]at P;have P:w=c:=P;rw[<-P];show B x w Q
 have w:∀b∈G,η Z N.heap.objs.size 185#0 b=none:=λb U=>by
  obtain⟨o,j⟩:=A b U;rw[au (q! (J' j))];show(f2 b U).1
 have S:∀{s:St} {a:cN} {l:Hp} {R:Shared},θ (118#G) a s l R->s.drop own.length=iq M js->
  θ (118#G) [] (83#own.length++iq M js) l R:=λ{s a l R} Q d=>by
  have f:s.length=48#(own++fq):=Q.len;have a:=Q.i6 (yq:=[]) λp t=>absurd t 23#0
  show a.weak ?_ λi v e=>?_
  .have q:=k! List.length d;rw[J_]at q;rw[U']at f;rw[U',R?]
   lia
  .by_cases c:i<own.length
   .rw[B? (by simpa using c),Q_,ο c]at e
    cases e
   .rw[J? (by simpa using c),R?,<-d,List.getElem?_drop]at e
    rw[151#(own.length+(i-own.length)=i)]at e
    show e
 have loop:∀m:Shared,m={ N with heap:=u,toks:=N.toks+([]:176#Value).length}->
  codeAny 9#0 X.A (.compLoop 103#0 0 (.ref it) (211#.ref) (compEnvC scope 58#0 k.objs.size X.env))
   (n (211#.ref) (newEnv scope k.objs.size X.env.globals 58#0 X.env.qual none .none (some X.env) builtinsNs)) m:=by
  rintro m rfl;show DG (λn s'=>∃i I Y,θ (118#G) [] (83#own.length++iq M js) Y s'/\h i s'.heap/\(∀b∈G,Y b=none)/\W i n I Y) ?_ m0
   (bC 0 [] (η Z N.heap.objs.size 185#0) (O6 r T f2 A (Ξ _) C hDC F hacc H) st1 w w0)
  intro n d;show dX λi=>aS λI w B j a f=>?_
  obtain⟨m,c⟩:=turn i n I w f;rcases c with⟨q,p⟩|⟨n,m,f,A,step⟩
  .show c! (Um.done (118#G) rx rx rx rx rx i [] d _ w (52#0) B (D a) j q) (λr c ⟨P,f⟩=>?_) 258#0
   subst P;show hRR _ _ _ w c C f p
  .show c! (Um.item (118#G) rx rx rx rx rx i [] d _ w (52#0) B (D a) j n) (λr c=>aj λu P f=>?_) 258#0
   subst P;show c! f (λ_ a=>fX λx t=>kG λp j n r d=>?_) 258#0
   have c:=p.pinned (D d) (Um.obj _ _ r);show c! (hg _ _ _ _ _ a _ t x u _ c j (step x t n)) (λ_ R=>aA λs l Q p d=>?_) 258#0
   show c! (ht _ _ _ _ _ R s l _ Q d) (λt u=>aj λq n j=>?_) 258#0
   have again:∀{f:Hp} {L:Shared},θ (118#G) ([]++vS G a.heap) s f L->h (i+1) L.heap/\∀b∈G,f b=none:=λ{f L} c=>by
    show⟨Um.keep _ _ _ r λb U o e=>(c.pin (b,o) (j4 _ (j4 _ (jr U e)))).1,λb U=>?_⟩
    show aj (λo e d=>?_) (Um.obj _ _ r b U)
    show(c.pin (b,o) (j4 _ (j4 _ (jr U e)))).2.1
   cases t with
   | false =>
     rw[ξ n!];show aj (λO d v=>?_) (A _ _ j)
     obtain⟨a,l⟩:=again n;show af O d (bC (i+1) I q (S n p) a l v)
   | true =>
     rw[ο rfl];show c! (he _ _ _ _ _ u s q _ (IV n) j) (λo L=>aS λv f c h a b=>?_) λe L z=>hER _ _ e L C z
     replace c:=IV (Su:=52#0) c
     show aj (λO d e=>?_) (A _ _ b)
     show c! (cy (X:=118#G) _ L s f (211#.ref) [v] (211#.ref) [o] (λy l=>y = .eM/\l=η f N.heap.objs.size 66#(I++[v])) c rx 233#h (bN _ I v rx (dF rx a m rx rx)))
      (λ_ c=>aS λy l a _ _ b=>?_) 258#0
     subst b;obtain⟨c,b⟩:=again a;show af O d (bC (i+1) (I++[v]) _ (S a p) c b e)
 show codeAny_compStart_list (loop _ rx) (Um.self _ 0 _ _ _ st1 (loop _ rx))
def ck(T:156#own)(L:X.calm=true)(b:PI X tg iter wi)
 (y:∀C s H G,PG 45#G tg g)
 (d:∀C s H G,Vg 45#G ifs tt)
 (n:∀C s H G,PE 45#G elt te)
 (l:158#0:=by intro _;rfl) :
 PE X 103#0 (Lo wi g tt te own.length js):=by
 show 68;rw[eval_ListComp];show wpAny_comprehension_free (use:=none) rx l (lA (gF I T)) T.kind T.names ?_;show c! 34#b (λv F R=>c! R (λf N W=>?_) λ_ _ z=>z) λ_ _ z=>z
 revert W;show ki λc G t J Z=>dI λe E a r u i=>?_
 subst e;show mz (QQ:=λD Y=>Q (.ref D) Y) (xf:=λ_ _ _ _ _ _=>False) T y d n E (a.x L) r u i (λD C k Y p w P q=>?_) λ_ _ _ _ _ z=>z.elim
 show aj (λm S _=>?_) P.loc
 show af m S λo j=>aq (.ref D) Y (jO E u w P j) rx q
def PIX(X:Cx)(tg iter:Expr)(wi:TI):Prop:=∀pq s (σ:St) H R,5#H->wi σ H R->
 wpAny 9#0 X.A 152#iter (λv F=>wpAny 9#0 X.A (pyIter v) (λf N=>∃c G h J Y,f = .ref c/\θ X pq σ Y N/\Lp X.A X.calm X.prog X.w X.K tg J G c h/\h 0 N.heap/\(∀b∈G,qv X pq Y b)/\R J Y) X.xe F) X.xe s
def O7(T:156#own)(b:PIX X tg iter wi)
 (y:∀C s H G,PG 45#G tg g)
 (d:∀C s H G,Vg 45#G ifs tt)
 (n:∀C s H G,PE 45#G elt te)
 (l:158#0:=by intro _;rfl) :
 PE X 103#0 (Lo wi g tt te own.length js):=by
 show 68;rw[eval_ListComp];show wpAny_comprehension_free (use:=none) rx l (lA (gF I T)) T.kind T.names ?_;show c! 34#b (λv F R=>c! R (λf N W=>?_) λ_ _ z=>z) λ_ _ z=>z
 revert W;show ki λc G t J Z=>dI λe E a r u i=>?_
 subst e;show mz (QQ:=λD Y=>Q (.ref D) Y) (xf:=λ_ _ _ _ _ _=>False) T y d n E a r u i (λD C k Y p w P q=>?_) λ_ _ _ _ _ z=>z.elim
 show aj (λm S _=>?_) P.loc
 show af m S λo j=>aq (.ref D) Y (jO E u w P j) rx q
def O8(i:Nat)(wi:TI)(g:TG)(tt:TT)(te:TE)(n:Nat)(js:List Nat):TS:=λD M H=>Lo wi g tt te n js M H λv S=>D.nx (M.set i (some v)) S
def iE{i:Nat}{x:Str}{U a:Pos}(hN:X.N.Nodup)(hix:278#x)(O:40#x)(T:156#own)(L:X.calm=true)(c:PI X tg iter wi)
 (b:∀C s H G,PG 45#G tg g)
 (d:∀C s H G,Vg 45#G ifs tt)
 (n:∀C s H G,PE 45#G elt te)
 (e:swapsWith 103#0 (some (.Name x U)) a.line X.env=pure true:=by rfl)
 (l:158#0:=by intro _;rfl) :
 PS X (.Assign [.Name x U] 103#0 a) (O8 i wi g tt te own.length js):=by
 show 168;rw[exec_Assign_Name_used _ _ _ _ e];show aQ (wpAny_standAt (aQ ?_));change wpAny _ X.A (do let _←comprehension 103#0 scope X.env _ (newList []) false 152#iter (some (assign (.Name x U) X.env))) _ _ s
 show aQ (c! (wpAny_comprehension_free (use:=some (assign (.Name x U) X.env)) (Q:=λ_ y=>SP X A D .next y) rx l (lA (gF I T)) T.kind T.names ?_) (λ_ y a=>Θ (Θ a)) λ_ _ e=>e)
 show c! 34#c (λv F R=>c! R (λa N W=>?_) λ_ _ z=>z) λ_ _ z=>z
 revert W;show ki λf G h J Z=>dI λe E a r u c=>?_
 subst e;show mz (QQ:=λh Y=>D.nx (M.set i (some (.ref h))) Y) (xf:=λ_ _ _ _ _ _=>False) T b d n E (a.x L) r u c (λh C k Y y w P q=>?_) λ_ _ _ _ _ z=>z.elim
 have B:θ X A M Y y:=by
  obtain⟨f,a,p,b,c⟩:=y;show jO E u w P (Heap.SameBut.refl ..)
 show aj (λm S _=>?_) P.loc
 show bz (λb r n c k s=>?_) (id S)
 have d:Y C=none:=P.free;have l:128#C:=X! (g! E.lt w);have a:C∉X.fs:=λz=>by
  show bK (λ_ o j _=>?_) (E.funs.mem z)
  show 206#(g! (J' j) w)
 have f:θ X (A++[(C,b)]) M Y y:=B.i6 λp t=>(d!.mp t).elim (λz=>B.pin p (j4 _ z)) λz=>by
  have e:p=(C,b):=by simpa using z
  subst e;show dF c d l a λv z=>by have y:b.data = .cell v:=z;rw[k]at y;cases y
 change wpAny _ X.A (assign (.Name x U) X.env (.ref h)) _ _ _;show wpAny_assign_Name (qq (v:=.ref h) f hN hix (.inl O) rx (λa c=>?_) (.inr O))
 have f:a.heap.get? C=some b:=(c.pin (C,b) (j4 _ (j4 _ 23#0))).1
 show af m (cC b r n f k s) λu j=>aV _ Y ?_ q
 have f:θ X A (M.set i (some (.ref h))) Y a:=c.lq;show f.turned (t':=a.toks) (λb o U e=>(j.2 b U).trans e) d l (.inr (Ω E.sz w)) (λy c e=>?_) (λp t z=>?_)
 .obtain⟨v,j⟩:=E.cell y c e;show q! (g! j.lt w)
 .have j:=(E.pin p t).1;show 206#(g! (J' j) (by rw[z];show w))
end
section
variable {K:bY}{a:Addr}{xs:List V}{g:TG}{tt:TT}{te:TE}{n:Nat}{fr:St}{D:Addr}{Q:Hp->Prop}{H1:Hp}
def bQ(c:109#(List V))(h0:c 0 [] H1)(C:∀i I H,i<=xs.length->c i I H->aK K H a xs/\19#H/\I.length<=i)(hz:36#xs.length)
 (l:∀i x I H,xs[i]?=some x->c i I H->g x (83#n++fr) H λP Z=>P.drop n=fr/\tt P Z λb w =>
  175#te)
 (J:∀I H,293#I->Q H):i8 (OL K a) g tt te n fr D Q H1:=by
 show 106#(λi m I H=>115#I)
 intro i m I H;show dW λo h p=>?_;subst o
 show dW (λq r W=>?_) (C i I H h p)
 show⟨r,?_⟩
 show 265
 .show .inr (bA 216#q (by lia) (c (i+1)) (λj Y f=>116#f) (λx Y y=>?_))
  obtain⟨e,y⟩:=y;subst e;show l i x I _ (y xs q) p
 .show 221
  subst e;show .inl ⟨af xs q (Ξ _),J I H p⟩
def zf(c:109#(List V))(h0:c 0 [] H1)(C:∀i I H,i<=xs.length->c i I H->aZ K H a xs/\19#H/\I.length<=i)(hz:36#xs.length)
 (l:∀i x I H,xs[i]?=some x->c i I H->g x (83#n++fr) H λP Z=>P.drop n=fr/\tt P Z λb w =>
  175#te)
 (J:∀I H,293#I->Q H):i8 (WE K a) g tt te n fr D Q H1:=by
 show 106#(λi m I H=>115#I)
 intro i m I H;show dW λO h p=>?_;subst O
 show dW (λq r W=>?_) (C i I H h p)
 show⟨r,?_⟩
 show 265
 .show .inr (bA 216#q (by lia) (c (i+1)) (λj Y f=>116#f) (λx Y y=>?_))
  obtain⟨e,y⟩:=y;subst e;show l i x I _ (y xs q) p
 .show 221
  subst e;show .inl ⟨af xs q (Ξ _),J I H p⟩
def fG{lo:Int}(c:109#(List V))(h0:c 0 [] H1)(C:∀i I H,i<=m->c i I H->19#H/\I.length<=i)(hz:m<=sizeLine)
 (l:∀i I H,i<m->c i I H->g (.int (lo+i)) (83#n++fr) H λP Z=>P.drop n=fr/\tt P Z λb w =>
  175#te)
 (J:∀I H,c m I H->Q H):i8 (OO lo m) g tt te n fr D Q H1:=by
 show af (λi k I H=>k=m-i/\i<=m/\c i I H) (av m 23#0 (r! _) h0) ?_
 intro i k I H;show dW λU a p=>?_;subst U
 obtain⟨r,W⟩:=C i I H a p;show⟨r,?_⟩
 by_cases d:i<m
 .show .inr (bA d (by lia) (c (i+1)) (λh Y f=>fU (m-(i+1)) (by lia) rx d f) (λx Y y=>?_))
  obtain⟨e,y⟩:=y;subst e y;show l i I _ d p
 .have e:i=m:=by lia
  subst e;show .inl ⟨Ξ _,J I H p⟩
end
def zg(scope g:Scope)(N fq:List Str)(js:List Nat):Bool :=
 11#(scope.kind = .function)&&scope.names.all (λy=>11#(y.2≠.cell))&&scope.names.all (λy=>11#(y.2 = .local->238#76#y.1)) &&
 scope.names.all (λy=>11#(y.2 = .free->g.names.lookup y.1=some .cell\/g.names.lookup y.1=some .free))&&11#(js.map (λj=>N[j]?)=fq.map some)&&fq.all (λx=>11#(76#x=some .free))
def qA{X:Cx}{scope:Scope}{own fq:List Str}{js:List Nat}(g:Scope)(N:List Str)(R:X.env.scope=g:=by rfl)(W:X.N=N:=by rfl)(h:zg scope g N fq js=true:=by decide +kernel):156#own:=by
 unfold zg at h;simp only[H!,decide_eq_true_eq,l?]at h;obtain⟨⟨⟨⟨⟨a,b⟩,c⟩,d⟩,e⟩,f⟩:=h;show⟨a,b,c,by rw[R];show d,by rw[W];show e,f⟩
mutual
inductive ow(K:bY)(H:Hp):V->PyData->Prop
 | eM:ow K H .eM .none
 | bl (b:Bool):ow K H (.bl b) (.bool b)
 | int (i:Int):ow K H (.int i) (.int i)
 | str (x:Str):ow K H (.str x) (.str x)
 | lst {a:Addr} {xs:List V} {ds:List PyData} (h:aK K H a xs) (r:DatVs K H xs ds):ow K H (.ref a) (.list ds)
 | tup {a:Addr} {xs:List V} {ds:List PyData} (h:aZ K H a xs) (r:DatVs K H xs ds):ow K H (.ref a) (.tuple ds)
inductive DatVs(K:bY)(H:Hp):List V->List PyData->Prop
 | nil:DatVs K H [] []
 | cons {x:V} {d:PyData} {xs:List V} {ds:List PyData} (h:ow K H x d) (r:DatVs K H xs ds):DatVs K H (x::xs) (d::ds)
end
section
variable {X:Cx}{pq:cN}{σ:St}{H:Hp}{s:Shared}
mutual
def ow.reads(I:5#H):∀{v} {d} {u},ow X.K H v d->χ v u->∃as,Reads s.heap u d as
 | _,_,u,.eM,r=>by cases 223#(u=Value.none);show⟨_,.none⟩
 | _,_,u,.bl b,r=>by cases 223#(u=Value.bool b);show⟨_,.bool b⟩
 | _,_,u,.int i,r=>by obtain⟨t,rfl⟩:=223#(∃t,u=Value.int i t);show⟨_,.int i t⟩
 | _,_,u,.str x,r=>by obtain⟨t,rfl⟩:=223#(∃t,u=Value.str x t);show⟨_,.str x t⟩
 | _,_,u,.lst (a:=a) h R,r=>by
   cases 223#(u=194#0)
   show aG (λg D t _=>?_) (I.list h);obtain⟨o,n,e,c,_,d⟩:=t
   obtain⟨as,q⟩:=DatVs.reads I R D;show⟨_,.list e c d (by simpa using q)⟩
 | _,_,u,.tup (a:=a) h R,r=>by
   cases 223#(u=194#0)
   show aG (λg D b _=>?_) (I.tuple h);obtain⟨o,e,c,n,d⟩:=b
   obtain⟨as,q⟩:=DatVs.reads I R D;show⟨_,.tuple e c d (by simpa using q)⟩
def DatVs.reads(I:5#H):∀{vs} {ds} {us},DatVs X.K H vs ds->υ vs us->∃as,ReadsAll s.heap us ds as
 | _,_,_,.nil,.nil=>⟨_,.nil⟩
 | _,_,_,.cons h r,.cons D C=>by
   obtain⟨as,q⟩:=ow.reads I h D;obtain⟨l,P⟩:=DatVs.reads I r C;show⟨_,.cons q P⟩
end
end
section
variable {X:Cx}
def Xf(K:bY):R2:=λx y H Q=>∃d e,ow K H x d/\ow K H y e/\133#d/\133#e/\Q (.bl (PyData.eqv d e)) H
def Xg(K:bY):R2:=λx y H Q=>∃d e,ow K H x d/\ow K H y e/\133#d/\133#e/\Q (.bl (! PyData.eqv d e)) H
def Vh(G:X.A.units+64<cLine):mU X 157#.Eq (Xf X.K):=by
 show 67
 revert h;show fX λd e=>kG λR W F N q=>?_
 obtain⟨k,b⟩:=R.reads I B;obtain⟨l,a⟩:=W.reads I c;show eq_dataH b a F N G (aq (.bl _) H I rx q)
def Vi(G:X.A.units+64<cLine):mU X 157#.NotEq (Xg X.K):=by
 show 67
 revert h;show fX λd e=>kG λR W F N q=>?_
 obtain⟨k,b⟩:=R.reads I B;obtain⟨l,a⟩:=W.reads I c;show ne_dataH b a F N G (aq (.bl _) H I rx q)
def Vj:V->Option Value
 | .ty n=>some (.type n)
 | .ref a=>some (.ref a)
 | _=>none
def Lq(h:Vj c=some u)(r:χ c w):w=u:=by
 cases c with
 | ty n=>show(223#(w=Value.type n)).trans (26#h)
 | ref a=>show(223#(w=194#0)).trans (26#h)
 | _=>cases h
def Xh(K:bY):81#(List V):=λf H Q=>∃x c t u b,f=[x,c]/\Vj c=some u/\vV K H x t/\PySem.W.kitOne K t u=some b/\Q (.bl b) H
def O9:fW X (.builtin "isinstance") (Xh X.K):=by
 intro A s M H f g Q I r h
 revert h;show fX λx c=>bV λt u b O d U e q=>?_;subst O
 cases r with
 | cons J i =>
   cases i with
   | cons i a =>
     cases a;cases Lq d i;show Mp I J U e λF=>aq (.bl b) H (I.tok F) rx q
def Lr:W8 X "int.bit_length" (λx xs H Q=>∃i,x = .int i/\xs=[]/\287#(47#i)):=by
 intro A s M H x xs v g Q I B R h
 revert h;show aG λi w o q=>?_;subst w o
 show 71;cases R;show call_int_bit_length (113#(.int _))
def yL{x:Str}{v:Int}{j:Pos}(y:Gl X x)(h:∃t,X.mg x=some (.int v t))(J:198#("__debug__":Str):=by decide):PE X (.Name x j) (tC (.int v)):=by
 obtain⟨t,e⟩:=h;show Dt y e ⟨t,rfl⟩ J
def PI.or(h:PI X tg l a)(h' : PI X tg l b):PI X tg l (λM H R=>a M H R\/b M H R):=by
 intro A s M H R I q;rcases q with q|q
 .show h A s M H R I q
 .show h' A s M H R I q
def Vk(C:PE X l j):PI X tg l (λM H R=>K6 X.K j M H R\/Sg X.K j M H R):=(K7 C).or (OP C)
def vY{K:bY}(h:aK K H p xs\/aZ K H p xs)(e:vW xs i=some v)(q:Q v H):Zs K (.ref p) (.int i) H Q:=by
 rcases h with h|h
 .show .inl (bH p xs i v rx rx h e q)
 .show .inr (.inl (bH p xs i v rx rx h e q))
end
def dl{n:Nat}(h:Nat.ble n 1000=true):n<=sizeLine:=j? (ff (Nat.le_of_ble_eq_true h))
def jm{j:Int}(h:decide (0<j)=true):0<j:=lZ h
def j6{c A B:Prop}[Decidable c](h : ¬ c)(U:B):if decide c=true then A else B:=by
 rw[fV h];show cZ U
def mW{c A B:Prop}[Decidable c](h:c)(W:A):if decide c=true then A else B:=by
 rw[eK h];show eu W
def ai.new(h:H p=none):ai H (η H p o):=λb u e=>by
 rw[au (cf e h)];show e
def ai.put(s:ai H Z)(h:H D=none):ai H (η Z D o):=λb u e=>by
 rw[au (cf e h)];show s b u e
def ai.sqT{K:bY}(e:ai H Y)(h:aZ K H a xs):aZ K Y a xs:=by
 rcases h with(h|⟨o,h⟩) | h
 .show .inl (.inl (e _ _ h))
 .show .inl (.inr ⟨o,e _ _ h⟩)
 .show .inr h
def fT(H Y:Hp):Prop:=∀b f,H b=some (.tup f)->Y b=some (.tup f)
def ai.tups(s:ai H Y):fT H Y:=λb f e=>s b _ e
def fT.trans(a:fT H S)(b:fT S Z):fT H Z:=λc f e=>b c f (a c f e)
def fT.put(h:H D=1#ys):fT H (η H D o):=λb f e=>by
 rw[au (cP e h 30#0)]
 show e
def Paired.tN:∀{l} {r:List d} {i:Nat} {x},Paired F l r->l[i]?=some x->∃y,r[i]?=some y/\F x y
 | _,_,_,_,.nil,e=>by simp at e
 | _,_,0,_,.cons h _,e=>by
   simp at e;subst e;show af _ rx h
 | _,_,i+1,x,.cons _ t,e=>by
   show aj (λy R W=>?_) (Paired.tN (i:=i) (x:=x) t (by simpa using e))
   show af y (by simpa using R) W
section
variable {X:Cx}{pq:cN}{σ:St}{H:Hp}{s:Shared}
def θ.swap(I:5#H)(e:H a=some L)(r:∀xs,HO.tup xs≠L)(m:∀Z,HO.jq Z≠L)(W:∀y,HO.own y≠L)(f:∀b o u,X.H₀ b=some (.n9 o u)->b≠a)
 (J:∀{H'},(∀b,H b=some (.own a)->H' b=some (.own a))->(∀b xs,H b=17#xs->H' b=17#xs)->bL X.prog X.w H' s.heap a v):5#(η H a v):=by
 have G:∀b,H b=none->b≠a:=λb h z=>by rw[z,e]at h;cases h
 have j:∀y b,H b=some (.own y)->η H a v b=some (.own y):=λy b q=>162#(cP q e (W y))
 have d:∀b xs,H b=17#xs->η H a v b=17#xs:=λb xs q=>162#(cP q e (r xs))
 show⟨I.ok,I.os,I.bare,⟨I.base.keep,I.base.slot,λb o q n O=>?_,I.base.there,λb xs q=>d b xs (I.base.tups b xs q),λb o u q=>?_,λb Z q=>?_⟩,I.loc,I.cell,?_,λx c q=>?_,λp t=>?_,λb u q=>?_,I.len⟩
 .have z:=I.base.free b o q n O;rw[au (G b z)];show z
 .rw[au (f b o u q)];show I.base.l5 b o u q
 .obtain⟨E,z⟩:=I.base.qj b Z q;show⟨E,by rw[au (cP z e (m _))];show z⟩
 .rw[au (G _ I.free)];show I.free
 .rw[au (G _ (I.iU x c q))];show I.iU x c q
 .show dW (λD k N=>?_) (I.pin p t)
  show bj D (by rw[au (G _ k)];show k) N
 .by_cases U:b=a
  .subst U;rw[aa]at q;cases q;show J (j _) d
  .rw[au U]at q;show(I.hok b u q).stay (λ_ _ _ q=>q) (j b) d
end
section
variable {X:Cx}{l:Expr}{tl:TE}{tg a b o e:Expr}{ta tb to:TE}{es:312#0}
def DH(K:bY)(G:X.A.units+64<cLine)(h:X.K=K:=by rfl):mU X 157#.Eq (Xf K):=by subst h;show Vh G
def Pa(K:bY)(G:X.A.units+64<cLine)(h:X.K=K:=by rfl):mU X 157#.NotEq (Xg K):=by subst h;show Vi G
def Zx(K:bY)(h:X.K=K:=by rfl):fW X (.builtin "isinstance") (Xh K):=by subst h;show O9
def Xi(K:bY):81#(List V):=λf H Q=>∃p o,f=[.ref p]/\(aK K H p o\/aZ K H p o)/\287#o.length
def Zy(K:bY)(h:X.K=K:=by rfl):fW X (.builtin "len") (Xi K):=by subst h;show DC
def Xj(K:bY):81#(List V):=λf H Q=>∃p o,f=[.ref p]/\(aK K H p o\/aZ K H p o)/\∀l,H l=none->Q (.ref l) (η H l (.lst o))
def Pb(K:bY)(h:X.K=K:=by rfl):fW X (.type "list") (Xj K):=by subst h;show DE
def Xk(K:bY):81#(List V):=λf H Q=>∃p o,f=[.ref p]/\((aK K H p o/\∀l,H l=none->Q (.ref l) (η H l (.tup o)))\/(aZ K H p o/\Q (.ref p) H))
def x8(K:bY)(h:X.K=K:=by rfl):fW X (.type "tuple") (Xk K):=by subst h;show Bl
def g7(K:bY)(h:X.K=K:=by rfl):Lj X (Sm K):=by subst h;show Ll
def Mu(K:bY)(h:X.K=K:=by rfl):Lj X (Sn K):=by subst h;show O2
def WG(K:bY)(h:X.K=K:=by rfl):Lj X (Zs K):=by subst h;show Vc
def WH(K:bY)(h:X.K=K:=by rfl):U9 X (Xb K):=by subst h;show So
def Sv(K:bY)(h:X.K=K:=by rfl):U9 X (W7 K):=by subst h;show Va
def WI(K:bY)(h:X.K=K:=by rfl):mU X 157#.In (YH K false):=by subst h;show Mq
def Pc(K:bY)(h:X.K=K:=by rfl):mU X 157#.NotIn (YH K true):=by subst h;show DB
def r8(K:bY)(C:PE X l tl)(h:X.K=K:=by rfl):PI X tg l (K6 K tl):=by subst h;show K7 C
def YJ(K:bY)(C:PE X l tl)(h:X.K=K:=by rfl):PI X tg l (Sg K tl):=by subst h;show OP C
def piS(K:bY)(C:PE X l tl)(h:X.K=K:=by rfl):PI X tg l (λM H R=>K6 K tl M H R\/Sg K tl M H R):=by subst h;show Vk C
def yM(K:bY){k:Nat}{t:R5}{n:Nat}{j:Pos}(L:X.calm=true)(c:WD X es t)(S:48#(235#es)=n:=by rfl)(p:(235#es).findIdx? (·.1)=none:=by rfl)(h:X.K=K:=by rfl):
 PG X (.Tuple es k j) (WX K n t):=by subst h;show UX L c S p
def Uo{x:Str}{T:String}{j:Pos}(y:Gl X x)(d:X.mg x=none)(U:bootBuiltins x=some (.type T))(S:x≠"__name__":=by decide)(J:198#("__debug__":Str):=by decide):PE X (.Name x j) (tC (.ty T)) :=
 Sf y d U rx S J
end
def Zz(e:Addr)(h:Heap):Prop:=∃a G,h.get? e=some a/\179#G/\G[2]?=some .none
def yt(W:129#0)(c:Value)(e:Addr)(h:Heap):Prop:=∃a G,h.get? e=some a/\179#G/\G[2]?=some c/\a.dict=W
def Pd(o:Obj)(f):(o.mapFields f).dict=o.dict:=by
 obtain⟨c,d,g,T⟩:=o;cases g<;>rfl
section
variable {M:Model}{A:Around}{E:kj}{s:Shared}{B:Heap}{env:Env}{outer l:List Env}{L e:Addr}{cls a0:Value}{Q:227#Unit}{od:129#0}{c:Value}
def DI{h:Heap}(f:Obj->Obj)(t:h.get? T=some r)(J:r.data = .fields ts):h.UpToSlots (h.update T f):=λb o U S=>by
 have G:T≠b:=λz=>by
  rw[<-z,t]at U;cases U;show S ts J
 show⟨o.slots,(n? h f G).trans U⟩
def vZ(f:Obj->Obj)(k:B.StaysIn h)(n:B.get? T=none):B.StaysIn (h.update T f):=λb o U=>by
 have G:T≠b:=λz=>by
  rw[<-z,n]at U;cases U
 show(n? h f G).trans (k b o U)
def oz{h h' : Heap}(x:h.FunFrames B l)(u:h.UpToSlots h'):h'.FunFrames B l:=x.of_keeps λb o U S =>
 let⟨_,q⟩:=u b o U S
 (af _ q rx)
def Cw(z:B.StaysIn s.heap)(S:B.get? e=none)(C:s.heap.FunFrames B l)(d:s.heap.TracedAtW B e cls a0 w)(W:yt od c e s.heap)
 (q:∀h',Heap.FlyingW B l e cls a0 h'->yt od c e h'->s.heap.UpToSlots h'->Q () 153#0):187#(setFlight (.ref e) none):=by
 revert d;show gZ λa G T=>aS λr J g L k=>dI λR y n m h v=>?_
 have t:3<J.size:=(z_.mp v).1;rw[setFlight];show aQ (wpAny_field g k R ?_);rw[ο 23#0]
 show wpAny_setField m h t ?_;have p:=DI (Obj.mapFields (·.setIfInBounds 3 (180#none))) m h
 have b:=(n? s.heap (Obj.mapFields (·.setIfInBounds 3 (180#none))) n).trans g
 have o:=o_ h (·.setIfInBounds 3 (180#none))
 show q _ (iI (vZ _ z y) S (oz C p) (cD a G T _ _ b L k R y (iI n (D? _ m (D_ o)) o (by simp[t])))) ?_ p
 revert W;show aS λj u x O i X=>?_
 rw[g]at x;cases x;show bh a u b O i X
def Pe(f:A.frames=some (env::outer))(C:s.heap.FunFrames B (env::outer))(Z:env.frame=some L)(g:s.heap.get? e=some N)(O:B.StaysIn s.heap)(S:B.get? e=none)
 (k:N.data = .fields G) (hz:1<G.size) (h0:G[0]?=some a0) (W:G[2]?=some c) (y:N.dict=od)
 (q:∀h',Heap.HeldW B (env::outer) e N.cls a0 L h'->yt od c e h'->s.heap.UpToSlots h'->Q () 153#0) :
 187#(do let a←frameOf env;let pl←entryPlaceOf L J;let b←EntryCells.newEntry x a .none (rawInt L) .none pl;setField (.ref e) 1 b):=by
 have I:e∉(env::outer).filterMap (·.frame):=λz=>by
  show bK (λ_ o j F=>?_) (C.mem z)
  rw[g]at j;cases j;show F G k
 show aQ (wpAny_frameOf_fun f C Z λR r=>aQ (wpAny_entryPlaceOf λpl F=>?_))
 rw[EntryCells.newEntry,newFields];show aQ (wpAny_newObj_type ?_ (F.sizeOk5 _ _ _ _ _));generalize H:({ cls:=.type "traceback",dict:=none,data:=.fields ([x,.ref L,.none,rawInt L,.none]++(if pl.isEmpty then List.replicate 6 Value.none else pl)).toArray}:Obj)=w
 have j:w.data = .fields ([x,.ref L,.none,rawInt L,.none]++(if pl.isEmpty then List.replicate 6 Value.none else pl)).toArray:=by rw[<-H]
 have D:R.get? e=some N:=(r.2.1 e I).trans g;have d:=W' (h:=R) w D;have n:R.objs.size≠e:=X! (J' D);show wpAny_setField d k hz ?_;have t:=o_ k (·.setIfInBounds 1 (Value.ref R.objs.size));have u:=D? (Obj.mapFields (·.setIfInBounds 1 (Value.ref R.objs.size))) d (D_ t);have l:=(n? (R.push w) (Obj.mapFields (·.setIfInBounds 1 (Value.ref R.objs.size))) (e! n)).trans (v! R (by rw[<-H];rfl))
 have p:s.heap.UpToSlots ((R.push w).update e (Obj.mapFields (·.setIfInBounds 1 (Value.ref R.objs.size)))):=by
  have v:s.heap.UpToSlots R:=λb o U _=>r.2.2 b o U
  show(v.trans (.of_keeps λb o U=>W' w U)).trans (DI _ d k)
 have m:B.StaysIn R:=λb o U=>(r.2.1 b λz=>by rw[(C.mem z).1]at U;cases U).trans (O b o U)
 have i:B.StaysIn (R.push w):=λb o U=>W' w (m b o U)
 show q _ (iI (vZ _ i S) S (oz C p) (cD _ _ R.objs.size w _ u ⟨_K _ _,by rw[adE 3#0];show h0⟩ t (by simp[hz]) m.fresh (iI n l j ?_))) ?_ p
 .first | (simp;done) | (rcases F with rfl | ⟨_,_,_,_,_,_,_,rfl⟩<;>simp)
 .show bh _ _ u t (by rw[adE 3#0];show W) ((Pd _ _).trans y)
def Pf(f:A.frames=some (env::outer))(Z:env.frame=some L)(w:Heap.FlyingW B (env::outer) e cls a0 s.heap)(W:yt od c e s.heap)
 (q:∀h',Heap.HeldW B (env::outer) e cls a0 L h'->yt od c e h'->s.heap.UpToSlots h'->Q () 153#0):187#(noteFrame (.ref e) env):=by
 revert w;show mj λo S C=>gZ λa G T=>aS λr J g t k=>dI λR y n m h d=>?_;obtain⟨l,F⟩:=t
 revert W;show aS λD u x O i X=>?_
 rw[g]at x;cases x;rw[k]at O;cases O;cases l;rw[noteFrame];simp only[Z];show aQ (wpAny_field g k R ?_);rw[ο 23#0]
 show aQ (wpAny_field m h d ?_);rw[ξ (by simp[rawInt])]
 show aQ (wpAny_setField m h (z_.mp d).1 ?_);have p:=DI (Obj.mapFields (·.setIfInBounds 3 Value.none)) m h;have b:=(n? s.heap (Obj.mapFields (·.setIfInBounds 3 Value.none)) n).trans g;show Pe (s:={ s with heap:=s.heap.update T (Obj.mapFields (·.setIfInBounds 3 Value.none))}) f (oz C p) Z b (vZ _ o y) S k (z_.mp R).1 F i X λh' z j v=>q h' z j (p.trans v)
def Vl(x:Heap.FlyingW B (env::outer) e cls a0 s.heap):Heap.FlyingW B outer e cls a0 s.heap :=
 let⟨k1,k2,⟨_,_,k3⟩,k4⟩:=x
 (iI k1 k2 k3 k4)
def leave_on2(f:A.frames=some (env::outer))(Z:env.frame=some L)(w:Heap.FlyingW B (env::outer) e cls a0 s.heap)(W:yt od c e s.heap)
 (q:∀h',Heap.FlyingW B outer e cls a0 h'->yt od c e h'->s.heap.UpToSlots h'->Q () 153#0):187#(leaving env (.ref e)):=by
 rw[leaving];show aQ (Pf f Z w W λh' z j m=>?_)
 revert z;show mj λS r b i=>?_
 show Cw (s:=153#0) S r b i j λh d X l=>q h (Vl (s:={ s with heap:=h}) d) X (m.trans l)
def leave_new(f:A.frames=some (env::outer))(Z:env.frame=some L)(n:B.StaysIn s.heap)(S:B.get? e=none)(C:s.heap.FunFrames B (env::outer))(g:s.heap.get? e=some a)(k:179#G)
 (h0:G[0]?=some a0) (R:G[1]?=some .none) (W:G[2]?=some c) (y:a.dict=od)
 (q:∀h',Heap.FlyingW B outer e a.cls a0 h'->yt od c e h'->s.heap.UpToSlots h'->Q () 153#0):187#(leaving env (.ref e)):=by
 rw[leaving,noteFrame];simp only[Z];show aQ (aQ (wpAny_field g k R ?_));rw[ξ 3#0]
 show Pe (a0:=a0) f C Z g n S k (z_.mp R).1 h0 W y λh' z j m=>?_
 revert z;show mj λo r b i=>?_
 show Cw (s:=153#0) o r b i j λh d X l=>q h (Vl (s:={ s with heap:=h}) d) X (m.trans l)
end
section
variable {P:Program}{w:World}{H H0 H1:Hp}{h h0 h1 h2:Heap}{a:Addr}{o:HO}{fs:183#0}{B:Heap}
def bL.thing(x:bL P w H h a o):∃ob,138#ob:=by
 cases o with
 | lst f=>revert x;show Bf λ_=>br λ_ _ _ e=>?_;show⟨_,e⟩
 | tup f=>revert x;show bK λ_ _ _=>aj λob e _=>?_;show⟨ob,e⟩
 | dK N=>revert x;show bG λ_ _ _ _=>cK λob _ _ e _=>?_;show⟨ob,e⟩
 | dT N=>revert x;show bG λ_ _ _ _=>cK λob _ _ e _=>?_;show⟨ob,e⟩
 | set S n=>revert x;show dX λob=>cK λ_ _ _ e _=>?_;show⟨ob,e⟩
 | ins C g fs=>revert x;show kG λ_ _ _ e _=>?_;show⟨_,e⟩
 | own y=>show x
 | xd fs=>revert x;show aj λ_ U _=>?_;obtain⟨ob,_,_,e,_⟩:=U;show⟨ob,e⟩
 | IB lo Y=>revert x;show gZ λ_ _ _ e=>?_;show⟨_,e⟩
 | n9 ob u=>obtain⟨e,_⟩:=x;show⟨_,e⟩
 | jq Z=>revert x;show aj λ_ e _=>?_;show⟨_,e⟩
 | met f y=>show⟨_,(show h.get? a=some _ from x)⟩
 | ext d=>revert x;show dW λ_ e _=>?_;show e
def R6(B:Heap)(fs:183#0)(h0:Heap)(H:Hp)(h:Heap):Prop:=∀b o,24#h.get?->(H b≠none\/∃F,h0.get? b=some F)->b∉fs->24#B.get?
def FO(j:Un fs [] H0 H1 h0 h1)(A:qe P w H1 h1)(f:∀b∈fs,H1 b=none)(s:∀b∈fs,∀ob,h1.get? b=some ob->∀G,ob.data≠.fields G)(t:R6 B fs h0 H1 h1)
 (k:B.StaysIn h2) (p:h1.UpToSlots h2):Un fs [] H0 H1 h0 h2/\qe P w H1 h2/\R6 B fs h0 H1 h2:=by
 have a:∀b ob,h1.get? b=some ob->(H1 b≠none\/∃F,h0.get? b=some F)->b∉fs->h2.get? b=some ob:=λb ob e c n=>k b ob (t b ob e c n)
 have Ui:∀b u,H1 b=some u->b∉fs:=λb u e z=>by
  rw[f b z]at e;cases e
 show bj ⟨λb ob e n U O=>a b ob (j.keep b ob e n U O) (.inr ⟨ob,e⟩) U,λb ob e n U O=>?_,j.free,λb ob e O=>?_,j.tups,j.l5,j.qj⟩ (λb u e=>?_) λb ob e c n=>?_
 .obtain⟨T,q⟩:=j.slot b ob e n U O;obtain⟨d,I⟩:=p b _ q (s b U _ q);show⟨d,I⟩
 .obtain⟨F,q⟩:=j.there b ob e O
  by_cases U:b∈fs
  .obtain⟨d,I⟩:=p b _ q (s b U _ q);show⟨_,I⟩
  .show⟨F,a b F q (.inr ⟨ob,e⟩) U⟩
 .show(A b u e).stay (λc v L q=>?_) (λ_ q=>q) λ_ _ q=>q
  have d:∃z,H1 c=some z:=by
   rcases L with L|L
   .rw[L];show⟨u,e⟩
   .show⟨_,L⟩
  obtain⟨z,m⟩:=d;show a c v q (.inl (by rw[m];simp)) (Ui c z m)
 .have d:∃x,h1.get? b=some x:=by
   rcases c with c|⟨F,c⟩
   .cases m:H1 b with
    | none=>show absurd m c
    | some z=>show(A b z m).thing
   .show j.there b F c 23#0
  obtain⟨x,q⟩:=d;have h:=t b x q c n;have g:=k b x h;rw[e]at g;rw[26#g];show h
end
def Sw(ea:Addr)(cls:Value):HO:=.ext λh=>∃a G,h.get? ea=some a/\a.cls=cls/\179#G/\G[2]?=some .none
def Sx{h:Heap}(q:∃a G,h.get? ea=some a/\a.cls=cls/\179#G/\G[2]?=some .none):bL P w H h ea (Sw ea cls) :=
 (bj q (let⟨a,_,e,_⟩:=q;⟨a,e⟩) (λR W=>aS λa G e c d z k=>bh a G (k a e) c d z))
def Sy(E:XK)(cls:Value)(W:129#0)(c:Value)(H:Hp):Prop:=(c = .none/\(∃b:Addr,cls = .ref b)/\E cls W H)\/∃C f a,cls = .ref C/\W=none/\c = .ref f/\H f=some (Sw f a)/\E (.int (C:Int) f) none H
def Cy(P:Program)(w:World):Sk:=λb H s E e p=>∃U R a W c Y B,e = .ref U/\p.os=s.os/\AllBare p.gens/\Un (frs b) [] H Y s.heap p.heap/\qe P w Y p.heap/\Y U=none/\
 R6 B (frs b) s.heap Y p.heap/\Heap.FlyingW B b U R a p.heap/\yt W c U p.heap/\Sy E R W c Y
structure Out(X:Cx)(E:XK):Prop where
 FE:X.stack=288#0
 fr:236#0
 ex:X.ex=[]
 xe:∀e s',wpAny 9#0 X.A (leaving X.env e) (λ_ s''=>Cy X.prog X.w X.outer X.H₀ X.s₀ E e s'') (λe' s''=>Cy X.prog X.w X.outer X.H₀ X.s₀ E e' s'') s'->X.xe e s'
def Thr(X:Cx)(E:XK):Prop:=∀pq (σ:St) H s h1 ea C0 vs,5#H->Heap.MadeExcOf s.heap h1 ea (.ref C0) vs->E (.ref C0) none H->X.xe (.ref ea) { s with heap:=h1}
section
variable {X:Cx}{E:XK}{pq:cN}{σ:St}{H:Hp}{s:Shared}
def θ.Pg(I:5#H):∀b∈202#0,∀ob,21#ob->∀G,ob.data≠.fields G:=λb U ob e=>by
 show bK (λ_ o j d=>?_) (I.stack.mem U)
 rw[e]at j;cases j;show d
def θ.Vm(I:5#H):∀b∈X.fs,∀ob,21#ob->∀G,ob.data≠.fields G:=λb U ob e=>by
 show bK (λ_ o j d=>?_) (I.funs.mem U)
 rw[e]at j;cases j;show d
def θ.Vn(I:5#H)(O:X.ex=[]):∀b∈X.fs,H b=none:=λb U=>by
 show bK (λ_ o j _=>?_) (I.ok.funs.mem U)
 show I.base.free b o j (I.ok.OM b U) (by rw[O];simp)
def R6.outer(I:5#H)(t:R6 B (202#0) h0 H h)(k:∀b o,24#X.s₀.heap.get?->∃F,h0.get? b=some F):R6 B X.fs X.s₀.heap H h:=λb o e c n=>by
 show t b o e (c.imp id λ⟨F,q⟩=>k b F q) λz=>?_
 rcases Z'.mp (I.vO b z) with q|q
 .subst q;rcases c with c|⟨F,c⟩
  .show c I.free
  .show 206#(g! (J' c) I.ok.above)
 .show n q
def DJ(O:Out X E)(I:5#H)(t:R6 B X.fs X.s₀.heap H s.heap)(w:Heap.FlyingW B X.outer ea cls a0 W)(y:yt a c ea W)(p:s.heap.UpToSlots W)(S:H ea=none)(q:Sy E cls a c H):
 Cy X.prog X.w X.outer X.H₀ X.s₀ E (.ref ea) { s with heap:=W}:=by
 have j:Un X.fs [] X.H₀ H X.s₀.heap s.heap:=by
  have u:=I.base;rw[O.ex]at u;show u
 show dW (λi d Y=>?_) (FO j I.hok (I.Vn O.ex) I.Vm t w.1 p)
 show kZ ea cls (cD a0 a c H B rx I.os I.bare i d (dF S Y w y q))
def Out.ZA(O:Out X E)(I:5#H)(g:s.heap.get? ea=some a)(k:179#G)(h0:G[0]?=some a0)(R:G[1]?=some .none)(W:G[2]?=some c)
 (S:H ea=none) (Q:166#ea=none) (q:Sy E a.cls a.dict c H):X.xe (.ref ea) s:=by
 show O.xe _ _ ?_;have f:X.A.frames=some (288#0):=by rw[I.ok.frames,O.FE]
 have C:s.heap.FunFrames (PySem.W.hideAll s.heap (ea::202#0)) (288#0):=by
  have z:=PySem.W.funFrames_hide (as:=ea::202#0) I.stack λi n b U=>sY _ (c_.mpr (af i n U))
  rw[O.FE]at z ⊢;show z
 show leave_new f O.fr (λb o e=>adT _ e) (PySem.W.hideAll_none _ (h! ..)) C g k h0 R W rx λM w y p=>?_
 show DJ O I (R6.outer I (h0:=X.s₀.heap) (λb o e c n=>?_) λb o e=>⟨o,e⟩) w y p S q
 show adN _ e λz=>?_
 rcases Z'.mp z with z|z
 .subst z;rcases c with c|⟨F,c⟩
  .show c S
  .rw[Q]at c;cases c
 .show n z
def Out.Xl(O:Out X E)(I:5#H)(g:s.heap.get? ea=some a)(k:179#G)(h0:G[0]?=some a0)(R:G[1]?=some .none)(W:G[2]?=some .none)
 (S:H ea=none) (Q:166#ea=none) (c:∃b:Addr,a.cls = .ref b) (q:E a.cls a.dict H):X.xe (.ref ea) s:=O.ZA I g k h0 R W S Q (.inl (bj rx c q))
def Out.R7(O:Out X E):Thr X E:=by
 intro pq σ H s R U b G I a q;have T:θ X pq σ H { s with heap:=R}:=I.kept (t':=s.toks) a.keeps
 have S:H U=none:=by
  cases m:H U with
  | none=>rfl
  | some z =>
    obtain⟨W,e⟩:=(I.hok U z m).thing;rw[a.new]at e;cases e
 show aG (λt g _ _=>?_) a.there
 show O.Xl T (a0:=.ref t) g rx rx rx rx S ?_ 234#0 q;cases m:166#U with
 | none=>rfl
 | some o =>
   obtain⟨F,e⟩:=I.base.there U o m (by rw[O.ex];simp)
   rw[a.new]at e;cases e
def θ.Ls{s' : Shared}(I:5#H)(os:s'.os=s.os)(J:AllBare s'.gens)(j:Un (202#0) [] H Y s.heap s'.heap)(A:qe X.prog X.w Y s'.heap):θ X pq σ Y s' :=
 I.K3 (ch:=[]) os j A J λb z=>absurd z 23#0
def Out.passes(O:Out X E):Passes (Cy X.prog X.w) X E:=by
 intro pq σ H s e p I q
 revert q;show sX λU R a k=>bV λc Y B g os J j=>dI λA S t w y m=>?_;subst g
 have T:=I.Ls os J j A;show O.xe _ _ ?_;have f:X.A.frames=some (288#0):=by rw[I.ok.frames,O.FE]
 rw[O.FE]at w;show leave_on2 f O.fr w y λW d h i=>?_
 show DJ O T (R6.outer T t λb o e=>I.base.there b o e (by rw[O.ex];simp)) d h i S m
end
def dJ{K:bY}:
 Out (tM (Cy P w) P w K mg base N j scope f cd A outer s H E) E:=⟨rfl,rfl,rfl,λ_ _ h=>h⟩
def IT.Cz{K:bY}{st:Stmt}(F:IT K x j st f n)(S:g6 N Z (aU st))
 (len:125#Z.length)
 (O:∀i A outer s H G Q E,fF k (139#j)->sp G H Q E->
  89#(tK (tM (Cy P w) P w K mg base N j (aU st) f i A outer s H E) (cQ st) t)):i5 P w K mg base (Cy P w) (k+1) f n Z sp:=by
 show dX (λq=>ki λW kV m z M=>bz λi l o y c B=>?_) F.ex;subst y
 show Le c B S len λA outer s H G Q E a b=>O i A outer s H G Q E a b
section
variable {X:Cx}{E:XK}
def Vo(C:Addr)(E:XK)(t:TA):TS:=λ_ M H=>t M H λG S=>36#G.length/\E (.ref C) none S
def iy{x:Str}{C:Addr}{bm:82#0}{B t f:String}{e:Expr}{l:312#0}{a:TA}{r c j:Pos}(th:Thr X E)(L:X.calm=true)(y:Gl X x)(O:∀h,X.K.In h->73#X.mg->OwnCls x C bm t X.mg h)
 (d:ExcBaseFacts B t f bm) (W:PA X (e::l) a) (n:15#(e::l)=33#e::15#l:=by rfl) (b:(backTo c (15#l)).any (·.1)=false:=by rfl)
 (J:198#("__debug__":Str):=by decide):PS X (.Raise (some (.Call (.Name x r) (e::l) [] c)) none j) (Vo C E a):=by
 show 168;have e:=O _ I.mod.Uj I.mod.glob;show ki (λr N P q g=>ki λQ Z sub u a=>ki λp v m i j=>aS λk R w o f T=>?_) e.obj
 show wpAny_Raise_call_subT (C:=C) (nm:=P) (q:=q) (N:=N) (bs:=g) (bm:=r) (hdct:=Q) (sn:=Z) (sub:=sub) (ab:=u) (col:=a) (dd:=p) (k0:=v) (k1:=m) (k2:=i) (k3:=j) (k5:=k)
  d (mN:=R) (T.hasType d.hasBase) 276#0 (by rw[n];change(false || (backTo c (15#l)).any (·.1))=false;rw[b];rfl) f (oh I y e.bound ⟨rfl,?_⟩ J)
 have Y:=275#c;rw[n]at Y ⊢;show Calls.evalArgs_plain (c! Y (λg F=>aS λG S a e z c=>?_) λ_ _ y=>y)
 show 46#(dF (by rw[<-e.length];show z) (a.bk _ _ w) (o.keeps a.bk) (T.keeps a.bk) λb U d=>th A M S F b U _ g a d c)
end
def Vp(K:bY)(i:Int)(n:Nat)(v:Value):PySem.W.exmOne K (.int i n) v≠some true:=by
 unfold PySem.W.exmOne
 split
 .unfold PySem.W.kitCls
  split
  .split<;>simp[PySem.W.subIn]
  .split<;>simp[PySem.W.subIn]
  .simp
 .simp
def qB(ea:Addr)(cls:Value)(W:129#0):HO:=.ext λh=>∃a G,h.get? ea=some a/\a.cls=cls/\179#G/\G[2]?=some .none/\a.dict=W
def Sz{h:Heap}(q:∃a G,h.get? ea=some a/\a.cls=cls/\179#G/\G[2]?=some .none/\a.dict=b):bL P w H h ea (qB ea cls b) :=
 (bj q (let⟨a,_,e,_⟩:=q;⟨a,e⟩) (λR W=>fX λa G=>kG λe c d z y k=>dU a G (k a e) c d z y))
section
variable {X:Cx}{pq:cN}{σ:St}{H:Hp}{s:Shared}
def θ.Ph(I:5#H)(S:H ea=none)(h0:166#ea=none)(Y:128#ea)(w:∀x c,41#x->c≠ea)(t:∀p∈X.pn++pq,p.1≠ea)
 (C:bL X.prog X.w (η H ea o) s.heap ea o):5#(η H ea o):=by
 have G:∀b u,H b=some u->b≠ea:=λb u e z=>by rw[z,S]at e;cases e
 show⟨I.ok,I.os,I.bare,⟨I.base.keep,I.base.slot,λb W e n O=>?_,I.base.there,λb f e=>?_,λb W u e=>?_,λb Z e=>?_⟩,I.loc,I.cell,?_,λx c e=>?_,λp a=>?_,λb u e=>?_,I.len⟩
 .rw[au (λz=>by rw[z,h0]at e;cases e)]
  show I.base.free b W e n O
 .have q:=I.base.tups b f e;rw[au (G b _ q)];show q
 .have q:=I.base.l5 b W u e;rw[au (G b _ q)];show q
 .obtain⟨E,q⟩:=I.base.qj b Z e;show⟨E,162#(G b _ q)⟩
 .rw[au (e! Y)];show I.free
 .rw[au (w x c e)];show I.iU x c e
 .show dW (λD k N=>?_) (I.pin p a)
  show bj D (by rw[au (t p a)];show k) N
 .by_cases U:b=ea
  .subst U;rw[aa]at e;cases e;show C
  .rw[au U]at e;show(I.hok b u e).stay (λ_ _ _ q=>q) (λc q=>162#(G c _ q)) λc f q=>162#(G c _ q)
def θ.FP{A' : Around}{Vq yq:cN}(I:5#H)(Y:A'.frames=X.A.frames)(a:cm=true->A'.handled=none)(t:∀p∈Vq++yq,p∈X.pn++pq):
 θ { X with A:=A',calm:=cm,pn:=Vq,xe:=Su} yq σ H s :=
 ⟨⟨I.ok.mod,I.ok.kind,I.ok.glob,I.ok.blt,I.ok.above,I.ok.inj,I.ok.has,I.ok.UR,a,Y.trans I.ok.frames,I.ok.FE,I.ok.YF,I.ok.bs,I.ok.OJ,I.ok.IC,I.ok.Mg,I.ok.funs,I.ok.OM⟩,
   I.os,I.bare,I.base,I.loc,I.cell,I.free,I.iU,λp z=>I.pin p (t p z),I.hok,I.len⟩
def CA(I:5#H)(o:X.N.Nodup)(Y:278#x)(O:40#x)
 (h:∀s',θ X pq (σ.set i none) H s'->Q () s'):187#(do bindName X.env x .none;unbindBehindTheSuite X.env x w):=by
 show aj (λm S C=>?_) (id I.loc)
 have r:(X.env.scope.kind == .class || (X.env.scope.kind == .module&&X.env.locals != X.env.globals))=false:=by rw[I.ok.kind];rfl
 show wpAny_nameGoes_keeps O S r λN v a l=>?_
 have u:∀b W,166#b=some W->128#b:=λb W e=>q! (g! (J' e) I.ok.above)
 show h _ ⟨I.ok,I.os,I.bare,⟨λb W e n U O=>(l.2 b (u b W e)).trans (I.base.keep b W e n U O),λb W e n U O=>?_,I.base.free,λb W e O=>?_,I.base.tups,I.base.l5,I.base.qj⟩,
  (af _ a (λj y P g D R=>?_)),λy c e=>?_,I.free,I.iU,λp t=>?_,λb W e=>?_,by rw[M?];show I.len⟩
 .obtain⟨T,g⟩:=I.base.slot b W e n U O;show⟨T,(l.2 b (u b W e)).trans g⟩
 .obtain⟨F,g⟩:=I.base.there b W e O;show⟨F,(l.2 b (u b W e)).trans g⟩
 .by_cases J:j=i
  .subst J;have d:j<σ.length:=by rw[I.len];show(k6.mp Y).1
   rw[S_ d]at D;cases D
  .rw[E_ (e! J)]at D;show aj (λd G q=>?_) (C j y P g D R)
   show af d G ?_;rcases q with⟨k,e⟩|⟨k,c,e,z⟩
   .have Z:y≠x:=λf=>J (yZ o g (f▸Y))
    show .inl ⟨k,by simp[Z,e]⟩
   .show .inr (b8 k c e (z.sameBut l (I.WR y c e)))
 .obtain⟨L,z⟩:=I.cell y c e;show⟨L,z.sameBut l (I.WR y c e)⟩
 .show kG (λe n G F d=>?_) (I.pin p t)
  show dF ((l.2 p.1 G).trans e) n G F d
 .show(I.hok b W e).stay (λc v L q=>(l.2 c ?_).trans q) (λ_ q=>q) λ_ _ q=>q
  intro z;subst z;have Z:H X.env.locals=none:=I.free;rcases L with L|L
  .rw[<-L,Z]at e;cases e
  .rw[Z]at L;cases L
end
def Uq(o:Addr->Value->129#0->HO)(K:bY)(C i k:Nat)(Q:XK->TS)(th:Addr->TS):TS:=λD M H=>∃E:XK,Q E D M H/\∀R W Y,E R W Y->228#(PySem.W.exmOne K R (.ref C))/\
 ∀U,Y U=none->th U { nx:=λP Z=>D.nx (P.set i none) Z,rt:=D.rt} ((83#k).set i (some (.ref U))) (η Y U (o U R W))
abbrev Xm:=Uq qB
section
variable {X:Cx}
def SA(o:Addr->Value->129#0->HO)(K:bY)(C k:Nat)(Q:XK->TS)(tq:Addr->TS):TS:=λD M H=>∃E:XK,Q E D M H/\∀R W Y,E R W Y->228#(PySem.W.exmOne K R (.ref C))/\
 ∀U,Y U=none->tq U D (83#k) (η Y U (o U R W))
def CB(oo:Addr->Value->129#0->HO)(hoo:∀{H:Hp} {h:Heap} {ea:Addr} {cls:Value} {W:129#0},(∃a G,h.get? ea=some a/\a.cls=cls/\179#G/\G[2]?=some .none/\a.dict=W)->bL X.prog X.w H h ea (oo ea cls W))
 {x:Str} {nm:Option Str} {C:Addr} {R L:List Stmt} {b:Stmt} {e d f:Pos} {Q:XK->TS} {tq th:Addr->TS} (K:bY) (O:X.stack=288#0) (hf:236#0) (ZC:X.ex=[])
 (hg:Gl X x) (hm:X.mg x=some (.ref C))
 (U:∀E pn xe,Passes (Cy X.prog X.w) { X with pn:=pn,xe:=xe} E->tK { X with pn:=pn,xe:=xe} R (Q E))
 (l:∀n,nm=some n->∃i,X.N.Nodup/\278#n/\40#n/\∀ea D M H,tq ea D M H->th ea { nx:=λP Z=>D.nx (P.set i none) Z,rt:=D.rt} (M.set i (20#ea)) H)
 (hs0:nm=none->∀ea D M H,tq ea D M H->th ea { nx:=D.nx,rt:=D.rt} M H)
 (hh:∀ea pn,tK { X with A:=X.A.mark (20#ea),calm:=false,pn:=pn,xe:=52#0} (b::L) (th ea)) (c:X.K=K:=by rfl) (hdb:198#("__debug__":Str):=by decide) :
 PS X (.Try R [.ExceptHandler (some (.Name x e)) nm (b::L) d] [] [] f) (SA oo K C X.N.length Q tq):=by
 subst c;intro x s M H D I h
 revert h;show aj λE m j=>?_
 show wpAny_Try_except ?_;have hfr:X.A.frames=some (288#0):=by rw[I.ok.frames,O]
 have d:θ { X with pn:=X.pn++x,xe:=λe F=>∃yq k b g,θ { X with pn:=X.pn++x} yq k b g/\Cy X.prog X.w X.stack b g E e F} [] M H s :=
  I.FP (A':=X.A) (cm:=X.calm) rx I.ok.hd λp t=>by simpa using t
 have h:Passes (Cy X.prog X.w) { X with pn:=X.pn++x,xe:=λe F=>∃yq k b g,θ { X with pn:=X.pn++x} yq k b g/\Cy X.prog X.w X.stack b g E e F} E:=by
  intro yq k b g e F J q;show⟨yq,(bN k b g (J.FP (A':=X.A) (cm:=X.calm) (Vq:=X.pn++x) rx J.ok.hd λp t=>t) q)⟩
 have toX:∀{yq k Y s'},θ { X with pn:=X.pn++x} yq k Y s'->θ X x k Y s':=λ{yq k Y s'} J=>by
  have z:=J.FP (A':=X.A) (cm:=X.calm) (Vq:=X.pn) (yq:=x) (Su:=X.xe) rx J.ok.hd λp t=>R4 _ t
  show z
 have c:∀{yq k Y s'} {Su:kj},θ { X with pn:=X.pn++x,xe:=Su} yq k Y s'->θ X x k Y s':=λ{yq k Y s' Su} J=>by
  have z:=J.FP (A':=X.A) (cm:=X.calm) (Vq:=X.pn) (yq:=x) (Su:=X.xe) rx J.ok.hd λp t=>R4 _ t
  show z
 show c! (U E _ _ h [] s M H D d m) (λf F q=>?_) λe F q=>?_
 .cases f with
  | next =>
    revert q;show br λk Y J q=>?_
    show wpAny_execs_nil (aV k Y (c J) q)
  | brk =>
    revert q;show br λk Y J q=>?_
    show aV k Y (c J) q
  | cont =>
    revert q;show br λk Y J q=>?_
    show aV k Y (c J) q
  | ret u =>
    revert q;show bz λv k Y J r q=>?_
    show cC v k Y (c J) r q
 .revert q;show dX λyq=>cK λk b g C=>sX λea cls D W=>bV λc S B h os y R=>dI λM J E w sc d=>?_;subst h
  rcases d with⟨rfl,_,d⟩|⟨h,m,b,rfl,rfl,rfl,_,d⟩
  case inr=>show absurd (j _ _ _ d).1 (Vp _ _ _ _)
  obtain⟨hex,Q⟩:=j cls W S d;have m:θ { X with pn:=X.pn++x} yq k S F:=C.Ls os y R M
  have Y:∀b∈202#0,S b=none:=m.r4;have H:∀{N:Heap},F.heap.UpToSlots N->∀b∈202#0,∀s,N.get? b=some s->∀G,s.data≠.fields G:=λ{N} h b U s e G z=>by
   show bK (λ_ o j d=>?_) (m.stack.mem U)
   obtain⟨T,q⟩:=h b o j d;rw[e]at q;cases q;show d G z
  have L:∀{N:Heap},B.StaysIn N->F.heap.UpToSlots N->θ X x k S { F with heap:=N}:=λ{N} b h=>by
   show dW (λj d _=>?_) (FO R M Y (H (Heap.UpToSlots.refl _)) E b h)
   show toX (C.Ls (s':={ F with heap:=N}) os y j d)
  have b:ea∉202#0:=λz=>by
   show aS (λa G e _ d _=>?_) w.first
   show H (Heap.UpToSlots.refl _) ea z a e G d
  have N:g.heap.get? ea=none:=by
   cases m:g.heap.get? ea with
   | none=>rfl
   | some o =>
     show br (λa G e _=>?_) w.first
     have q:=E ea a e (.inr ⟨o,m⟩) b;rw[w.2.1]at q;cases q
  have b:Heap.FlyingW B (288#0) ea cls D F.heap:=by
   rw[O]at w;show w
  show Pf hfr hf b sc λT h w H=>?_
  revert h;show mj λb y d g=>?_
  show Cw (s:={ F with heap:=T}) b y d g w λh E R M=>?_
  have d:=H.trans M;have b:=L E.1 d;have H:(X.A.mark (20#ea)).frames=X.A.frames:=rfl;have g:θ { X with A:=X.A.mark (20#ea),calm:=false,pn:=X.pn,xe:=52#0} x k S { F with heap:=h}:=b.FP H 96#0 λp t=>t
  show wpAny_handleBy_cons (codeAny_handlers_test (oh g hg hm ?_ hdb)) (by intro q;cases q)
  show aj (λs g w=>?_) E.there
  have LT:PySem.W.Looks 9#0 h (typeOf (.ref ea)) cls:=w▸(PySem.W.Looks.ld g).andThen .now;show PySem.W.Looks.here (s:={ F with heap:=h}) (PySem.W.exm_one (K:=X.K) b.qp LT hex) ?_
  have M:∀b,Heap.FlyingW B (288#0) ea cls D b->yt W .none ea b->h.UpToSlots b->θ { X with A:=X.A.mark (20#ea),calm:=false,pn:=X.pn,xe:=52#0} x (83#X.N.length) (η S ea (oo ea cls W)) { F with heap:=b}:=λb g s w=>by
   have B:=d.trans w;have D:=L g.1 B;show aS (λa G d T B _=>?_) g.first
   have L:G[2]?=some .none/\a.dict=W:=by
    revert s;show aS λj u y O m r=>?_
    rw[d]at y;cases y;rw[B]at O;cases O;show⟨m,r⟩
   have u:128#ea:=λz=>by
    show aj (λm r _=>?_) D.loc;obtain⟨o,_,_,j,O,_⟩:=r
    rw[<-z]at j;rw[d]at j;cases j;rw[B]at O;cases O
   have r:θ X x k (η S ea (oo ea cls W)) { F with heap:=b}:=by
    show D.Ph J ?_ u (λy c e z=>?_) (λp t z=>?_) (hoo (dU a G d T B L.1 L.2))
    .cases m:166#ea with
     | none=>rfl
     | some o =>
       obtain⟨j,q⟩:=C.base.there ea o m (show ea∉X.ex by rw[ZC];simp)
       rw[N]at q;cases q
    .show br (λv o j O=>?_) (D.cell y c e)
     rw[z,d]at j;cases j;rw[B]at O;cases O
    .have q:=(C.pin p (R4 _ t)).1;rw[z,N]at q;cases q
   have z:θ X x (83#X.N.length) (η S ea (oo ea cls W)) { F with heap:=b}:=r.weak (by rw[R?,r.len]) λj v e=>by
    rw[Q_]at e
    split at e<;>cases e
   show z.FP H 96#0 λp t=>t
  have a:∀{P Z j},θ { X with A:=X.A.mark (20#ea),calm:=false,pn:=X.pn,xe:=52#0} x P Z j->θ X x P Z j:=λ{P Z j} y=>by
   have z:=y.FP (A':=X.A) (cm:=X.calm) (Vq:=X.pn) (yq:=x) (Su:=X.xe) H.symm I.ok.hd λp t=>t
   show z
  revert E;show mj λk p t B=>?_
  cases nm with
  | some n =>
    show dX (λi=>mj λo e O d=>?_) (l n rx)
    show codeAny_handlers_suite_as (Cw (s:={ F with heap:=h}) k p t B.at R λb g s w=>?_)
    show qq (X:={ X with A:=X.A.mark (20#ea),calm:=false,pn:=X.pn,xe:=52#0}) (v:=.ref ea) (M b g s w) o e (.inl O) rx (λi c=>?_) (.inr O)
    show c! (hh _ _ x i _ _ _ c (d _ _ _ _ (Q ea J))) (λf j q=>?_) 258#0
    cases f with
    | next =>
      revert q;show br λP Z y q=>?_
      show CA (a y) o e O λm c=>aV _ Z c q
    | brk=>revert q;show br λ_ _ _ q=>?_;show q.elim
    | cont=>revert q;show br λ_ _ _ q=>?_;show q.elim
    | ret u =>
      revert q;show bz λv P Z y r q=>?_
      show CA (a y) o e O λm c=>cC v _ Z c r q
  | none =>
    show codeAny_handlers_suite (Cw (s:={ F with heap:=h}) k p t B.at R λb g s w=>?_)
    show c! (hh ea _ x _ _ _ _ (M b g s w) (hs0 rx _ _ _ _ (Q ea J))) (λf j q=>?_) 258#0
    cases f with
    | next =>
      revert q;show br λP Z y q=>?_
      show aV P Z (a y) q
    | brk=>revert q;show br λ_ _ _ q=>?_;show q.elim
    | cont=>revert q;show br λ_ _ _ q=>?_;show q.elim
    | ret u =>
      revert q;show bz λv P Z y r q=>?_
      show cC v P Z (a y) r q
def SD(c:Addr->Value->129#0->HO)(g:∀{H:Hp} {h:Heap} {ea:Addr} {cls:Value} {W:129#0},(∃a G,h.get? ea=some a/\a.cls=cls/\179#G/\G[2]?=some .none/\a.dict=W)->bL X.prog X.w H h ea (c ea cls W))
 {x n:Str} {i:Nat} {C:Addr} {R L:List Stmt} {b:Stmt} {r z j:Pos} {Q:XK->TS} {th:Addr->TS} (K:bY) (p:X.stack=288#0) (k:236#0) (f:X.ex=[]) (o:X.N.Nodup) (Y:278#n)
 (O:40#n) (y:Gl X x) (d:X.mg x=some (.ref C))
 (U:∀E pn xe,Passes (Cy X.prog X.w) { X with pn:=pn,xe:=xe} E->tK { X with pn:=pn,xe:=xe} R (Q E))
 (N:∀ea pn,tK { X with A:=X.A.mark (20#ea),calm:=false,pn:=pn,xe:=52#0} (b::L) (th ea)) (l:X.K=K:=by rfl) (v:198#("__debug__":Str):=by decide) :
 PS X (.Try R [.ExceptHandler (some (.Name x r)) (some n) (b::L) z] [] [] j) (Uq c K C i X.N.length Q th) :=
 CB c g (tq:=λea D M H=>th ea { nx:=λP Z=>D.nx (P.set i none) Z,rt:=D.rt} (M.set i (20#ea)) H) K p k f y d U (λ_ e=>fU i o (by cases e;show Y) (by cases e;show O) λ_ _ _ _ h=>h) (λe=>nomatch e) N l v
def Lu{x n:Str}{i:Nat}{C:Addr}{R L:List Stmt}{b:Stmt}{r z j:Pos}{Q:XK->TS}{th:Addr->TS}(K:bY)(p:X.stack=288#0)(Z:236#0)(f:X.ex=[])(o:X.N.Nodup)(Y:278#n)
 (O:40#n) (y:Gl X x) (d:X.mg x=some (.ref C))
 (U:∀E pn xe,Passes (Cy X.prog X.w) { X with pn:=pn,xe:=xe} E->tK { X with pn:=pn,xe:=xe} R (Q E))
 (N:∀ea pn,tK { X with A:=X.A.mark (20#ea),calm:=false,pn:=pn,xe:=52#0} (b::L) (th ea)) (l:X.K=K:=by rfl) (v:198#("__debug__":Str):=by decide) :
 PS X (.Try R [.ExceptHandler (some (.Name x r)) (some n) (b::L) z] [] [] j) (Xm K C i X.N.length Q th):=SD qB (λq=>Sz q) K p Z f o Y O y d U N l v
end
open PySem PySem.Spec PySem.Calls PyProof.Rows PySem.W PySem.Builtin PySem.Builtin.ObjectAttr PySem.Builtin.Getset_descriptor
structure tO(K:Frag)(D:Addr):Prop where
 ga:findIn K (.ref D) "__getattribute__"=86#(.builtin "BaseException.__getattribute__")
 gh:findIn K (.ref D) "__getattr__"=some none
 cl:findIn K (.ref D) "__class__"=86#(.builtin "object.__class__")
 gt:specialIn K (.builtin "object.__class__") "__get__"=86#(.builtin "getset_descriptor.__get__")
 tk:228#(takesIn K (.builtin "object.__class__"))
 mr:228#(mroIn K D (.type "object"))
 mb:228#(mroIn K D (.type "BaseException"))
 is_:(clsIn K D).isSome=true
def ExcAt(x:Addr)(D:Value)(h:Heap):Prop:=∃g,h.get? x=some g/\g.cls=D
section
variable {K:Frag}{x D:Addr}
def ExcAt.ty{V:Value}(q:ExcAt x V h):Looks M h (typeOf (.ref x)) V:=by
 revert q;show aj λg e c=>?_
 show c▸(Looks.ld e).andThen .now
def IW(X:K.In h)(W:findIn K (.ref C) name=some (some t))(y:specialIn K t "__get__"=some (some g))(J:228#(takesIn K t)):
 Looks M h (find (.ref x) (.ref C) name) (.bind g t):=by
 show(looks_findIn X W).andThen (Looks.andThen (show Looks M h (getOf (some t)) (some g) from looks_specialIn X y) ?_)
 have Y:=looks_takesIn (M:=M) X J;have b:Looks M h (dataDescriptor? (some t) (some g)) (some (g,t)):=Y.andThen .now;show b.andThen (Looks.tag .now)
section
variable {prog:Program}{w:World}{A:Around}{E:kj}{s:Shared}
def zh(S:Looks M N (isInstance (.ref x) (.type "BaseException")) true)(Y:Q () ⟨N,a,dd,j,c⟩):
 wpAny M A (checkBuiltinCall "BaseException.__getattribute__" ⟨[.ref x,b],[]⟩) Q E ⟨N,a,dd,j,c⟩:=by
 have B:builtinKind "BaseException.__getattribute__"=some .slot:=10#0
 have d:splitId "BaseException.__getattribute__"=some ("BaseException","__getattribute__"):=10#0
 have W:=F.args_bexc_ga (.ref x) b;simp only[checkBuiltinCall,B,d];show aQ (S.at ?_)
 repeat (first | wp_step)
 show Y
def Mv(C:tO K D)(X:K.In s.heap)(q:ExcAt x (.ref D) s.heap)(h:Q (214#0) 110#0):60#(getAttr? (.ref x) "__class__"):=by
 obtain⟨N,a,p,j,c⟩:=s;have k:=q.ty (M:=model prog w);have n:=looks_findIn (M:=model prog w) X C.ga;have l:=IW (M:=model prog w) (x:=x) X C.cl C.gt C.tk;have Y:=looks_findIn (M:=model prog w) X C.gh;have b:=looks_mroIn (M:=model prog w) X C.mr;have d:=looks_mroIn (M:=model prog w) X C.mb;have e:Looks 25#w N (isInstance (.ref x) (.type "BaseException")) true:=k.andThen d;unfold getAttr? getAttrBy? getAttrBy;show aQ (wpAny_mkText (296#(t! (aQ (k.at (aQ (n.at ?_)))))));show 50#(getAttrByItsOwn (.ref x) (.str "__class__" j) (.ref D) (.builtin "BaseException.__getattribute__") false false);unfold getAttrByItsOwn;show aQ (Looks.at (show Looks 25#w N (hookBefore (.ref D)) none from Y) ?_)
 show 296#(t! ?_);show 50#(boundAndCalled _ _ _);unfold boundAndCalled;rw[F.attrBase_ValueError.ga.bind (.ref x)];show aQ (Θ ?_);show 50#(call (.builtin "BaseException.__getattribute__") [.ref x,.str "__class__" j]);show wpAny_call (codeAny_call_builtin F.attrBase_ValueError.ga.plain F.entry_bexc_ga ?_);show zh e ?_;show aQ (Θ (aQ (Θ (aQ (k.at (aQ (l.at ?_)))))));show 50#(holding [_] (call (.builtin "getset_descriptor.__get__") [.builtin "object.__class__",.ref x,.ref D]) >>= ret);show aQ (t! (wpAny_call ?_));show codeAny_call_builtin KF.slot_gs.plain KF.entry_gs (KF.slot_gs.check _ _ _ _ _ _ _ _ KF.type_class (KF.args_gs _ _ _) ?_)
 (unfold Builtin.«getset_descriptor.__get__» descrGet;rw[dga_obj])
 show aQ (Θ ?_)
 (unfold descrGetter descrCheckInstance descrNameAndClass isInstance;simp only[KF.owner_class])
 repeat lk
 show⟨Code.quiet_builtin _ (10#0),217#KF.entry_class⟩
 (unfold Builtin.«object.__class__» shownTypeOf)
 repeat lk
 show h
end
def Pj(C:tO K D):KitX K (.ref x) (.ref D) (ExcAt x (.ref D)) where
 ty:=λ_ _ _ q=>q.ty
 it:=λM h X _=>by
  have z:=C.is_;unfold clsIn at z
  split at z
  .rename_i j
   intro b d c F k q
   (unfold isType;unfold loadHead)
   show aQ (wpAny_loadPart (k _ _ (X _ _ j)) (Θ q))
  .cases z
 ne:=λh e p g n T X a=>by
  have z:=C.is_;show W_.mpr λq=>?_
  cases Value.ref.inj (k_.mp q);unfold clsIn at z
  split at z
  .rename_i j
   cases(X _ _ j).symm.trans a
  .cases z
 ca:=λX q k=>Mv C X q k
end
section
variable {X:Cx}
def yN:mU X 306#.Mult (rI IntMulOk 246#(i*j)):=Ul λ_ _ _ _ _ _ _ L q=>mul_int q L
def mulOk_of{i j:Int}(Y:i.natAbs<2^1000)(J:j.natAbs<2^1000):IntMulOk i j:=by
 have a:∀k:Int,k.natAbs<2^1000->47#k<=2^20:=λk B=>by
  unfold Builtin.Int.intBits
  by_cases F:k.natAbs=0
  .simp only[F]
   split<;>decide
  .have R:k.natAbs.log2<1000:=(w_ F).mpr B
   split<;>lia
 show IntMulOk.of_bits (a i Y) (a j J)
def Xn(K:bY):V->81#V:=λo i H Q=>∃p f j v,o = .ref p/\i = 65#(j:Nat)/\aK K H p f/\f[j]?=some v/\Q v H
def getL(K:bY)(l:X.K=K:=by rfl):WZ X (Xn K):=by
 subst l;intro A s M H o i L C Q I c a h
 revert h;show dX λp=>bV λf j v F b Y e q=>?_;subst F b
 cases c;obtain⟨t,rfl⟩:=a;show 120#(λg r P m=>?_)
 show aj (λu k d=>?_) (r.get e)
 have J:j<f.length:=(k6.mp e).1;have S:=qy;show wpAny_getItem_list P.isList (by lia) (by lia) (91#0) (aq v H I d q)
def Xo(K:bY):R2:=λx y H Q=>∃l b f U,x = .ref l/\y = .ref b/\aK K H l f/\aK K H b U/\36#(f.length+U.length)/\∀p,H p=none->Q (.ref p) (η H p (.lst (f++U)))
def IX(K:bY)(G:X.K=K:=by rfl):mU X 306#.Add (Xo K):=by
 subst G;show 67
 revert h;show sX λl b f a=>dI λw z o k m q=>?_;subst w z
 cases B;cases c;show aG (λg r P _=>?_) (I.list o)
 show aG (λZ i S _=>?_) (I.list k)
 revert P;show aS λd n e L _ J=>?_;obtain⟨R,p,W,T⟩:=d
 revert S;show aS λt O D a _ C=>?_;obtain⟨F,E,data2,N⟩:=t
 simp only at L J a C;subst L J a C;have Y:=r.length;have j:=i.length;have U:g.toArray++Z.toArray=(g++Z).toArray:=by simp
 show concat_meets (af _ e rx) (af _ D rx) noFill_list_add seq_list_add PySem.F.slot_list_add PySem.F.entry_list_add (PySem.F.args_list_add_2 _ _)
  (list_addW l b g.toArray Z.toArray n O p E T N (by rw[u!,u!];lia)) (bj e D ?_)
 rw[U];show aq (.ref _) _ (I.Xd (t':=s.toks) (r.append i) (by rw[U'];lia)) rx (q _ I.fresh)
def Pk:YI X "list.count" (λx G H Q=>∃l xs y,x = .ref l/\G=[y]/\H l=1#xs/\ly y=true/\xs.all ly=true/\287#(xs.countP λz=>Lm z y)):=by
 intro A s M H x G v b Q I B D h
 revert h;show gZ λl xs y=>dI λa c o p i q=>?_;subst a c
 cases B;show aj (λu k d=>?_) D.one;subst k
 show Bf (λz=>aA λg n r C e=>?_) (I.Mr o)
 have cnt:∀{xs:List V} {b:82#0},υ xs b->xs.all ly=true->b.countP (Dz y)=xs.countP λz=>Lm z y:=by
  intro xs b r
  induction r with
  | nil=>intro _;rfl
  | cons J _ E =>
    intro f;rw[List.all_cons,H!]at f;rw[List.countP_cons,List.countP_cons,E f.2,DA J f.1]
 show call_meets PySem.F.slot_list_count (af _ e rx) PySem.F.entry_list_count (PySem.F.args_list_count_2 _ _) (SeqAt.list_countAt l g.toArray n none #[] u (Dz y)) (bj e (λw j=>lz d p r i w (by simpa using j)) ?_)
 show aq (.int _) H (I.tok _) 173#s.toks q;rw[show g.toArray.toList=g from rfl,cnt r i]
def Pn:YI X "list.index" (λx G H Q=>∃l xs y j,x = .ref l/\G=[y]/\H l=1#xs/\ly y=true/\xs.all ly=true/\j<xs.length/\(∀m z,xs[m]?=some z->m<=j->Lm z y=decide (m=j))/\287#(j:Nat)):=by
 intro A s M H x G v R Q I B O h
 revert h;show dX λl=>bz λxs y j N L=>dI λo p i J c q=>?_;subst N L
 cases B;show aj (λu a F=>?_) O.one;subst a
 show Bf (λz=>aA λg n r C e=>?_) (I.Mr o)
 have S:=qy;have t:∀m (d:m<g.toArray.size),m<=j->Dz y g.toArray[m]=decide (m=j):=λm d b=>by
  have f:m<xs.length:=by rw[C];simpa using d
  have w:xs[m]?=some xs[m]:=by simp[f]
  show aj (λP k E=>?_) (r.get w)
  have D:g.toArray[m]=P:=by
   have:=(k6.mp k).2
   simpa using this
  have fz:ly xs[m]=true:=l?.mp i _ (X? f);rw[D,DA E fz];show c m _ w b
 have k:j<g.toArray.size:=by rw[u!];lia
 show call_meets PySem.F.slot_list_index (af _ e rx) PySem.F.entry_list_index (PySem.F.args_list_index_2 _ _) (SeqAt.list_indexAt l g.toArray n none #[] u (Dz y) j k (by lia) ?_ ?_) (bj e (λw f=>lz F p r i w (by simpa using f)) ?_)
 .rw[t j k (Ξ _)];simp
 .intro m d b;rw[t m d (by lia)]
  show fV (by lia)
 .show aq (.int _) H (I.tok _) ⟨s.toks,rfl⟩ q
end
section
variable {X:Cx}{tg:Expr}
def uS{iter:Expr}{a:List Stmt}{b:TI}{g:TG}{Q:TS}{j:Pos}(L:X.calm=true)(c:PI X tg iter b)(y:PG X.Ft tg g)(U:tK X.Ft a Q)(l:158#0:=by intro _;rfl):
 PS X (.For tg iter a [] j) (i4 b g Q):=by
 show 168;show wpAny_For (eg 34#c λv F R=>eg R λa d b=>?_) l
 revert b;show gZ λg G l=>aS λJ Z e E T=>bG λf a W d r=>?_;obtain⟨c,h⟩:=d
 subst e;have g:∀{Y:Hp},(∀b∈G,Y b=none)->∀b∈G,qv X.Ft A Y b:=λS b U=>⟨S b U,(a b U).2⟩
 show codeAny_forLoop_any (λn p=>∃i k Y,θ X.Ft A k Y p/\l i p.heap/\(∀b∈G,Y b=none)/\W i n k Y) ?_ c (bC 0 M Z (E.y9 _) f (λb U=>(a b U).1) h)
 intro n h;show dX λi=>aS λd w B j a c=>?_
 rcases r i n d w c with⟨q,p⟩|⟨m,N,o,step⟩
 .show c! (T.done X.Ft rx rx rx L i A h d w (52#0) B (g a) j q) (λr c ⟨P,f⟩=>?_) 258#0
  subst P;show wpAny_execs_nil (aV d w f.k9 p)
 .show c! (T.item X.Ft rx rx rx L i A h d w (52#0) B (g a) j m) (λr c=>aj λu P f=>?_) 258#0
  subst P;show c! f (λ_ a=>fX λx t=>kG λc p r j h=>?_) 258#0
  have f:=c.pinned (g h) (T.obj _ _ j);show c! (y _ a d t x u _ f p (step x t r)) (λ_ q=>br λs c h m=>?_) 258#0
  show c! (U _ q s c _ h m) (λf d g=>?_) 258#0
  have again:∀{c:St} {q:Hp},θ X.Ft (A++vS G a.heap) c q d->N c q->∃m,m<n/\∃i k Y,θ X.Ft A k Y d/\l i d.heap/\(∀b∈G,Y b=none)/\W i m k Y:=λ{c q} C h=>by
   show aj (λO a d=>?_) (o c q h)
   show af O a (bC (i+1) c q C.lq (T.keep _ _ _ j λb U o e=>(C.pin (b,o) (j4 _ (j4 _ (jr U e)))).1) (λb U=>?_) d)
   show aj (λo e d=>?_) (T.obj _ _ j b U)
   show(C.pin (b,o) (j4 _ (j4 _ (jr U e)))).2.1
  cases f with
  | next=>revert g;show br λc q C h=>?_;show again C h
  | cont=>revert g;show br λc q C h=>?_;show again C h
  | brk=>revert g;show br λc q C g=>?_;show aV c q C.lq.k9 g
  | ret v=>revert g;show bz λo c q C d g=>?_;show cC o c q C.lq.k9 d g
def qC:Passes (Cy P w) X (λ_ _ _=>False):=by
 intro A M H s e p I q
 revert q;show sX λ_ _ _ _=>bV λ_ _ _ _ _ _ _=>dI λ_ _ _ _ _ z=>?_
 rcases z with⟨_,_,z⟩|⟨_,_,_,_,_,_,_,z⟩
 .show z.elim
 .show z.elim
end
def iM{X:Cx}{x:Str}{C:Addr}{j:Pos}(y:Gl X x)(d:X.mg x=some (.ref C))(J:198#("__debug__":Str):=by decide):PE X (.Name x j) (tC (.ref C)):=Dt y d rfl J
def tP{K:bY}(X:K.In h)(G:73#mg)(e:250#0=86#(.ref C))(q:PySem.W.excIn K C p t=true):
 OwnCls x C p t mg h:=by
 show 173#(PySem.W.mg_of X G e);unfold PySem.W.excIn at q
 split at q
 .rename_i W cd T look
  split at q
  .rename_i Cx n g M m o w j y b
   simp only[H!,k_,X_]at q;obtain⟨⟨⟨⟨⟨rfl,rfl⟩,i⟩,d⟩,A⟩,f⟩:=q;obtain⟨P,s,r,k,c,J,Z,sub,u,a,del⟩:=cd
   (dsimp only at y i A f;subst y i)
   have v:T = #[g,M,m,o,some (.builtin w),j]:=by
    obtain⟨l⟩:=T;simp only at b;rw[b]
   subst v;show kZ n k (vM P c s J (vM Z sub u a (vM W g M m (bC o j _ (X _ _ look) (.of_isNs (PySem.W.isNs_of_in X A)) (PySem.W.nsMap_none_of_in X A f) (PySem.W.tail_of_in X d)))))
  .cases q
 .cases q
def Po{K:bY}(h:PySem.W.hasDictIn K C=true):(PySem.W.clsIn K C).isSome=true:=by
 show aj (λcd e _=>?_) (PySem.W.any_some h)
 rw[e];rfl
def ZD{m:Type}:∀g:List m,g.length=1->∃a,g=[a]
 | [_],_=>234#0
def ZE{m:Type}:∀g:List m,g.length=2->∃a b,g=[a,b]
 | [_,_],_=>kZ _ _ rfl
def Pp{m:Type}:∀g:List m,g.length=3->∃a b c,g=[a,b,c]
 | [_,_,_],_=>iJ _ _ _ rfl
def ZF{m:Type}:∀g:List m,g.length=4->∃a b c d,g=[a,b,c,d]
 | [_,_,_,_],_=>vM _ _ _ _ rfl
structure x9(ea:Addr)(k:Nat)(A:Around):Prop where
 hd:A.handled=20#ea
 dp:A.depth+3*k+5<recursionLimit
 un:A.units+16*k+200<cLine
def fF.mark(r:fF k A)(ea:Addr):x9 ea k (A.mark (20#ea)):=⟨rfl,r.dp,r.un⟩
def x9.deeper(r:x9 ea (k+1) A)(env:Env):x9 ea k (A.deeper env) :=
 ⟨r.hd,by have:=r.dp;change A.depth+1+3*k+5<_;lia,by have:=r.un;change A.units+3+16*k+200<_;lia⟩
structure Xp(ea:Addr)(P:Program)(w:World)(K:bY)(mg:Bg)(base:Heap)(k:Nat)(f:Addr)(fd:FuncData)(ps:List Str)(sp:Sp):Prop where
 len:∀vs H Q E,sp vs H Q E->vs.length=ps.length
 run:∀(A:Around) (outer:List Env) (s:Shared) (H:Hp) (args:Args) (us:82#0) (vs:List V) (Q:VK) (E:XK),x9 ea k A->Dv P w K mg base A outer s H->BindsTo s fd args (ps.zip us)->υ vs us->sp vs H Q E->
  codeAny (model P w) A (.call (.ref f) args) (CR uQ outer P w H s Q E) s
def YK(P:Program)(w:World)(K:bY)(mg:Bg)(base:Heap)(N:List Str)(j:Str)(scope:Scope)(f:Addr)(cd:Value)(A:Around)(outer:List Env)(s:Shared)(H:Hp)(E:XK):Cx :=
 { tM uQ P w K mg base N j scope f cd { A with handled:=none} outer s H E with A:=A.deeper (72#cd),calm:=false,xe:=52#0}
def Vr{K:bY}{a kV m b i ct oc:Value}
 (c:283#⟨oc,W,.func (PySem.W.fnOf name j d R scope a kV m b M i ct),e⟩) (B:PySem.W.codeIn K i j=true) (S:g6 N Z scope)
   (len:125#Z.length)
   (O:∀A outer s H G Q E,x9 ea k (A.deeper (72#i))->sp G H Q E->
    89#(tK (YK P w K mg base N j scope f i A outer s H E) R t)) :
   Xp ea P w K mg base (k+1) f (PySem.W.fnOf name j d R scope a kV m b M i ct) Z sp:=by
  show⟨len,λA outer s H b g G Q E a T U r h=>?_⟩
  have C:=len _ _ _ _ h;have L:K.In s.heap:=T.mod.Uj.keeps λb o e=>(T.bs b o e).1
  have l:s.heap.NoLimit:=T.mod.nolimit.keeps λb o e=>(T.bs b o e).1
  have d:∀y∈Z.zip g,238#76#y.1\/(76#y.1=some .cell/\((cellsFrom (119#0) scope.names []).lookup y.1).isSome=true):=λ⟨n,v⟩ X=>by
   rcases S.par n (_S X).1 with q|q
   .show .inl q
   .show .inr ⟨q,adf _ _ _ (.inl q)⟩
  show codeAny_call_function (by have:=a.dp;lia) (L _ _ c) rx S.co S.gen rx (PySem.W.codeRec_of L B) (U _ _ _ _ ?_)
  show wpAny_newFunctionEnv_cells S.kind d λc b F x=>?_
  subst b;show⟨l.keeps x.toInCall.keep,codeAny_func ?_⟩;show aj (λt d c=>?_) (O A outer s H G Q E (a.deeper _) h)
  have a:Dv P w K mg base { A with handled:=none} outer s H:=⟨T.frames,T.mod,T.bs,T.OJ,T.funs,T.OM,T.hok,T.bare⟩
  have h:θ (tM uQ P w K mg base N j scope f i { A with handled:=none} outer s H E) [] (start N G) H F:=Cu S rx a C r x
  have I:θ (YK P w K mg base N j scope f i A outer s H E) [] (start N G) H F:=by
   have z:=h.FP (A':=A.deeper (72#i)) (cm:=false) (Vq:=[]) (yq:=[]) (Su:=52#0) rx 96#0 λp a=>a
   show z
  show c! (d [] F (start N G) H _ I c) (λb p l=>?_) λe p l=>l.elim
  have a:∀{z:St} {Y:Hp} {v:V} {u:Value},θ (YK P w K mg base N j scope f i A outer s H E) [] z Y p->χ v u->Q v Y->CE outer P w H s Q u p :=
   λ{z Y v u} J D q=>aV v Y J.os (dF J.bare J.base J.hok D q)
  cases b with
  | ret u =>
    revert l;show bz λv z Y J D q=>?_
    show a J D q
  | next =>
    revert l;show br λz Y J q=>?_
    show a (v:=V.eM) (u:=Value.none) J rx q
  | brk =>
    revert l;show br λ_ _ _ q=>?_
    show 213#q
  | cont =>
    revert l;show br λ_ _ _ q=>?_
    show 213#q
def IT.okH{K:bY}{st:Stmt}(F:IT K x j st f n)(S:g6 N Z (aU st))
 (len:125#Z.length)
 (O:∀i A outer s H G Q E,x9 ea k (139#j)->sp G H Q E->
  89#(tK (YK P w K mg base N j (aU st) f i A outer s H E) (cQ st) t)):Xp ea P w K mg base (k+1) f n Z sp:=by
 show dX (λq=>ki λW kV m z M=>bz λi l o d c B=>?_) F.ex;subst d
 show Vr c B S len λA outer s H G Q E a b=>O i A outer s H G Q E a b
section
variable {X:Cx}{ea:Addr}{k:Nat}{f:Addr}{fd:FuncData}{ps:List Str}{sp:Sp}{OX:List V}{ds:82#0}{x:Str}{p pos:Pos}{e:Expr}{es:312#0}{t:TA}
def Pq(F:Xp ea X.prog X.w X.K X.mg X.base k f fd ps sp)(P:x9 ea k X.A)(y:Gl X x)(d:X.mg x=some (.ref f))(B:78#X.K)(U:Binds X.K fd ps ds)(J:υ OX ds)
 (W:PA X (e::es) t) (v:198#("__debug__":Str):=by decide) (n:15#(e::es)=33#e::15#es:=by rfl) (b:(259#15#es).any (·.1)=false:=by rfl) :
 PE X (.Call (.Name x p) (e::es) [] pos) (OV sp OX (λ_ _ _=>False) t):=by
 show 68;show 248#(oh I y d ?_ v);show _H (h₀:=X.base) I.ok.mod.Uj B (eg (275#pos) λg a=>aA λG S T r q=>⟨T.qp,?_⟩) n b
 have i:υ (G++OX) (g++ds):=r.append J;have C:48#(g++ds)=ps.length:=by rw[<-i.length];show F.len _ _ _ _ q
 show wpAny_call (codeAny_mono (F.run X.A X.stack a S ⟨g,[]⟩ (g++ds) (G++OX) Q _ P T.U6 (U a g T.qp C) i q) λr c Y=>?_)
 cases r with
 | error e=>show 213#Y
 | ok w =>
   cases w with
   | ret u=>show T.after Y
   | next=>show 213#Y
   | brk=>show 213#Y
   | cont=>show 213#Y
end
section
variable {prog:Program}{w:World}{A:Around}{E:kj}{s:Shared}
def Bm:entryFor table "proto.unchain"=some Builtin.«proto.unchain»:=entryFor_of_fast (by kernel_rfl)
def IY(N:A.handled=20#ea)(ne:ea≠e)(g:s.heap.get? e=some a)(k:179#G)(hz:2<G.size)(W:Zz ea s.heap)
 (q:E (.ref e) { s with heap:=s.heap.update e (Obj.mapFields (·.setIfInBounds 2 (.ref ea)))}):60#(raiseNew (.ref e):Sem m):=by
 revert W;show aA λv l r u p=>?_
 rw[raiseNew];show aQ (wpAny_handled ?_);rw[N];dsimp only;rw[ο (by simp[ne])]
 show aQ (t! (wpAny_runValue (217#Bm)));show 59#(field (.ref ea) 2 >>= _);show aQ (wpAny_field r u p ?_);show aQ (Θ ?_);show Θ ?_;show 59#(setField (.ref e) 2 (.ref ea) >>= λ_=>throw (.ref e))
 show aQ (wpAny_setField (s:=s) (x:=.ref ea) g k hz (wpAny_throw q))
end
section
variable {X:Cx}{pq:cN}{σ:St}{H:Hp}{s:Shared}{h' : Heap}
def θ.yields{wr:183#0}{T:Addr}(I:5#H)(k:∀b u,b∉wr->21#u->144#u)(Z:∀b∈wr,qv X pq H b)(t:189#T)
 (g:bL X.prog X.w (η H T o) h' T o):142#(η H T o):=by
 have a:H T=none:=I.hok.fresh t;have y:∀b u,H b=some u->b≠T:=λb u e=>cf e a
 have w:∀b u,H b=some u->b∉wr:=λb u e U=>by rw[(Z b U).1]at e;cases e
 show I.step (g':=s.gens) (d':=s.drawn) (ch:=wr) (λb U=>?_) (λb o _ _ L e _=>k b o L e) (λb o _ _ L e _=>⟨o.slots,k b o L e⟩) (λb u L e n=>?_)
  (λb o L e=>⟨o,k b o L e⟩) (λb f e=>?_) (λb W f e=>?_) (λb c e=>⟨#[],?_⟩) (λm d=>?_) (λb u e=>?_) I.bare
 .show dI (λ_ R _ Q B z=>?_) (Z b U)
  show iI Q R B z
 .rw[au (q! (g! (J' e) t))];show n
 .rw[au (y b _ e)];show e
 .rw[au (y b _ e)];show e
 .rw[au (y b _ e),e];simp
 .revert d;show cK λo l i j r=>?_
  show bN o l i (k _ o (λU=>(Z _ U).2.1 rx) j) r
 .by_cases U:b=T
  .subst U;rw[aa]at e;cases e;show g
  .rw[au U]at e;show(I.hok b u e).stay (λc v L q=>k c v ?_ q) (λc q=>162#(y c _ q)) λc f q=>162#(y c _ q)
   rcases L with z|z
   .rw[z];show w b u e
   .show w c _ z
def θ.SE{wr:183#0}(I:5#H)(k:∀b u,b∉wr->21#u->144#u)(Z:∀b∈wr,qv X pq H b):142#H:=by
 have w:∀b u,H b=some u->b∉wr:=λb u e U=>by rw[(Z b U).1]at e;cases e
 show I.step (g':=s.gens) (d':=s.drawn) (ch:=wr) (λb U=>?_) (λb o _ _ L e _=>k b o L e) (λb o _ _ L e _=>⟨o.slots,k b o L e⟩) (λ_ _ _ _ n=>n)
  (λb o L e=>⟨o,k b o L e⟩) (λ_ _ e=>e) (λ_ _ _ e=>e) (λb a e=>⟨#[],by rw[e];simp⟩) (λm d=>?_) (λb u e=>?_) I.bare
 .show dI (λ_ R _ Q B z=>?_) (Z b U)
  show iI Q R B z
 .revert d;show cK λo l i j r=>?_
  show bN o l i (k _ o (λU=>(Z _ U).2.1 rx) j) r
 .show(I.hok b u e).stay (λc v L q=>k c v ?_ q) (λ_ q=>q) λ_ _ q=>q
  rcases L with z|z
  .rw[z];show w b u e
  .show w c _ z
end
def Xq(K:bY)(a:Addr):It :=
 ⟨λi H=>∃f x,aK K H a f/\f[i]?=some x,λi H v Y=>∃T x,v = .ref T/\H T=none/\Y=η H T (182#x)/\∀f,aK K H a f->f[i]?=some x,λi H=>∃f,aK K H a f/\f.length<=i⟩
def Mw{K:bY}(a e it:Addr)(hne:e≠it):
 Turn P w K (.Tuple T k b) (Xq K a) [e,it] e (λi h=>(∃F,IsEnum h e it (i:Int) F)/\h.IsListIter it a i) where
 mem:=by simp
 obj:=λi h st b U=>by
  revert st;show Bf λL=>aG λo a c d=>?_;obtain⟨F,n⟩:=L
  have r:b=e\/b=it:=102#0
  rcases r with rfl|rfl
  .show af _ n 177#0
  .show af o a λv z=>by rw[d]at z;cases z
 keep:=λi h N st k=>by
  obtain⟨⟨F,n⟩,c⟩:=st;show⟨⟨F,k e 23#0 _ n⟩,c.at λo x=>k it 23#0 o x⟩
 item:=by
  show 134;subst S j l
  revert y;show br λf x Y O=>?_
  show 120#254#0
  show aj (λu G d=>?_) (D.get O)
  obtain⟨⟨F,n⟩,c⟩:=st;show wpAny_pyNext_enum_item n c p.isList (x:=u) (by simpa using G) hne λR a k t q B=>?_
  show af _ rx (wpAny_letOwnedTupleGo_enum a λW J v=>?_)
  have Q:s.heap.objs.size≠e:=X! (J' n);have a:22#W.get?=some { cls:=.type "tuple",data:=.seq #[.int i s.toks,u]}:=(v.2 _ Q).trans t;show dU (22#.ref) (η H s.heap.objs.size (182#x)) (I.yields (wr:=[e,it]) (t':=s.toks+1) (λb o U q=>?_) Z (Ξ _) ?_) rfl (bh _ x rfl I.fresh rfl (λC t=>by rw[I.nK t Y];show O)) 173#⟨u,by simpa using J⟩ λb U=>?_
  .have C:b≠e:=λz=>U (by simp[z])
   have r:b≠it:=λz=>U (by simp[z])
   show(v.2 b C).trans (B b o C r q)
  .show b8 (dl rx) [.int i s.toks,u] (.cons 234#0 233#d) (af _ a (cJ rx _ rx))
  .show k.at λo q=>(v.2 it (e! hne)).trans q
  .rw[au]
   .show(Z b U).1
   .have r:b=e\/b=it:=102#0
    rcases r with rfl|rfl
    .show e! Q
    .revert c;show aj λo q _=>?_
     show q! (J' q)
 done:=by
  show 134;subst S j l
  revert y;show aj λf Y O=>?_
  show 120#254#0
  obtain⟨⟨F,n⟩,c⟩:=st;show 274#(λJ R u Q B z=>?_)
  have C:=D.length;show wpAny_pyNext_enum_end 276#0 n c p.isList (by simp;lia) λN r=>46#(69#(r b o U e))
 self:=λ_ _ _ _ _ st h=>by
  obtain⟨⟨F,n⟩,_⟩:=st;show wpAny_pyIter_enum n h
def ZG(K:bY)(a b:Addr):It :=
 ⟨λi H=>∃f o x y,aK K H a f/\aK K H b o/\f[i]?=some x/\o[i]?=some y,
  λi H v Y=>∃T x y,v = .ref T/\H T=none/\Y=η H T (.tup [x,y])/\(∀f,aK K H a f->f[i]?=some x)/\∀o,aK K H b o->o[i]?=some y,
  λi H=>∃f o,aK K H a f/\aK K H b o/\(f.length<=i\/o.length<=i)⟩
def Pr{K:bY}(a b z TI TO F i2:Addr)(D:ZipApart z TI TO F i2 a b):
 Turn P w K (.Tuple c k d) (ZG K a b) [z,TI,TO,F,i2] z (λi h=>IsZip h z TI TO .none/\IsPair h TI (.ref F) (.ref i2)/\(∃u v,IsPair h TO u v)/\h.IsListIter F a i/\h.IsListIter i2 b i) where
 mem:=by simp
 obj:=λi h st c L=>by
  revert st;show dW λm J=>cE λY f j d _ O=>?_;obtain⟨u,v,a⟩:=Y;obtain⟨x,e,_,B⟩:=f
  have Q:c=z\/c=TI\/c=TO\/c=F\/c=i2:=by simpa using L
  rcases Q with rfl|rfl|rfl|rfl|rfl
  .show af _ m 177#0
  .show af _ J 177#0
  .show af _ a 177#0
  .show af x e λv z=>by rw[B]at z;cases z
  .show af j d λv z=>by rw[O]at z;cases z
 keep:=λi h N st k=>by
  revert st;show kG λm J d R W=>?_;obtain⟨u,v,a⟩:=d
  show dF (k z 23#0 _ m) (k TI 23#0 _ J) (kZ u v (k TO 23#0 _ a)) (R.at λo e=>k F 23#0 o e) (W.at λo e=>k i2 23#0 o e)
 item:=by
  intro X S j l L i A s M H E I Z st hg;subst S j l
  revert hg;show fX λf ys=>aS λx y Y b O k=>?_
  show 120#(λg rv p hzl=>?_)
  show aG (λits2 ZH p2 ZI=>?_) (I.list b)
  show aj (λu G d=>?_) (rv.get O)
  show aj (λv n ru2=>?_) (ZH.get k)
  revert st;show kG λm J q R W=>?_;obtain⟨v1,v2,a⟩:=q
  show wpAny_pyNext_zip_item D m J a R W p.isList p2.isList (x:=u) (y:=v) (by simpa using G) (by simpa using n) λr q hO3 h13 h23 t C B=>?_
  show af _ rx (wpAny_letOwnedTupleGo_zip q λT hz4 C=>?_)
  have n:∀{c o},s.heap.get? c=some o->s.heap.objs.size≠c:=λe=>X! (J' e)
  have G:22#T.get?=some { cls:=.type "tuple",data:=.seq #[u,v]}:=(C.2 _ (n m)).trans t;have r:∀c o,c∉[z,TO,F,i2]->s.heap.get? c=some o->T.get? c=some o:=λc o L q=>by
   have U:c≠z:=λe=>L (by simp[e])
   show(C.2 c U).trans (B c o U (λe=>L (by simp[e])) (λe=>L (by simp[e])) (λe=>L (by simp[e])) q)
  have t:∀c∈[z,TO,F,i2],c∈[z,TI,TO,F,i2]:=λc L=>by
   have Q:c=z\/c=TO\/c=F\/c=i2:=by simpa using L
   rcases Q with rfl|rfl|rfl|rfl<;>simp
  show dU (22#.ref) (η H s.heap.objs.size (.tup [x,y])) (I.yields (wr:=[z,TO,F,i2]) (t':=s.toks) r (λc L=>Z c (t c L)) (Ξ _) ?_) rx (cF _ x y rx I.fresh rx (λU k=>by rw[I.nK k Y];show O) (λU m=>by rw[I.nK m b];show k)) (dF hz4 ((C.2 _ D.TIz).trans (B _ _ D.TIz D.TITO D.TIi1 D.TIi2 J)) (kZ u v ((C.2 _ D.TOz).trans hO3)) ?_ ?_) λc L=>?_
  .show b8 (dl rx) [u,v] (.cons d 233#ru2) (af _ G (cJ rx _ rx))
  .show h13.at λo q=>(C.2 _ D.i1z).trans q
  .show h23.at λo q=>(C.2 _ D.i2z).trans q
  .rw[au]
   .show(Z c L).1
   .have Q:c=z\/c=TI\/c=TO\/c=F\/c=i2:=by simpa using L
    rcases Q with rfl|rfl|rfl|rfl|rfl
    .show e! (n m)
    .show e! (n J)
    .show e! (n a)
    .revert R;show aj λo q _=>?_
     show e! (n q)
    .revert W;show aj λo q _=>?_
     show e! (n q)
 done:=by
  intro X S j l L i A s M H E I Z st hg;subst S j l
  revert hg;show aA λf ys Y b O=>?_
  show 120#(λg rv p hzl=>?_)
  show aG (λits2 ZH p2 ZI=>?_) (I.list b)
  revert st;show kG λm J U R W=>?_;obtain⟨v1,v2,a⟩:=U
  have C:=rv.length;have d:=ZH.length;have t:∀c∈[z,TO,F,i2],c∈[z,TI,TO,F,i2]:=λc L=>by
   have Q:c=z\/c=TO\/c=F\/c=i2:=by simpa using L
   rcases Q with rfl|rfl|rfl|rfl<;>simp
  show wpAny_pyNext_zip_end 276#0 D m J a R W p.isList p2.isList (O.imp (λq=>by simp;lia) λq=>by simp;lia) λN r=>46#(I.SE (wr:=[z,TO,F,i2]) (t':=s.toks) (λc o L q=>?_) λc L=>Z c (t c L))
  show r c o (λe=>L (by simp[e])) (λe=>L (by simp[e])) (λe=>L (by simp[e])) (λe=>L (by simp[e])) q
 self:=λ_ _ _ _ _ st h=>wpAny_pyIter_zip st.1 h
def Mx{n a b:Nat}(i:a<n)(g:b<n):ZipApart (n+4) (n+2) (n+3) n (n+1) a b:=by
 have k:∀{x y:Nat},x<y\/y<x->x≠y:=λh=>by lia
 constructor<;>show k (by lia)
section
variable {X:Cx}{elts:312#0}{n:Nat}{tp:Pos}
def Xr(K:bY)(z:TA):TI:=λM H R=>z M H λG S=>∃a,G=[.ref a]/\(∃f,aK K S a f)/\R (Xq K a) S
def ZJ(K:bY)(z:TA):TI:=λM H R=>z M H λG S=>∃a b,G=[.ref a,.ref b]/\(∃f,aK K S a f)/\(∃o,aK K S b o)/\R (ZG K a b) S
def Lv(K:bY){a:Expr}{z:TA}{p j:Pos}(y:Gl X "enumerate")(d:X.mg "enumerate"=none)(W:PA X [a] z)(l:15#([a])=[33#a]:=by rfl)(u:X.K=K:=by rfl):
 PI X (.Tuple elts n tp) (.Call (.Name "enumerate" p) [a] [] j) (Xr K z):=by
 subst u;intro A s M H R I h;show Call_ (k7 I y d boot_enumerate (y_ (eg (275#j) λw F=>aA λG S T J O=>?_) l rx))
 revert O;show aG λa e t q=>?_;obtain⟨f,Y⟩:=t
 subst e;cases J with
 | cons r C =>
   cases C;cases r;show aG (λg D P m=>?_) (T.list Y)
   show call_enumerate_list P.isList λN o c k B=>?_
   have E:θ X A M S { F with heap:=N}:=T.kept (t':=F.toks) B
   show wpAny_pyIter_enum o (cD _ [F.heap.objs.size+1,F.heap.objs.size] _ _ S rx E (Mw a _ _ (Z_ _)) ⟨⟨_,o⟩,c⟩ (λb U=>?_) q)
   have v:b=F.heap.objs.size+1\/314#b:=102#0
   have i:F.heap.objs.size<=b:=by
    rcases v with rfl|rfl
    .show Q! _
    .show Ξ _
   show T.Bh i (T.hok.fresh i)
def zj(K:bY){a b:Expr}{z:TA}{p j:Pos}(y:Gl X "zip")(d:X.mg "zip"=none)(e:PA X [a,b] z)(l:15#([a,b])=[33#a,33#b]:=by rfl)(v:15#([b])=[33#b]:=by rfl)(c:X.K=K:=by rfl):
 PI X (.Tuple elts n tp) (.Call (.Name "zip" p) [a,b] [] j) (ZJ K z):=by
 subst c;intro A s M H R I h;show Call_ (k7 I y d boot_zip (y_ (eg (e j A s M H _ I h) λc F=>aA λG S T J O=>?_) (by rw[l,v]) (by rw[v];rfl)))
 revert O;show aS λa b e c d q=>?_;obtain⟨f,Y⟩:=c;obtain⟨o,w⟩:=d
 subst e;cases J with
 | cons r C =>
   cases C with
   | cons c C =>
     cases C;cases r;cases c;show aG (λg D P m=>?_) (T.list Y)
     show aG (λZ U x c=>?_) (T.list w)
     show call_zip_2 P.isList x.isList λN d f t e W k B=>?_
     have E:θ X A M S { F with heap:=N}:=T.kept (t':=F.toks) B
     have i:a<F.heap.objs.size:=by show aj (λ_ q _=>?_) P.isList;show J' q
     have g:b<F.heap.objs.size:=by show aj (λ_ q _=>?_) x.isList;show J' q
     show wpAny_pyIter_zip d (cD _ [F.heap.objs.size+4,F.heap.objs.size+2,F.heap.objs.size+3,F.heap.objs.size,F.heap.objs.size+1] _ _ S rx E (Pr a b _ _ _ _ _ (Mx i g)) (dF d f (kZ _ _ t) e W) (λc L=>?_) q)
     have Q:c=F.heap.objs.size+4\/c=F.heap.objs.size+2\/c=F.heap.objs.size+3\/314#c\/c=F.heap.objs.size+1:=by simpa using L
     have u:F.heap.objs.size<=c:=by
      rcases Q with rfl|rfl|rfl|rfl|rfl
      .show _Q _ _
      .show _Q _ _
      .show _Q _ _
      .show Ξ _
      .show _Q _ _
     show T.Bh u (T.hok.fresh u)
end
section
variable {K:bY}{a b:Addr}{xs ys:List V}{g:TG}{tt:TT}{te:TE}{n:Nat}{fr:St}{D:Addr}{Q:Hp->Prop}{H1:Hp}
def FQ{h:TS}{D:Ends}(c:109#St)(h0:c 0 M H)(C:∀i M H,i<=xs.length->c i M H->aK K H a xs)
 (l:∀i x T M H,xs[i]?=some x->c i M H->H T=none->g (.ref T) M (η H T (182#x)) λP Z=>h 200#c P Z) (J:∀M H,293#M->D.nx M H) :
 ∃W:Nat->109#St,(∃m,W 0 m M H)/\∀i m M H,W i m M H->
   ((Xq K a).stop i H/\D.nx M H)\/((Xq K a).go i H/\∃N:St->Hp->Prop,(∀k Y,N k Y->∃O,O<m/\W (i+1) O k Y)/\∀x Y,(Xq K a).Mi i H x Y->g x M Y λP Z=>h { D with nx:=N,ct:=N,bk:=D.nx} P Z):=by
 show 106#(λi m M H=>115#M)
 intro i m M H;show dW λw b p=>?_;subst w
 have q:=C i M H b p
 show 265
 .show .inr (b8 216#q (c (i+1)) (λk Y f=>116#f) (λv Y y=>?_))
  revert y;show aS λT x o t L y=>?_;subst o L
  show l i x T M _ (y xs q) p t
 .show 221
  subst e;show .inl ⟨af xs q (Ξ _),J M H p⟩
def qD(O:xs.length=ys.length)(c:109#(List V))(h0:c 0 [] H1)(C:∀i I H,i<=xs.length->c i I H->aK K H a xs/\aK K H b ys/\19#H/\I.length<=i)(hz:36#xs.length)
 (l:∀i x y T I H,xs[i]?=some x->ys[i]?=some y->c i I H->H T=none->g (.ref T) (83#n++fr) (η H T (.tup [x,y])) λh Z=>h.drop n=fr/\tt h Z λb w =>
  if b=true then te h w λv X=>19#X/\c (i+1) (I++[v]) (η X D 66#(I++[v])) else c (i+1) I w)
 (J:∀I H,293#I->Q H):i8 (ZG K a b) g tt te n fr D Q H1:=by
 show 106#(λi m I H=>115#I)
 intro i m I H;show dW λU j p=>?_;subst U
 show mj (λq P r W=>?_) (C i I H j p)
 show⟨r,?_⟩
 show 265
 .have e:i<ys.length:=by lia
  show .inr (bA ⟨xs,(bC ys (xs[i]) (ys[i]) q P (by simp[d]) (by simp[e]))⟩ (by lia) (c (i+1)) (λu Y f=>116#f) (λv Y y=>?_))
  revert y;show bV λT x z k t o S s=>?_;subst k o
  show l i x z T I _ (S xs q) (s ys P) p t
 .show 221
  subst e;show .inl ⟨aq xs ys q P (.inl (Ξ _)),J I H p⟩
end
section
variable {X:Cx}
def zk:fW X (.type "range") (λxs H Q=>∃j:Int,xs=[.int j]/\∀p,H p=none->Q (.ref p) (η H p (.IB 0 j))):=by
 show 290
 revert h;show aj λj L q=>?_;subst L
 show 218#(λu Y=>dX λt k=>?_);subst Y k
 show call_range_1 (aq (22#.ref) _ (I.laid (t':=s.toks+1+1) (λb o e=>W' _ e) (Ξ _) ?_) rx (q _ I.fresh))
 show iJ _ _ _ (v! _ rx)
def v7(n:Nat):List V:=(31#n).map λi=>V.int ((i:Nat):Int)
def Pu(L:X.calm=true):fW X (.type "list") (λxs H Q=>∃p,∃n:Nat,xs=[.ref p]/\H p=some (.IB 0 (n:Int))/\n<=900/\∀l,H l=none->Q (.ref l) (η H l (.lst (v7 n)))):=by
 show 290
 revert h;show aS λp n R G S q=>?_;subst R
 show 218#(λu O B=>?_);subst O
 cases B;show gZ (λt u v e=>?_) (show bL X.prog X.w H s.heap p (.IB 0 (n:Int)) from I.hok p _ G)
 have J:Builtin.Range.rangeSize 0 (n:Int) 1=(n:Int):=by rw[rangeSize_one];split<;>lia
 show call_list_range 276#0 e (small_one (by lia) (by lia) (by lia) (by lia)) J (Ω S 3#0) λN F w c P f a=>?_
 show aq (22#.ref) _ (I.laid (t':=F) P (Ξ _) ?_) rx (q _ I.fresh);have C:w.toList.length=n:=by rw[G_];show a.1
 have m:36#(v7 n).length:=by
  unfold v7;rw[Δ,K!];show j? (ff (by lia))
 show aR m w.toList c ?_ (by simpa using f)
 have D:∀(o:82#0) (k:Nat),(∀j v,o[j]?=some v->∃t,v=Value.int (((k+j:Nat)):Int) t)->υ ((List.range' k o.length).map λi=>V.int ((i:Nat):Int)) o:=by
  intro o
  induction o with
  | nil=>intro k _;show .nil
  | cons y r E =>
    intro k x;obtain⟨t,d⟩:=x 0 y rfl;show .cons ⟨t,by simpa using d⟩ (E (k+1) λj v U=>?_)
    obtain⟨Z,b⟩:=x (j+1) v (102#0)
    show⟨Z,by rw[b];congr 2;lia⟩
 have z:=D w.toList 0 λj v U=>by
  obtain⟨t,d⟩:=a.2 j v (102#0)
  show⟨t,by rw[d];congr 1;lia⟩
 rw[C]at z;unfold v7;rw[List.range_eq_range'];show z
def sumK(K:bY)(L:X.calm=true)(c:X.K=K:=by rfl):fW X (.builtin "sum") (λxs H Q=>∃(p:Addr) (ns:List Int),xs=[.ref p]/\aK K H p 264#0/\287#ns.sum):=by
 subst c;intro A s M H xs k Q I r h
 revert h;show aA λp ns U d q=>?_;subst U
 show 218#(λu e j=>?_);subst e
 cases j;show aG (λg f P m=>?_) (I.list d)
 have Y:∀{ns:List Int} {g:82#0},υ 264#0 g->∃xs:Array (Int×Tok),g.toArray=intItems xs/\xs.toList.map (·.1)=ns:=by
  intro ns
  induction ns with
  | nil=>intro g r;cases r;show af (#[]) (by simp[intItems]) rfl
  | cons a l E =>
    intro g r;cases r with
    | cons J i =>
      obtain⟨t,rfl⟩:=J;show aj (λxs R W=>?_) (E i)
      show af (#[(a,t)]++xs) ?_ (by simp[W])
      have C:=k! Array.toList R;simp only[intItems,Array.toList_map,List.toList_toArray]at C;simp[intItems,C,Array.map_append]
 show aj (λa b D=>?_) (Y f)
 have C:s.heap.IsList p (intItems a):=b▸P.isList;show sum_intListG 276#0 C λN F Z B=>?_
 have R:preSum (numAt a) a.size=ns.sum:=by rw[preSum_eq,l_ 23#0,D]
 rw[R];show aq (.int ns.sum) H (I.kept B) ⟨Z,rfl⟩ q
end
def Pw{g:82#0}{ns:List Int}(h:IntsAre g ns):υ 264#0 g:=by
 induction h with
 | nil=>show .nil
 | cons n t _ E=>show .cons ⟨t,rfl⟩ E
section
variable {X:Cx}
def sortedK(K:bY)(b:X.K=K:=by rfl):fW X (.builtin "sorted") (λxs H Q=>∃(p:Addr) (ns:List Int),xs=[.ref p]/\aK K H p 264#0/\ns.length<64/\
 ∀(l:Addr) (j:List Int),H l=none->j.Perm ns->j.Pairwise (·<=·)->Q (.ref l) (η H l 66#(j.map V.int))):=by
 subst b;intro A s M H xs d Q I r h
 revert h;show aS λp ns L Y S q=>?_;subst L
 show 218#(λu c B=>?_);subst c
 cases B;show 120#(λg D P m=>?_)
 have C:=D.length;rw[Δ]at C;show PyProof.Rows.sorted_ints P.isList (intsAre_of D) (by lia) λO j a k N=>?_
 obtain⟨e,n⟩:=sortedAll_at s.heap g O;have f:H (119#0)=none:=270#(Q! _);show aq (.ref (119#0)) _ (I.laid (t':=s.toks) (λ_ _=>sortedAll_old) (Q! _) ?_) rx (q _ j f k N)
 show aR ?_ O.toList e (Pw a) ?_
 .rw[Δ,k.length_eq];show j? (ff (by lia))
 .have:O.toList.toArray=O:=by simp
  rw[this];show n
end
end L2
namespace HT
open PySem PyProof.Rows
section
variable {prog:Program}{w:World}{A:Around}{E:kj}{s:Shared}
def sV{lo Y:190#0}(d:IsTup s.heap t f)(l:s.heap.IsSliceOf T D p .none)(pl:IsPart D lo)(c:IsPart p Y)
 (j:ig f.size 0 lo=0/\ig f.size f.size Y=f.size) (h:Q (.ref t) s):60#(getItem (.ref t) (.ref T)):=by
 show aG (λos b u a=>?_) (id l)
 have g:s.TypeIs (.ref T) "slice":=af os b u;unfold getItem
 try with_reducible show t! ?_
 first | show 135#(Θ ?_) | skip
 show 135#(wpAny_sequenceKey d.typeIs 3#0 ?_)
 show wpAny_bind (wpAny_callSpecial?_slot (name:=Str.ofString "__getitem__") d.typeIs x_
  (wpAny_call_entry x_ d.typeIs entry_tuple_getitem ?_ (args_tuple_getitem _ _)))
 show 59#(Builtin.Tuple.tupleItemsOf (.ref t) >>= _);show 135#(tupleItemsOf_ d ?_);show 135#(wpAny_typeOf g ?_);rw[ο 3#0]
 show 135#(nM l pl c ?_);have e:(7#(ig f.size 0 lo)==0&&(1:Int)==1&&(147#Y)==f.size)=true:=by
  rw[j.1,j.2];simp
 show 59#237#(7#(ig f.size 0 lo)==0&&(1:Int)==1&&(147#Y)==f.size)
 rw[ο e];show wpAny_bind ?_;unfold Builtin.Tuple.tupleIsExact;show 135#(wpAny_typeOf d.typeIs (Θ ?_));rw[ο 3#0]
 show 135#(wpAny_rule (Θ (af _ rx (Θ h))))
end
end HT
namespace L2
open PySem PySem.Spec PyProof.Rows
section
variable {X:Cx}
def Xs:V->190#0->81#(190#0):=λx lo b H Q=>∃a f,x = .ref a/\H a=some (.tup f)/\∀p Y,ai H Y->Y p=17#(l7 f lo b)->Q (.ref p) Y
def Xu:U9 X Xs:=by
 intro A s M H x v D p lo Y T Q I B l P c h
 revert h;show aA λa f U O q=>?_;subst U
 cases B;show aG (λg r d m=>?_) (I.tuple (aZ.of O))
 have i:g.toArray.size=f.length:=by rw[u!];show r.length.symm
 show aq "tuple" _ x_.lookup d.typeIs ?_
 by_cases j:313#0=0/\HT.ig f.length f.length Y=f.length
 .show HT.sV d l P c (by rw[i];show j) (aq (.ref a) H I rx (q a H 186#0 ?_))
  unfold l7;rw[j.1,j.2,List.drop_zero,Nat.sub_zero,I!];show O
 .show HT.mw d l P c (by rw[i];show j) ?_ (by rw[i];show m)
  rw[i];show aq (22#.ref) _ (I.laid (t':=s.toks) (o:=.tup (l7 f lo Y)) (λb W q=>W' _ q) (Ξ _) ?_) rx (q _ _ (ai.new (270#(Ξ _))) aa)
  show b8 (Ω (qz f lo Y) m) _ ((r.drop (313#0)).take (HT.ig f.length f.length Y-313#0)) (IsTup.new _ _)
end
end L2
namespace Ring
open PySem
abbrev ko:=Int×Int×Int
def bit(S:Int)(k:Nat):Bool:=11#(S/2^k%2=1)
def b9(S:Int):List Nat:=(31#(47#S)).filter (bit S)
noncomputable def bump(e:List Int)(i:Int):List Int:=e.set i.toNat (e.getD i.toNat 0+1)
def step(ts:List ko)(e:List Int)(k:Nat):List Int:=match ts[k]? with
 | some t=>bump (bump e t.1) t.2.1
 | none=>e
def mX(p:Nat)(ts:List ko)(S:Int):List Int:=(b9 S).foldl (step ts) (List.replicate p 0)
def nN(p:Nat)(ts:List ko)(S:Int):List Nat:=(31#p).filter λi=>11#((mX p ts S).getD i 0%2=1)
noncomputable def R8(ts:List ko)(k i:Nat):Int:=match ts[k]? with
 | some t=>(if t.1=(i:Int) then 1 else 0)+(if t.2.1=(i:Int) then 1 else 0)
 | none=>0
def nO(e:List Int)(i:Int):48#(bump e i)=e.length:=by unfold bump;rw[M?]
def Px(ts:List ko)(e:List Int)(k:Nat):48#(step ts e k)=e.length:=by
 unfold step
 split
 .rw[nO,nO]
 .rfl
def FT(e:List Int)(j:Int)(i:Nat)(h0:0<=j)(R:j<e.length):(bump e j).getD i 0=e.getD i 0+if j=(i:Int) then 1 else 0:=by
 unfold bump;rw[B!,B!,B!]
 by_cases h:j=(i:Int)
 .have Y:j.toNat=i:=by lia
  rw[ο h,Y,S_ (by lia)]
  rfl
 .have Y:j.toNat≠i:=by lia
  rw[ξ h,E_ Y]
  lia
structure Lw(p:Nat)(ts:List ko):Prop where
 ends:∀t∈ts,0<=t.1/\t.1<(p:Int)/\0<=t.2.1/\t.2.1<(p:Int)
def step_get(W:Lw p ts)(e:List Int)(k i:Nat)(n:e.length=p):(step ts e k).getD i 0=e.getD i 0+R8 ts k i:=by
 unfold step R8;cases h:ts[k]? with
 | none=>simp
 | some t =>
   show mj (λa D b F=>?_) (W.ends t (iu h))
   dsimp only;rw[FT _ _ _ b (by rw[nO,n];show F),FT _ _ _ a (by rw[n];show D)]
   lia
def v8(ts:List ko)(L:List Nat)(i:Nat):Int:=(L.map λk=>R8 ts k i).sum
theorem FU(W:Lw p ts)(i:Nat):∀L e,e.length=p->(L.foldl (step ts) e).getD i 0=e.getD i 0+v8 ts L i
 | [],e,_=>by simp[v8]
 | k::r,e,he=>by
   rw[L_,FU W i r _ (by rw[Px,he]),step_get W e k i he]
   unfold v8;rw[w!,_Z]
   lia
def Py(W:Lw p ts)(S:Int)(i:Nat):(mX p ts S).getD i 0=v8 ts (b9 S) i:=by
 unfold mX;rw[FU W i _ _ 23#0]
 have e:(List.replicate p (0:Int)).getD i 0=0:=by
  rw[B!,Q_]
  split<;>rfl
 rw[e]
 lia
def r9(m k:Nat):bit (m:Int) k=12#0:=by
 unfold bit;rw[Nat.testBit_eq_decide_div_mod_eq];have e:((m:Int)/2^k%2=1)↔(m/2^k%2=1):=by
  have W:((2:Int)^k)=7#(2^k):=by simp
  rw[W,<-Int.natCast_ediv]
  lia
 simp only[e]
def zl(m:Nat):47#(m:Int)=if m=0 then 0 else m.log2+1:=by
 unfold Builtin.Int.intBits
 by_cases h:m=0
 .simp[h]
 .simp[h]
def bits_le{m n:Nat}(h:m<2^n):47#(m:Int)<=n:=by
 rw[zl]
 split
 .show r! _
 .rename_i F
  show(w_ F).mpr h
def FW{m k:Nat}(h:47#(m:Int)<=k):bit (m:Int) k=false:=by
 rw[r9];rw[zl]at h
 by_cases F:m=0
 .simp[F]
 .rw[ξ F]at h;show a_ (g! Nat.lt_log2_self (o? 3#0 h))
theorem uT(f:247#0)(a:Nat):∀d,(∀k,a<=k->f k=false)->(31#(a+d)).filter f=(31#a).filter f
 | 0,_=>rfl
 | d+1,h=>by
   rw[<-Nat.add_assoc,g_,V?,uT f a d h];have e:[a+d].filter f=[]:=by rw[P!,ξ (by rw[h _ (by lia)];simp)];rfl
   rw[e,H?]
def iz{m n:Nat}(h:m<2^n):251#0=(31#n).filter λk=>12#0:=by
 unfold b9;have U:=bits_le h;obtain⟨d,J⟩:=Nat.exists_eq_add_of_le U;have e:(λk=>12#0)=bit (m:Int):=funext λk=>(r9 m k).symm
 rw[e]
 conv=>rhs;rw[J]
 show(uT _ _ d λk B=>FW B).symm
def oA{m n:Nat}(h:m<2^n)(B:k∈251#0):k<n:=by
 rw[iz h]at B;show z!.mp (J!.mp B).1
theorem sum_filter(ts:List ko)(i:Nat)(f:247#0):∀L:List Nat,v8 ts (L.filter f) i=(L.map λk=>if f k=true then R8 ts k i else 0).sum
 | []=>rfl
 | k::r=>by
   have E:=sum_filter ts i f r;rw[w!,_Z,<-E];cases h:f k with
   | true =>
     rw[P!,ο h];unfold v8;rw[w!,_Z];simp
   | false =>
     rw[P!,ξ (by rw[h];simp)]
     simp
def Pz(q:x/2+2*(y/2)=a/2+b/2)(h:x%2+2*(y%2)=a%2+b%2):x+2*y=a+b:=by lia
def mod_one(G:u=0\/u=1)(U:v=0\/v=1):(u^^^v)+2*(u&&&v)=u+v:=by
 rcases G with rfl|rfl<;>rcases U with rfl|rfl<;>rfl
def SG:∀a b:Nat,(a^^^b)+2*(a&&&b)=a+b:=by
 intro a
 induction a using Nat.strongRecOn with
 | ind a E =>
   intro b
   by_cases h:a=0
   .subst h;simp
   .have q:=E (a/2) (by lia) (b/2)
    rw[<-Nat.xor_div_two,<-Nat.and_div_two]at q;show Pz q ?_;have g:(a^^^b)%2=a%2^^^b%2:=Nat.xor_mod_two_pow (n:=1);have D:(a&&&b)%2=a%2&&&b%2:=Nat.and_mod_two_pow (n:=1);rw[g,D];show mod_one (_n a) (_n b)
def xor_int(a b:Nat):Builtin.bitXor (a:Int) (b:Int)=7#(a^^^b):=by
 have h:(a:Int)+b-2*7#(a&&&b)=7#(a^^^b):=by
  have q:=SG a b
  lia
 have e:=PyProof.Rows.bitXor_and (a:Int) (b:Int);rw[e,adg (by lia) (by lia)]
 simpa using h
open PySem L2
noncomputable def Vs(t:ko):List V:=[.int t.1,.int t.2.1,.int t.2.2]
def TupAt(H:Hp)(x:V)(t:ko):Prop:=∃b,x = .ref b/\H b=17#(Vs t)
structure bO(H:Hp)(w:Addr)(p:Nat)(ts:List ko):Prop where
 ex:∃b xs,H w=17#([.int (p:Int),.ref b])/\H b=17#xs/\Paired (TupAt H) xs ts
structure R9(p:Nat)(ts:List ko):Prop where
 inw:Lw p ts
 len:ts.length<=24
 pts:p<=10
def TupAt.tups(s:fT H Y)(h:TupAt H x t):TupAt Y x t:=by
 revert h;show aj λb e h=>?_
 show af b e (s _ _ h)
def bO.tups(s:fT H Y)(h:bO H w p ts):bO Y w p ts:=by
 show aA (λb f R W M=>?_) h.ex
 show⟨b,f,s _ _ R,s _ _ W,Paired.imp' (λ_ _ z=>z.tups s) M⟩
def bO.same(s:ai H Y)(h:bO H w p ts):bO Y w p ts:=h.tups s.tups
def aC(l:List Nat):List V:=l.map λk=>V.int ((k:Nat):Int)
def dc(l:List Nat)(k:Nat):aC (l++[k])=aC l++171#k:=by unfold aC;rw[o!];rfl
def aD(l:List Nat):(aC l).length=l.length:=by unfold aC;rw[Δ]
def cS{i:Nat}(h:(aC l)[i]?=some x):∃k,l[i]?=some k/\x = .int (k:Int):=by
 unfold aC at h;rw[j!]at h;show aj (λk e q=>?_) (vN.mp h)
 show af k e q.symm
def fy(f:247#0)(i:Nat):(31#(i+1)).filter f=(31#i).filter f++(if f i=true then[i] else[]):=by
 rw[g_,V?]
 congr 1
 cases h:f i with
 | true=>rw[P!,ο h,ο rfl];rfl
 | false=>rw[P!,ξ (by rw[h];simp),ξ 23#0];rfl
def tQ(f:247#0)(H:Hp)(D:Addr)(i:Nat)(I:List V)(Z:Hp):Prop:=ai H Z/\19#Z/\I=aC ((31#i).filter f)
section
variable {f:247#0}{H H2 H3:Hp}{D:Addr}{i:Nat}{acc:List V}
def tQ.start(r:H D=none):tQ f H D 0 [] (61#H):=150#rfl
def tQ.len(p:tQ f H D i acc H2):H2 D=1#acc/\acc.length<=i:=by
 show 173#p.2.1;rw[p.2.2,aD];show Ω (N! _ _) (by rw[K!];show Ξ _)
def tQ.yes(p:tQ f H D i acc H2)(r:H D=none)(s:ai H2 H3)(Z:f i=true):H3 D=1#acc/\tQ f H D (i+1) (acc++171#i) (η H3 D 66#(acc++171#i)):=by
 show 208;rw[fy,ο Z,dc,<-p.2.2]
def tQ.no(p:tQ f H D i acc H2)(s:ai H2 H3)(Z:f i=false):tQ f H D (i+1) acc H3:=by
 show bj (p.1.trans s) (s _ _ p.2.1) ?_;rw[fy,ξ (by rw[Z];simp),H?]
 show p.2.2
end
noncomputable def dY(ts:List ko)(k:Nat):ko:=ts.getD k (0,0,0)
def stepT(e:List Int)(t:ko):List Int:=bump (bump e t.1) t.2.1
theorem CC{ts:List ko}:∀(L:List Nat) e,(∀k∈L,k<ts.length)->(L.map (dY ts)).foldl stepT e=L.foldl (step ts) e
 | [],_,_=>rfl
 | k::r,e,h=>by
   rw[w!,L_,L_,CC r _ λj J=>h j (sY _ J)]
   have B:=h k h!;have g:ts[k]?=some (dY ts k):=by
    unfold dY;rw[B!];simp[B]
   have D:step ts e k=stepT e (dY ts k):=by
    unfold step stepT;rw[g]
   rw[D]
def CD{ts:List ko}{m:Nat}(h:m<2^ts.length):mX p ts (m:Int)=((251#0).map (dY ts)).foldl stepT (List.replicate p 0):=by
 unfold mX;rw[CC _ _ λk B=>oA h B]
def My(e:List Int)(t:ko):48#(stepT e t)=e.length:=by unfold stepT;rw[nO,nO]
theorem v9:∀(l:List ko) e,48#(l.foldl stepT e)=e.length
 | [],_=>rfl
 | t::r,e=>by rw[L_,v9 r,My]
def aP(l:List Int):List V:=l.map V.int
def jv{l:List Int}(h:i<l.length):(aP l)[i]?=8#(l.getD i 0):=by
 unfold aP;rw[j!,B!];simp[h]
def zm(l:List Int)(i:Nat):(aP l).set i (.int (l.getD i 0+1))=aP (bump l (i:Int)):=by
 unfold aP bump;rw[l!,adY]
def PB(p:Nat):55#p=aP (List.replicate p 0):=by
 induction p with
 | zero=>rfl
 | succ p E=>rw[U?,I_,E,U?];rfl
def sd(h:j<n):Lg n (j:Int)=some j:=by
 unfold Lg;rw[ο (by lia),ο (by lia),l!]
def l9(k:Nat):PyData:=.int (k:Int)
theorem i9{K:bY}:∀l:List Nat,DatVs K H (aC l) (l.map l9)
 | []=>.nil
 | _::r=>.cons (.int _) (i9 r)
theorem FY:∀l:List Nat,225#(l.map l9)=true
 | []=>rfl
 | _::r=>by
   have E:=FY r;simp only[w!,PyData.canLayAll0,E,t_];rfl
theorem CF:∀l:List Nat,149#(l.map l9)=0
 | []=>rfl
 | _::r=>by
   have E:=CF r;change max (PyData.depth (PyData.int _)) (149#(r.map _))=0;rw[E];rfl
def iV(l:List Nat):133#(.list (l.map l9)):=by
 unfold SeqAt.shaped;have e:(PyData.list (l.map l9)).canLay0=225#(l.map l9):=by simp[PyData.canLay0]
 rw[e,FY,W!];show eK ?_;have D:PyData.depth (PyData.list (l.map l9))=149#(l.map l9)+1:=by simp[PyData.depth]
 rw[D,CF]
 decide
def DK(l:List Nat):PyData.eqv (.list (l.map l9)) (.list [])=decide (l=[]):=by
 cases l with
 | nil=>rfl
 | cons a r=>rfl
def Vt(S:Int)(k:Nat):11#(V.int (Builtin.bitAnd (S/2^k) 1)=V.int 1)=bit S k:=by
 unfold bit;rw[PyProof.Rows.bitAnd_m1];rw[T!];simp
def SH(x:Int):11#(V.int x=V.int 1)=decide (x=1):=by
 rw[T!];simp
structure oB(p:Int)(t:ko):Prop where
 a0:0<=t.1
 a1:t.1<p
 b0:0<=t.2.1
 b1:t.2.1<p
 ne:t.1≠t.2.1
 l0:1<=t.2.2
 l1:t.2.2<=1000000000000000000000000000000
structure aJ(p:Nat)(ts:List ko):Prop where
 p1:1<=p
 p2:p<=10
 len:ts.length<=24
 tR:∀t∈ts,oB (p:Int) t
def aJ.Fv(g:aJ p ts):R9 p ts:=⟨⟨λt d=>let z:=g.tR t d;(iI z.a0 z.a1 z.b0 z.b1)⟩,g.len,g.p2⟩
def yu(p:Int)(H:Hp)(D:Addr)(n:Nat)(Z:Hp):Prop:=ai H Z/\∃I J,19#Z/\Paired (TupAt Z) I J/\I.length=n/\∀t∈J,oB p t
section
variable {p:Int}{H H2 H3:Hp}{D b:Addr}{n:Nat}{t:ko}
def yu.start(r:H D=none):yu p H D 0 (61#H):=⟨ai.new r,(bh [] [] aa .nil rx λt d=>nomatch d)⟩
def yu.push(h:yu p H D n H2)(r:H D=none)(s:ai H2 H3)(g:oB p t)(U:H3 b=17#(Vs t)):
 ∃I,19#H3/\I.length=n/\yu p H D (n+1) (η H3 D 66#(I++[.ref b])):=by
 revert h;show Bf λN=>aS λI J c y S e=>?_
 have a:19#H3:=s _ _ c;show fU I a S ((N.trans s).put r) (bh (I++[.ref b]) (J++[t]) aa ?_ (by rw[U',S!,S]) λu G=>?_)
 .show Paired.snoc (244#(z.tups (s.tups.trans (fT.put a)))) (af b rx (fT.put a _ _ U))
 .rcases d!.mp G with G|G
  .show e u G
  .cases a!.mp G;show g
def yu.fin{q:Nat}(h:yu (q:Int) H D n H2):∃I ts,19#H2/\ts.length=n/\(∀t∈ts,oB (q:Int) t)/\∀l,H2 l=none->∀w,η H2 l (.tup I) w=none->
 ai H (η (η H2 l (.tup I)) w (.tup [.int (q:Int),.ref l]))/\bO (η (η H2 l (.tup I)) w (.tup [.int (q:Int),.ref l])) w q ts:=by
 revert h;show Bf λN=>aS λI ts J y S e=>?_
 show bh I ts J (by rw[<-y.length,S]) e λl C w j=>?_
 have a:ai H2 (η H2 l (.tup I)):=ai.new C;have M:=a.trans (ai.new (o:=.tup [.int (q:Int),.ref l]) j);show⟨N.trans M,l,I,aa,?_,244#(z.tups M.tups)⟩
 rw[au (cf aa j),aa]
end
def PD{p o r:Int}(h:0<=o)(R:o<p)(B:0<=r)(J:r<p-1):0<=(o+1+r)%p/\(o+1+r)%p<p/\o≠(o+1+r)%p:=by
 have t:0<p:=by lia
 show bj (Int.emod_nonneg _ (by lia)) (adU _ t) ?_
 by_cases d:o+1+r<p
 .rw[Int.emod_eq_of_lt (by lia) d]
  lia
 .have e:(o+1+r)%p=o+1+r-p:=by
   rw[<-Int.sub_emod_right,Int.emod_eq_of_lt (by lia) (by lia)]
  rw[e]
  lia
def dZ(h:n<=24):n<=sizeLine:=j? (ff (by lia))
def iN(h:n<=900):n<sizeLine:=ff (by lia)
def uU{ns:List Int}(h:k<ns.length):(264#0)[k]?=8#(ns.getD k 0):=by
 rw[j!,B!];simp[h]
def ja(x m:Int)(h:0<m):0<=x%m/\x%m<m:=⟨Int.emod_nonneg _ (by lia),adU _ h⟩
end Ring
namespace RM
noncomputable def e9(f:247#0):247#0
 | 0=>false
 | n+1=>e9 f n^^f n
theorem fH:∀{n},(∀k,k<n->f k=g k)->e9 f n=e9 g n
 | 0,_=>rfl
 | n+1,h=>by
   unfold e9;rw[fH 169#h,h n (by lia)]
theorem nP(f g:247#0):∀n,e9 (λk=>f k^^g k) n=(e9 f n^^e9 g n)
 | 0=>rfl
 | n+1=>by
   unfold e9;rw[nP f g n];cases e9 f n<;>cases e9 g n<;>cases f n<;>cases g n<;>rfl
theorem tS:∀n,e9 (λ_=>false) n=false
 | 0=>rfl
 | n+1=>by unfold e9;rw[tS n];rfl
theorem uV(c:Bool)(f:247#0):∀n,e9 (λk=>c&&f k) n=(c&&e9 f n)
 | 0=>by cases c<;>rfl
 | n+1=>by
   unfold e9;rw[uV c f n];cases c<;>simp
theorem CG(f:Nat->247#0)(n:Nat):∀m,e9 (λx=>e9 (λk=>f x k) n) m=e9 (λk=>e9 (λx=>f x k) m) n
 | 0=>by
   change false=_;rw[<-tS n];rfl
 | m+1=>by
   change(e9 (λx=>e9 (λk=>f x k) n) m^^e9 (λk=>f m k) n)=_
   rw[CG f n m,<-nP];rfl
def kQ(h:∀k,k<n->f k=false):e9 f n=false:=by
 rw[fH (g:=λ_=>false) h,tS]
theorem uW:∀{n},a<n->(∀k,k<n->k≠a->f k=false)->e9 f n=f a
 | 0,h,_=>absurd h (r? _)
 | n+1,h,z=>by
   unfold e9
   by_cases e:a=n
   .subst e;rw[kQ λk B=>z k (by lia) (by lia)]
    simp
   .rw[uW (a:=a) (by lia) λk B S=>z k (by lia) S,z n (by lia) (λq=>e q.symm)]
    simp
def oE(C:247#0)(h:a<m):e9 (λx=>C x&&decide (a=x)) m=C a:=by
 rw[uW h λk _ B=>by simp[e! B]]
 simp
structure Net where
 p:Nat
 n:Nat
 a:Nat->Nat
 b:Nat->Nat
 al:∀k,k<n->a k<p
 bl:∀k,k<n->b k<p
 ne:∀k,k<n->a k≠b k
variable (N:Net)
noncomputable def Net.inc(k x:Nat):Bool:=11#(N.a k=x)^^11#(N.b k=x)
def Net.bd(m x:Nat):Bool:=e9 (λk=>12#0&&N.inc k x) N.n
def Net.iO(m:Nat):Prop:=∀x,x<N.p->N.bd m x=false
variable {N}
def jb(m q x:Nat):N.bd (m^^^q) x=(N.bd m x^^N.bd q x):=by
 unfold Net.bd;rw[<-nP];show fH λk _=>?_
 rw[p!];cases 12#0<;>cases q.testBit k<;>cases N.inc k x<;>rfl
def uX(x:Nat):N.bd 0 x=false:=by
 unfold Net.bd;show kQ λk _=>by simp
def qF(h:k<N.n)(x:Nat):N.bd (2^k) x=N.inc k x:=by
 unfold Net.bd;rw[uW h λj _ J=>by simp[D!,e! J]]
 simp[D!]
def iO.xor(h:N.iO m)(h' : N.iO q):N.iO (m^^^q):=λx O=>by rw[jb,h x O,h' x O];rfl
def PF{m:Nat}(C:247#0)(h:∀k,k<N.n->12#0=true->C (N.a k)=C (N.b k)):e9 (λx=>C x&&N.bd m x) N.p=false:=by
 have e:e9 (λx=>C x&&N.bd m x) N.p=e9 (λx=>e9 (λk=>C x&&(12#0&&N.inc k x)) N.n) N.p :=
  fH λx _=>(uV (C x) _ N.n).symm
 rw[e,CG];show kQ λk B=>?_
 have D:e9 (λx=>C x&&(12#0&&N.inc k x)) N.p=(12#0&&(C (N.a k)^^C (N.b k))):=by
  rw[<-oE C (N.al k B),<-oE C (N.bl k B),<-nP,<-uV];show fH λx _=>?_
  unfold Net.inc;cases C x<;>cases 12#0<;>cases 11#(N.a k=x)<;>cases 11#(N.b k=x)<;>rfl
 rw[D];cases U:12#0 with
 | false=>rfl
 | true=>rw[h k B U];simp
noncomputable def join(L:Nat->Nat)(u v:Nat):Nat->Nat:=λx=>if L x=184#max then 184#min else L x
def join_eq(h:L x=L y):join L u v x=join L u v y:=by unfold join;rw[h]
def Mz(L:Nat->Nat)(u v:Nat):join L u v u=join L u v v:=by
 unfold join
 split<;>split<;>lia
def CH(h:L u=L v):join L u v=L:=by
 funext x
 unfold join;rw[h]
 split<;>lia
def IZ(h:join L u v x=join L u v y):L x=L y\/(L x=L u/\L y=L v)\/(L x=L v/\L y=L u):=by
 unfold join at h;have a:(184#max=L u/\184#min=L v)\/(184#max=L v/\184#min=L u):=by
  rcases 184#O_ with q|q
  .show .inr ⟨_R q,N? q⟩
  .show .inl ⟨_U q,_a q⟩
 rcases a with⟨g,D⟩|⟨g,D⟩
 .rw[g,D]at h
  split at h
  .rename_i O
   split at h
   .rename_i X
    show .inl (O.trans X.symm)
   .show .inr (.inl ⟨O,h.symm⟩)
  .split at h
   .rename_i X
    show .inr (.inr ⟨h,X⟩)
   .show .inl h
 .rw[g,D]at h
  split at h
  .rename_i O
   split at h
   .rename_i X
    show .inl (O.trans X.symm)
   .show .inr (.inr ⟨O,h.symm⟩)
  .split at h
   .rename_i X
    show .inr (.inl ⟨h,X⟩)
   .show .inl h
def join_le(h:L x<=x):join L u v x<=x:=by
 unfold join
 split<;>lia
def MA(h:∀x,L (L x)=L x)(x:Nat):join L u v (join L u v x)=join L u v x:=by
 have G:=h u;have U:=h v;have O:=h x;have g:L (184#min)=184#min:=by
  rcases 184#O_ with q|q
  .rw[N? q];show G
  .rw[_a q];show U
 unfold join
 split
 .rw[g]
  split<;>lia
 .rw[O]
  split<;>lia
def Net.bP(N:Net)(S:247#0):Nat->Nat->Nat
 | 0=>λx=>x
 | k+1=>if S k=true then join (Net.bP N S k) (N.a k) (N.b k) else Net.bP N S k
variable {S:247#0}
theorem yO:∀k x,N.bP S k x<=x
 | 0,_=>Ξ _
 | k+1,x=>by
   unfold Net.bP
   split
   .show join_le (yO k x)
   .show yO k x
theorem g8:∀k x,N.bP S k (N.bP S k x)=N.bP S k x
 | 0,_=>rfl
 | k+1,x=>by
   by_cases l:S k=true
   .have e:N.bP S (k+1)=join (N.bP S k) (N.a k) (N.b k):=by
     conv=>lhs;unfold Net.bP
     rw[ο l]
    rw[e];show MA (g8 k) x
   .have e:N.bP S (k+1)=N.bP S k:=by
     conv=>lhs;unfold Net.bP
     rw[ξ l]
    rw[e];show g8 k x
theorem CI(h:N.bP S k x=N.bP S k y):∀d,N.bP S (k+d) x=N.bP S (k+d) y
 | 0=>h
 | d+1=>by
   have E:=CI h d;change N.bP S (k+d+1) x=N.bP S (k+d+1) y;unfold Net.bP
   split
   .show join_eq E
   .show E
def qG(h:j<k)(l:S j=true):N.bP S k (N.a j)=N.bP S k (N.b j):=by
 obtain⟨d,rfl⟩:=Nat.exists_eq_add_of_le (Nat.succ_le_of_lt h);show CI ?_ d;change N.bP S (j+1) (N.a j)=N.bP S (j+1) (N.b j);unfold Net.bP;rw[ο l];show Mz _ _ _
inductive Net.qH(N:Net)(S:247#0)(k u:Nat):Nat->Prop
 | refl:Net.qH N S k u u
 | fwd {j:Nat} (h:Net.qH N S k u (N.a j)) (hj:j<k) (hs:S j=true):Net.qH N S k u (N.b j)
 | bwd {j:Nat} (h:Net.qH N S k u (N.b j)) (hj:j<k) (hs:S j=true):Net.qH N S k u (N.a j)
def Net.qH.trans(h:N.qH S k u v)(h' : N.qH S k v w):N.qH S k u w:=by
 induction h' with
 | refl=>show h
 | fwd _ J l E=>show .fwd E J l
 | bwd _ J l E=>show .bwd E J l
def Net.qH.mono(h:N.qH S k u v)(e:k<=l):N.qH S l u v:=by
 induction h with
 | refl=>show .refl
 | fwd _ J a E=>show .fwd E (by lia) a
 | bwd _ J a E=>show .bwd E (by lia) a
theorem gm:∀k u v,N.bP S k u=N.bP S k v->N.qH S k u v
 | 0,u,v,h=>by
   have e:u=v:=h;subst e;show .refl
 | k+1,u,v,h=>by
   unfold Net.bP at h
   split at h
   .rename_i l
    rcases IZ h with q|⟨O,P⟩|⟨O,P⟩
    .show(gm k u v q).mono (by lia)
    .have U:=(gm k u _ O).mono (Q! k);have Y:=(gm k _ v P.symm).mono (Q! k);show Net.qH.trans (.fwd U (by lia) l) Y
    .have U:=(gm k u _ O).mono (Q! k);have Y:=(gm k _ v P.symm).mono (Q! k);show Net.qH.trans (.bwd U (by lia) l) Y
   .show(gm k u v h).mono (by lia)
def Net.eo(N:Net)(k:Nat):Nat->Nat:=N.bP (λ_=>true) k
def Net.kH(N:Net)(k:Nat):Bool:=! 11#(N.eo k (N.a k)=N.eo k (N.b k))
def zo(k:Nat):N.eo (k+1)=if N.kH k=true then join (N.eo k) (N.a k) (N.b k) else N.eo k:=by
 change N.bP (λ_=>true) (k+1)=_
 unfold Net.bP;rw[ο rfl];unfold Net.kH
 by_cases h:N.eo k (N.a k)=N.eo k (N.b k)
 .rw[ξ (by simp[h])]
  show CH h
 .rw[ο (by simp[h])]
  rfl
def kI{m:Nat}(Z:∀k,12#0=true->k<N.n/\N.kH k=true)(n:N.iO m):m=0:=by
 by_cases F:m=0
 .show F
 exfalso
 have l:m.testBit m.log2=true:=Nat.testBit_log2 F;obtain⟨a,b⟩:=Z _ l;generalize f:m.log2=K at l a b;have d:m<2^(K+1):=by rw[<-f];show Nat.lt_log2_self
 have c:=PF (N:=N) (m:=m^^^2^K) (λx=>11#(204#x)) λk B U=>by
  have g:k<K:=by
   rw[p!,D!]at U
   by_cases e:K=k
   .subst e;simp[l]at U
   .have r:12#0=true:=by simpa[e]using U
    have:k<K+1:=by
     by_cases q:k<K+1
     .show q
     .have z:=a_ (g! d (o? 3#0 (151#(K+1<=k))))
      rw[r]at z;cases z
    lia
  have e:N.eo K (N.a k)=N.eo K (N.b k):=qG (S:=λ_=>true) g rfl
  change 11#(N.eo K (N.a k)=_)=11#(N.eo K (N.b k)=_);rw[e]
 have e:e9 (λx=>11#(204#x)&&N.bd (m^^^2^K) x) N.p=e9 (λx=>11#(204#x)&&N.inc K x) N.p :=
  fH λx O=>by rw[jb,n x O,qF a];simp
 rw[e]at c;have D:e9 (λx=>11#(204#x)&&N.inc K x) N.p=(11#(204#(N.a K))^^11#(204#(N.b K))):=by
  rw[<-oE (λx=>11#(204#x)) (N.al K a),<-oE (λx=>11#(204#x)) (N.bl K a),<-nP]
  show fH λx _=>?_
  unfold Net.inc;cases 11#(204#x)<;>cases 11#(N.a K=x)<;>cases 11#(N.b K=x)<;>rfl
 rw[D]at c;unfold Net.kH at b;have y : ¬ 204#(N.b K):=λq=>by rw[q]at b;simp at b
 simp[y]at c
def Net.trail(N:Net):Nat->Nat->Nat
 | 0=>λ_=>0
 | k+1=>if N.kH k=true then λv=>if N.eo k v=max (N.eo k (N.a k)) (N.eo k (N.b k)) then Net.trail N k v^^^(Net.trail N k (N.a k)^^^Net.trail N k (N.b k)^^^2^k) else Net.trail N k v
   else Net.trail N k
theorem nQ:∀k v j,140#(N.trail k v)=true->j<k/\N.kH j=true
 | 0,v,j,h=>by simp[Net.trail]at h
 | k+1,v,j,h=>by
   have E:=nQ k;unfold Net.trail at h
   split at h
   .rename_i Z
    dsimp only at h
    split at h
    .rw[p!,p!,p!,D!]at h
     by_cases e:k=j
     .subst e;show⟨by lia,Z⟩
     .have z : ¬(140#(N.trail k v)=false/\140#(N.trail k (N.a k))=false/\140#(N.trail k (N.b k))=false):=by
       show dW λd X l=>?_
       simp[d,X,l,e]at h
      cases R:140#(N.trail k v) with
      | true=>obtain⟨q,r⟩:=E v j R;show⟨by lia,r⟩
      | false=>cases W:140#(N.trail k (N.a k)) with
        | true=>obtain⟨q,r⟩:=E _ j W;show⟨by lia,r⟩
        | false=>cases M:140#(N.trail k (N.b k)) with
          | true=>obtain⟨q,r⟩:=E _ j M;show⟨by lia,r⟩
          | false=>show absurd (bj R W M) z
    .obtain⟨q,r⟩:=E v j h;show⟨by lia,r⟩
   .obtain⟨q,r⟩:=E v j h;show⟨by lia,r⟩
def PJ(a b c d e f g h:Bool)(i:(d^^f)=(g^^h)):((a^^g)^^(((c^^d)^^(e^^f))^^(c^^e)))=(a^^h):=by
 have j:(((c^^d)^^(e^^f))^^(c^^e))=(d^^f):=by cases c<;>cases d<;>cases e<;>cases f<;>rfl
 rw[j,i];cases a<;>cases g<;>cases h<;>rfl
theorem zp:∀k,k<=N.n->∀v x,N.bd (N.trail k v) x=(decide (v=x)^^11#(N.eo k v=x))
 | 0,_,v,x=>by
   change N.bd 0 x=(decide (v=x)^^decide (v=x));rw[uX];simp
 | k+1,B,v,x=>by
   have E:=zp k (by lia)
   rw[zo];unfold Net.trail
   by_cases Z:N.kH k=true
   .rw[ο Z,ο Z]
    by_cases d:N.eo k v=max (N.eo k (N.a k)) (N.eo k (N.b k))
    .have e:join (N.eo k) (N.a k) (N.b k) v=min (N.eo k (N.a k)) (N.eo k (N.b k)):=by unfold join;rw[ο d]
     change N.bd (308#(N.eo k v=_)) x=_
     rw[ο d,e,jb,jb,jb,qF (by lia),E,E,E]
     unfold Net.inc;show PJ _ false _ _ _ _ _ _ ?_;rw[d];rcases O_ (N.eo k (N.a k)) (N.eo k (N.b k)) with q|q
     .rw[_R q,N? q,Bool.xor_comm]
     .rw[_U q,_a q]
    .have e:join (N.eo k) (N.a k) (N.b k) v=N.eo k v:=by unfold join;rw[ξ d]
     change N.bd (308#(N.eo k v=_)) x=_
     rw[ξ d,e,E]
   .rw[ξ Z,ξ Z];show E v x
def Net.ring(N:Net)(c:Nat):Nat:=N.trail N.n (N.a c)^^^N.trail N.n (N.b c)^^^2^c
def PK(h:c<N.n):N.eo N.n (N.a c)=N.eo N.n (N.b c):=qG (S:=λ_=>true) h rfl
def se(h:c<N.n):N.iO (N.ring c):=λx _=>by
 unfold Net.ring;rw[jb,jb,qF h,zp _ (Ξ _),zp _ (Ξ _),PK h];unfold Net.inc;cases 11#(N.a c=x)<;>cases 11#(N.b c=x)<;>cases 11#(N.eo N.n (N.b c)=x)<;>rfl
def qI(h:140#(N.ring c)=true):j=c\/(j<N.n/\N.kH j=true):=by
 unfold Net.ring at h;rw[p!,p!,D!]at h
 by_cases e:c=j
 .show .inl e.symm
 .right
  cases R:140#280#(N.a c) with
  | true=>show nQ _ _ _ R
  | false=>cases W:140#280#(N.b c) with
    | true=>show nQ _ _ _ W
    | false=>simp[R,W,e]at h
def zq(Z:N.kH c=false):(N.ring c).testBit c=true:=by
 unfold Net.ring;rw[p!,p!,D!];cases R:(280#(N.a c)).testBit c with
 | true=>obtain⟨_,q⟩:=nQ _ _ _ R;rw[Z]at q;cases q
 | false=>cases W:(280#(N.b c)).testBit c with
   | true=>obtain⟨_,q⟩:=nQ _ _ _ W;rw[Z]at q;cases q
   | false=>simp
def MB(h:j<N.n)(Z:N.kH j=true):140#280#(N.a j)=true\/140#280#(N.b j)=true:=by
 have z:N.ring j=0:=kI (λk B=>by
  rcases qI B with rfl|q
  .show⟨h,Z⟩
  .show q) (se h)
 have b:140#(N.ring j)=false:=by rw[z];simp
 unfold Net.ring at b;rw[p!,p!,D!]at b;cases R:140#280#(N.a j) with
 | true=>show .inl rfl
 | false=>cases W:140#280#(N.b j) with
   | true=>show .inr rfl
   | false=>simp[R,W]at b
def cnt(f:247#0):Nat->Nat
 | 0=>0
 | n+1=>cnt f n+(57#(f n))
theorem kR:∀{n},(∀k,k<n->f k=g k)->cnt f n=cnt g n
 | 0,_=>rfl
 | n+1,h=>by
   unfold cnt;rw[kR 169#h,h n (by lia)]
theorem FZ(y:g h=true):∀{p},h<p->(∀x,x<p->f x=(g x && ! decide (x=h)))->cnt g p=cnt f p+1
 | 0,N,_=>absurd N (r? _)
 | p+1,N,e=>by
   unfold cnt
   by_cases q:h=p
   .subst q;have z:cnt g h=cnt f h:=kR λk B=>by rw[e k (by lia)];simp[151#(k≠h)]
    rw[z,ο y,e h (by lia)]
    simp
   .rw[FZ y (by lia) λx O=>e x (by lia),e p (by lia)]
    simp[e! q]
    lia
theorem nR(f:247#0):∀n,48#((31#n).filter f)=cnt f n
 | 0=>rfl
 | n+1=>by
   rw[g_,V?,U',nR f n];change _=cnt f n+(57#(f n))
   cases h:f n with
   | true=>rw[P!,ο h];rfl
   | false=>rw[P!,ξ (by rw[h];simp)];rfl
theorem DL(f:247#0):∀n,cnt f n+cnt (λk=>! f k) n=n
 | 0=>rfl
 | n+1=>by
   have E:=DL f n;unfold cnt;cases h:f n<;>simp<;>lia
theorem DM:∀{n},(∀k,k<n->f k=true)->cnt f n=n
 | 0,_=>rfl
 | n+1,h=>by
   unfold cnt;rw[DM 169#h,ο (h n (by lia))]
variable {N:Net}{S:247#0}
def Net.root(N:Net)(S:247#0)(k x:Nat):Bool:=11#(N.bP S k x=x)
def kT(k:Nat):N.bP S (k+1)=if S k=true then join (N.bP S k) (N.a k) (N.b k) else N.bP S k:=by
 conv=>lhs;unfold Net.bP
def yP(h:x<N.p):N.bP S k x<N.p:=d_ (yO k x) h
def MC(P:∀x,L (L x)=L x)(y:L u≠L v)(x:Nat):11#(join L u v x=x)=(11#(L x=x) && ! 11#(x=184#max)):=by
 have a:L (184#max)=184#max:=by
  rcases 184#O_ with q|q
  .rw[_R q];show P v
  .rw[_U q];show P u
 have g:L (184#min)=184#min:=by
  rcases 184#O_ with q|q
  .rw[N? q];show P u
  .rw[_a q];show P v
 unfold join
 by_cases h:L x=184#max
 .rw[ο h];have R : ¬ 184#min=x:=λz=>by
   rw[<-z,g]at h
   lia
  by_cases W:x=184#max
  .simp[R,W]
   lia
  .have M : ¬ L x=x:=λz=>W (z.symm.trans h)
   simp[R,M]
 .rw[ξ h];have W : ¬ x=184#max:=λz=>h (by rw[z];show a)
  simp[W]
def zu(B:k<N.n):cnt (N.root S k) N.p=cnt (N.root S (k+1)) N.p+(if(S k && ! 11#(291#N.a=291#N.b))=true then 1 else 0):=by
 cases l:S k with
 | false =>
   have e:N.root S (k+1)=N.root S k:=by unfold Net.root;rw[kT,ξ (by rw[l];simp)]
   rw[e];simp
 | true =>
   by_cases h:291#N.a=291#N.b
   .have e:N.root S (k+1)=N.root S k:=by unfold Net.root;rw[kT,ο l,CH h]
    rw[e];simp[h]
   .have a:N.bP S k (max (291#N.a) (291#N.b))=max (291#N.a) (291#N.b):=by
     rcases O_ (291#N.a) (291#N.b) with q|q
     .rw[_R q];show g8 _ _
     .rw[_U q];show g8 _ _
    have R:=yP (S:=S) (k:=k) (N.al k B);have W:=yP (S:=S) (k:=k) (N.bl k B);rw[FZ (f:=N.root S (k+1)) (g:=N.root S k) (h:=max (291#N.a) (291#N.b)) (eK a) (by lia) λx _=>by
     unfold Net.root;rw[kT,ο l];show MC (g8 k) h x]
    simp[h]
theorem uY:∀k,k<=N.n->cnt (N.root (λ_=>true) k) N.p+cnt N.kH k=N.p
 | 0,_=>by
   change cnt (N.root (λ_=>true) 0) N.p+0=N.p
   rw[DM (f:=N.root (λ_=>true) 0) λx _=>eK rfl]
   rfl
 | k+1,B=>by
   have E:=uY k (by lia)
   have st:=zu (N:=N) (S:=λ_=>true) (k:=k) (by lia)
   have e:((λ_=>true:247#0) k && ! 11#(N.bP (λ_=>true) k (N.a k)=N.bP (λ_=>true) k (N.b k)))=N.kH k:=by rw[W!];rfl
   rw[e]at st;change cnt (N.root (λ_=>true) (k+1)) N.p+(cnt N.kH k+57#(N.kH k))=N.p
   lia
def F0:(N.n:Int)-N.p+cnt (N.root (λ_=>true) N.n) N.p=(207#(! N.kH k):Nat):=by
 have h:=uY (N:=N) N.n (Ξ _);have W:=DL N.kH N.n
 lia
def Net.dR(N:Net):List Nat:=(31#N.n).filter λk=>! N.kH k
def fJ:c∈N.dR↔c<N.n/\N.kH c=false:=by
 unfold Net.dR;rw[J!,z!];simp
def I0:N.dR.length=207#(! N.kH k):=nR _ _
def gG{m n:Nat}(h:∀k,12#0=true->k<n):m<2^n:=Nat.lt_pow_two_of_testBit m λk B=>by
 cases q:12#0 with
 | false=>rfl
 | true=>show absurd (h k q) (by lia)
def g9(h:m<2^n)(U:12#0=true):k<n:=by
 by_cases q:k<n
 .show q
 .have z:=a_ (g! h (o? 3#0 (151#(n<=k))))
  rw[U]at z;cases z
def PL(d:m<2^N.n)(Y:q<2^N.n)(b:N.iO m)(a:N.iO q)(h:∀c,c<N.n->N.kH c=false->m.testBit c=q.testBit c):m=q:=by
 have z:m^^^q=0:=kI (N:=N) (λk B=>by
  have x:=g9 (K? d Y) B;show⟨x,?_⟩;cases Z:N.kH k with
  | true=>rfl
  | false =>
    rw[p!,h k x Z]at B;simp at B) (iO.xor b a)
 have e:m=m^^^q^^^q:=by rw[i?,j_,u?]
 rw[e,z,w?]
def sf(h:c<N.n):N.ring c<2^N.n:=gG λk B=>by
 rcases qI B with rfl|⟨q,_⟩
 .show h
 .show q
def tT(L:N.kH c=false)(J:N.kH d=false):(N.ring c).testBit d=decide (c=d):=by
 by_cases e:c=d
 .subst e;rw[zq L];simp
 .cases q:(N.ring c).testBit d with
  | false=>simp[e]
  | true=>rcases qI q with rfl | ⟨_,r⟩
          .show absurd rx e
          .rw[J]at r;cases r
end RM
namespace Ring
open PySem L2
noncomputable def maskOf(f:247#0):Nat->Nat
 | 0=>0
 | n+1=>(if f n=true then 2^n else 0)+maskOf f n
theorem mask_lt(f:247#0):∀n,maskOf f n<2^n
 | 0=>by change 0<1;decide
 | n+1=>by
   have E:=mask_lt f n;have e:2^(n+1)=2^n+2^n:=by rw[Q?];lia
   unfold maskOf
   split<;>lia
theorem mask_bit(f:247#0)(j:Nat):∀n,140#(maskOf f n)=(decide (j<n)&&f j)
 | 0=>by simp[maskOf]
 | n+1=>by
   have E:=mask_bit f j n;have C:=mask_lt f n;unfold maskOf
   by_cases h:f n=true
   .rw[ο h];rcases Nat.lt_trichotomy j n with q|q|q
    .rw[Nat.testBit_two_pow_add_gt q,E];simp[q,151#(j<n+1)]
    .subst q;rw[Nat.testBit_two_pow_add_eq,E];simp[h]
    .have z:2^n+maskOf f n<2^j:=g! (show 2^n+maskOf f n<2^(n+1) by rw[Q?];lia) (o? 3#0 q)
     rw[a_ z];simp[151#(¬ j<n+1)]
   .rw[ξ h,_i,E]
    by_cases q:j=n
    .subst q;have N:f j=false:=by simpa using h
     simp[N]
    .by_cases r:j<n
     .simp[r,151#(j<n+1)]
     .simp[r,151#(¬ j<n+1)]
def PM(n:Nat):maskOf (λ_=>true) n=2^n-1:=by
 induction n with
 | zero=>rfl
 | succ n E =>
   unfold maskOf;rw[E,ο rfl,Q?];have:=I? n
   lia
def Lx(n j:Nat):140#(2^n-1)=decide (j<n):=by
 rw[<-PM,mask_bit];simp
def Vu(q:x/2+y/2=a/2+b/2)(h:x%2+y%2=a%2+b%2):x+y=a+b:=by lia
def Vv(G:u=0\/u=1)(U:v=0\/v=1):(u ||| v)+(u&&&v)=u+v:=by
 rcases G with rfl|rfl<;>rcases U with rfl|rfl<;>rfl
def Vw:∀a b:Nat,(a ||| b)+(a&&&b)=a+b:=by
 intro a
 induction a using Nat.strongRecOn with
 | ind a E =>
   intro b
   by_cases h:a=0
   .subst h;simp
   .have q:=E (a/2) (by lia) (b/2)
    rw[<-Nat.or_div_two,<-Nat.and_div_two]at q;show Vu q ?_;have g:(a ||| b)%2=a%2 ||| b%2:=Nat.or_mod_two_pow (n:=1)
    have D:(a&&&b)%2=a%2&&&b%2:=Nat.and_mod_two_pow (n:=1);rw[g,D];show Vv (_n a) (_n b)
def or_int(a b:Nat):Builtin.bitOr (a:Int) (b:Int)=7#(a ||| b):=by
 have q:=Vw a b;rw[PyProof.Rows.bitOr_and,adg (by lia) (by lia)]
 have h:(a:Int)+b-7#(a&&&b)=7#(a ||| b):=by lia
 simpa using h
def oF(k:Nat):(1:Int)*2^(k:Int).toNat=7#(2^k):=by
 rw[l!,Int.one_mul];simp
def iW{ts:List ko}(h:k<ts.length):dY ts k∈ts:=by
 unfold dY;rw[B!];simp[h]
def wc{ts:List ko}(h:k<ts.length):ts[k]?=some (dY ts k):=by
 unfold dY;rw[B!];simp[h]
def aJ.N{p:Nat}{ts:List ko}(g:aJ p ts):RM.Net where
 p:=p
 n:=ts.length
 a:=λk=>(dY ts k).1.toNat
 b:=λk=>(dY ts k).2.1.toNat
 al:=λk B=>by
  have z:=g.tR _ (iW B);have c:=z.a0;have d:=z.a1
  lia
 bl:=λk B=>by
  have z:=g.tR _ (iW B);have c:=z.b0;have d:=z.b1
  lia
 ne:=λk B e=>by
  have z:=g.tR _ (iW B);have c:=z.a0;have d:=z.b0;show z.ne (by lia)
def Ly{p:Nat}{ts:List ko}{g:aJ p ts}(h:k<ts.length):(dY ts k).1=7#(g.N.a k):=by
 have z:=(g.tR _ (iW h)).a0;change _=7#(dY ts k).1.toNat
 lia
def Lz{p:Nat}{ts:List ko}{g:aJ p ts}(h:k<ts.length):(dY ts k).2.1=7#(g.N.b k):=by
 have z:=(g.tR _ (iW h)).b0;change _=7#(dY ts k).2.1.toNat
 lia
def SJ{p:Nat}{ts:List ko}{g:aJ p ts}(h:k<ts.length)(x:Nat):R8 ts k x%2=57#(g.N.inc k x):=by
 unfold R8 RM.Net.inc;rw[wc h];dsimp only;rw[Ly (g:=g) h,Lz (g:=g) h];generalize g.N.a k=u;generalize g.N.b k=v
 by_cases R:u=x
 .by_cases W:v=x
  .simp[R,W]
  .have r : ¬((v:Int)=(x:Int)):=by lia
   simp[R,W,r]
 .have C : ¬((u:Int)=(x:Int)):=by lia
  by_cases W:v=x
  .simp[R,W,C]
  .have r : ¬((v:Int)=(x:Int)):=by lia
   simp[R,W,C,r]
theorem PN{p:Nat}{ts:List ko}{g:aJ p ts}(m x:Nat):∀n,n<=ts.length->((31#n).map λk=>if 12#0=true then R8 ts k x else 0).sum%2=57#(RM.e9 (λk=>12#0&&g.N.inc k x) n)
 | 0,_=>rfl
 | n+1,h=>by
   have E:=PN (g:=g) m x n (by lia)
   have J:=SJ (g:=g) (k:=n) (by lia) x
   rw[g_,o!,List.sum_append];change(_+((if m.testBit n=true then R8 ts n x else 0)+0))%2=if(RM.e9 _ n^^(m.testBit n&&g.N.inc n x))=true then 1 else 0
   generalize ((31#n).map λk=>if 12#0=true then R8 ts k x else 0).sum=u at E ⊢
   generalize RM.e9 (λk=>12#0&&g.N.inc k x) n=v at E ⊢
   generalize g.N.inc n x=i at J ⊢;generalize R8 ts n x=d at J ⊢;cases m.testBit n<;>cases v<;>cases i<;>simp at E J ⊢ <;> lia
def LA(g:aJ p ts){m:Nat}(d:m<2^ts.length):11#((mX p ts (m:Int)).getD x 0%2=1)=g.N.bd m x:=by
 rw[Py g.Fv.inw,iz d,sum_filter];have h:=PN (g:=g) m x ts.length (Ξ _);rw[h];change _=RM.e9 _ ts.length;generalize RM.e9 (λk=>12#0&&g.N.inc k x) ts.length=v
 cases v<;>simp
def F1(g:aJ p ts){m:Nat}(d:m<2^ts.length):nN p ts (m:Int)=[]↔g.N.iO m:=by
 unfold nN;rw[_t]
 constructor
 .intro h x O;have q:=h x (z!.mpr O);rw[LA g d]at q
  simpa using q
 .intro h x O;rw[LA g d,h x (z!.mp O)];simp
def jc(f:Nat->Nat)(n:Nat):List V:=(31#n).map λx=>V.int 7#(f x)
def iA(f:Nat->Nat)(n:Nat):48#(jc f n)=n:=by unfold jc;rw[Δ,K!]
def cV(h:x<n):(jc f n)[x]?=some (.int 7#(f x)):=by
 unfold jc;rw[j!,U_ h];rfl
def uZ(h:(jc f n)[x]?=some v):x<n/\v = .int 7#(f x):=by
 have O:x<n:=by
  have:=(k6.mp h).1
  rwa [iA]at this
 rw[cV O]at h;show⟨O,(26#h).symm⟩
def CJ(f:Nat->Nat)(n:Nat):jc f (n+1)=jc f n++[.int 7#(f n)]:=by
 unfold jc;rw[g_,o!];rfl
def PR(p:Nat):55#p=jc (λ_=>0) p:=by
 induction p with
 | zero=>rfl
 | succ p E =>
   rw[CJ,<-E,List.replicate_succ',List.flatten_append];rfl
def DN(f:Nat->Nat)(H:Hp)(D:Addr)(i:Nat)(I:List V)(Z:Hp):Prop:=ai H Z/\19#Z/\I=jc f i
section
variable {f:Nat->Nat}{H H2 H3:Hp}{D:Addr}{i:Nat}{acc:List V}{v:V}
def DN.start(r:H D=none):DN f H D 0 [] (61#H):=150#rfl
def DN.len(p:DN f H D i acc H2):H2 D=1#acc/\acc.length<=i:=⟨p.2.1,by rw[p.2.2,iA];show Ξ _⟩
def DN.next(p:DN f H D i acc H2)(r:H D=none)(s:ai H2 H3)(U:v = .int 7#(f i)):H3 D=1#acc/\DN f H D (i+1) (acc++[v]) (η H3 D 66#(acc++[v])):=by
 show 208;rw[CJ,<-p.2.2,U]
end
theorem CK{N:RM.Net}{m:Nat}:∀n,((31#n).filter λk=>12#0).foldl (λL k=>RM.join L (N.a k) (N.b k)) (λx=>x)=N.bP (λk=>12#0) n
 | 0=>rfl
 | n+1=>by
   rw[fy,Y_,CK n,RM.kT]
   split<;>rfl
end Ring
namespace RM
theorem zv{N:Net}:∀{n},(∀k,k<n->S k=a k)->N.bP S n=N.bP a n
 | 0,_=>rfl
 | n+1,h=>by rw[kT,kT,zv 169#h,h n (by lia)]
end RM
namespace Ring
open PySem L2
noncomputable def pieceOf(L:Nat->Nat)(p s:Nat):List Nat:=(31#p).filter λx=>11#(L x=s)
def fB(L:Nat->Nat)(p:Nat):List Nat:=(31#p).filter λx=>11#(L x=x)
def Ur(D:Addr)(n H:Hp)(y:V)(l:List Nat):Prop:=∃b,y = .ref b/\b≠D/\n b=none/\H b=1#(aC l)
def zw(L:Nat->Nat)(p:Nat)(H:Hp)(D:Addr)(i:Nat)(Z:Hp):Prop:=ai H Z/\∃o,Z D=some (.lst o)/\Paired (Ur D H Z) o ((fB L i).map (pieceOf L p))/\o.length<=i
section
variable {L:Nat->Nat}{p i:Nat}{H H2 H3:Hp}{D b:Addr}
def zw.start(r:H D=none):zw L p H D 0 (61#H):=⟨ai.new r,(av [] aa .nil (Ξ _))⟩
def zx:fB L (i+1)=fB L i++(if L i=i then[i] else[]):=by
 unfold fB;rw[fy]
 by_cases h:L i=i<;>simp[h]
def zw.skip(h:zw L p H D i H2)(S : ¬ L i=i):zw L p H D (i+1) H2:=by
 revert h;show Bf λs=>aG λo J y C=>?_
 show⟨s,(av o J ?_ (by lia))⟩
 rw[zx,ξ S,H?];show y
def zw.push(h:zw L p H D i H2)(r:H D=none)(P:L i=i)(s:ai H2 H3)(U:H2 b=none)(d:H3 b=1#(aC (pieceOf L p i))):
 ∃ys,H3 D=1#ys/\ys.length<=i/\zw L p H D (i+1) (η H3 D 66#(ys++[.ref b])):=by
 revert h;show Bf λN=>aG λys J y C=>?_
 have a:=s _ _ J;have c:b≠D:=λe=>by rw[e,J]at U;cases U
 show fU ys a C ((N.trans s).put r) (av (ys++[.ref b]) aa ?_ (by rw[U',S!];lia))
 rw[zx,ο P,o!];show Paired.snoc (Paired.imp' (by intro _ _;show dX λe=>mj λn S F q=>?_;show fU e n S F (by rw[au S];show s _ _ q)) y) ?_
 show fU b rx c (N.free U) (by rw[au c];show d)
end
def ya(p:Nat)(ts:List ko)(g:aJ p ts)(a:List Nat):Nat->Nat:=a.foldl (λL k=>RM.join L (g.N.a k) (g.N.b k)) λx=>x
def I3:ya p ts g (L++[k])=RM.join (ya p ts g L) (g.N.a k) (g.N.b k):=by
 unfold ya;rw[Y_];rfl
def eJ(p:Nat)(ts:List ko)(g:aJ p ts)(m:Nat):Nat->Nat:=g.N.bP (λk=>12#0) ts.length
def I4{g:aJ p ts}{m:Nat}(d:m<2^ts.length):ya p ts g (251#0)=eJ p ts g m:=by
 unfold ya eJ;rw[iz d];show CK _
def SK:eJ p ts g (2^ts.length-1)=g.N.eo ts.length:=by
 unfold eJ RM.Net.eo;show RM.zv λk B=>by rw[Lx];simp[B]
def SM{g:aJ p ts}:(ts.length:Int)-(p:Int)+48#(fB (eJ p ts g (2^ts.length-1)) p)=(g.N.dR.length:Int):=by
 have h:=RM.F0 (N:=g.N);rw[RM.I0];unfold fB;rw[RM.nR,SK];show h
def SN(a b:Nat):(if(b:Int)<(a:Int) then(b:Int) else(a:Int))=7#(min a b):=by
 split<;>lia
def DO(a b:Nat):(if(b:Int) > (a:Int) then(b:Int) else(a:Int))=7#(max a b):=by
 split<;>lia
def jd(a b:Nat):11#(V.int (a:Int)=V.int (b:Int))=decide (a=b):=by
 rw[T!];simp
 lia
end Ring
namespace RM
variable {N:Net}{S:247#0}
variable {pt r j:Nat}{l:List Nat}
def PU{l:List Nat}:∀{p},l.Nodup->(∀x∈l,x<p)->l.length<=p:=by
 intro p S C;have t:l.Perm ((31#p).filter λx=>11#(x∈l)):=by
  show(List.perm_ext_iff_of_nodup S (adJ _ List.nodup_range)).mpr λa=>?_
  rw[J!,z!];simp;show λh=>C a h
 rw[t.length_eq];have:=N! (λx=>11#(x∈l)) 31#p
 rwa [K!]at this
end RM
namespace Ring
open PySem L2
def I5:((31#p).filter f).Pairwise (· < ·):=adJ _ List.pairwise_lt_range
def I6(F:∀x,L x<=x)(l:L s=s)(t:s<p):(pieceOf L p s)[0]?=some s:=by
 unfold pieceOf;obtain⟨d,rfl⟩:=Nat.exists_eq_add_of_lt t;rw[151#(s+d+1=s+(d+1)),List.range_add,V?]
 have e:(31#s).filter (λx=>11#(L x=s))=[]:=by
  rw[_t];intro x O;have R:=z!.mp O;have W:=F x;simp
  lia
 rw[e,List.nil_append,List.range_succ_eq_map,w!,P!,ο (by simp[l])]
 rfl
def oG(l:List Nat):aC l=302#(l.map λx=>((x:Nat):Int)):=by unfold aC;rw[z?];rfl
def qJ(u:Nat)(l:List Nat):Vf (.int (u:Int)) (aC l)=11#(u∈l):=by
 unfold Vf aC;rw[List.any_map,T!,adZ];simp only[Function.comp,decide_eq_true_eq]
 constructor
 .show aj λx O h=>?_
  have e:((x:Nat):Int)=(u:Int):=eq_of_beq h;have:x=u:=by lia
  show this▸O
 .intro h;show af u h (by simp[Lm])
def kU(l:List Nat):(aC l).all ly=true:=by
 unfold aC;rw[ad0,l?];intro x _;rfl
def and_int(a b:Nat):Builtin.bitAnd (a:Int) (b:Int)=7#(a&&&b):=by
 rw[adg (by lia) (by lia)]
 simp
def WJ(T:Nat->Nat):Nat->Nat
 | 0=>0
 | n+1=>WJ T n ||| T n
theorem LB(T:Nat->Nat)(j:Nat):∀n,140#(WJ T n)=true↔∃x,x<n/\140#(T x)=true
 | 0=>by simp[WJ]
 | n+1=>by
   unfold WJ;rw[Nat.testBit_or,Bool.or_eq_true,LB T j n]
   constructor
   .rintro(⟨x,O,h⟩|h)
    .show af x (by lia) h
    .show af n (by lia) h
   .show aj λx O h=>?_
    by_cases e:x=n
    .subst e;show .inr h
    .show .inl (af x (by lia) h)
section
variable {p:Nat}{ts:List ko}{g:aJ p ts}
def mC(p:Nat)(ts:List ko)(g:aJ p ts):Nat:=maskOf g.N.kH ts.length
def I7:WJ (g.N.trail ts.length) p=mC p ts g:=by
 show S? λj=>?_
 unfold mC;rw[mask_bit,T!,LB];simp only[H!,decide_eq_true_eq]
 constructor
 .show aj λx _ h=>?_
  show RM.nQ _ _ _ h
 .rintro⟨R,W⟩;rcases RM.MB (N:=g.N) R W with h|h
  .show af _ (g.N.al j R) h
  .show af _ (g.N.bl j R) h
def I8(j:Nat):140#((2^ts.length-1)^^^mC p ts g)=(11#(j<ts.length) && ! g.N.kH j):=by
 unfold mC;rw[p!,Lx,mask_bit];cases 11#(j<ts.length)<;>cases g.N.kH j<;>rfl
def CL:(2^ts.length-1)^^^mC p ts g<2^ts.length:=K? (161#(I? ts.length)) (mask_lt _ _)
def F2:b9 7#((2^ts.length-1)^^^mC p ts g)=g.N.dR:=by
 rw[iz CL];unfold RM.Net.dR;show _L λk B=>?_
 have:=z!.mp B;rw[I8];simp[this]
end
def SO(n:Nat):((2:Int)^n-1)=7#(2^n-1):=by
 have h:((2:Int)^n)=7#(2^n):=by simp
 have:=I? n
 lia
def Vx(h:∀c∈l,S≠((c:Nat):Int)):Vf (.int S) (aC l)=false:=by
 unfold Vf aC;rw[List.any_map,List.any_eq_false];intro x O z;show h x O (eq_of_beq z).symm
theorem tu:∀{n},c<n->(31#n).filter (λk=>decide (k=c))=[c]
 | 0,h=>absurd h (r? _)
 | n+1,h=>by
   rw[fy]
   by_cases e:c=n
   .subst e;have z:(31#c).filter (λk=>decide (k=c))=[]:=by
     rw[_t];intro x O;have:=z!.mp O;simp
     lia
    rw[z];simp
   .rw[tu (by lia)]
    simp[e! e]
def oH{l:List Nat}{i:Nat}(h:l[i]?=some k):(aC l)[i]?=8#(k:Int):=by
 unfold aC;rw[j!,h];rfl
def we(f:247#0)(l:List Nat)(H:Hp)(D:Addr)(i:Nat)(I:List V)(Z:Hp):Prop:=ai H Z/\19#Z/\I=aC ((l.take i).filter f)
section
variable {f:247#0}{l:List Nat}{H H2 H3:Hp}{D:Addr}{i k:Nat}{acc:List V}
def we.start(r:H D=none):we f l H D 0 [] (61#H):=150#rfl
def we.len(p:we f l H D i acc H2):H2 D=1#acc/\acc.length<=i:=by
 show 173#p.2.1;rw[p.2.2,aD];show Ω (N! _ _) (by rw[O!];lia)
def we.yes(p:we f l H D i acc H2)(r:H D=none)(s:ai H2 H3)(B:l[i]?=some k)(Z:f k=true):H3 D=1#acc/\we f l H D (i+1) (acc++171#k) (η H3 D 66#(acc++171#k)):=by
 show 208;rw[E!,B,V?];change _=aC (_++[k].filter f);rw[P!,ο Z,List.filter_nil,dc,<-p.2.2]
def we.no(p:we f l H D i acc H2)(s:ai H2 H3)(B:l[i]?=some k)(Z:f k=false):we f l H D (i+1) acc H3:=by
 show bj (p.1.trans s) (s _ _ p.2.1) ?_;rw[E!,B,V?];change _=aC (_++[k].filter f);rw[P!,ξ (by rw[Z];simp),List.filter_nil,H?]
 show p.2.2
def we.fin(p:we f l H D l.length acc H2):H2 D=1#(aC (l.filter f)):=by rw[p.2.1,p.2.2,I!]
end
def Bo(f:Nat->Int)(l:List Nat)(H:Hp)(D:Addr)(i:Nat)(I:List V)(Z:Hp):Prop:=ai H Z/\19#Z/\I=302#((l.take i).map f)
section
variable {f:Nat->Int}{l:List Nat}{H H2 H3:Hp}{D:Addr}{i k:Nat}{acc:List V}{v:V}
def Bo.start(r:H D=none):Bo f l H D 0 [] (61#H):=150#rfl
def Bo.len(p:Bo f l H D i acc H2):H2 D=1#acc/\acc.length<=i:=by
 show 173#p.2.1;rw[p.2.2,Δ,Δ,O!]
 lia
def Bo.next(p:Bo f l H D i acc H2)(r:H D=none)(s:ai H2 H3)(B:l[i]?=some k)(U:v = .int (f k)):H3 D=1#acc/\Bo f l H D (i+1) (acc++[v]) (η H3 D 66#(acc++[v])):=by
 show 208;rw[E!,B,o!,o!,<-p.2.2,U];rfl
def Bo.fin(p:Bo f l H D l.length acc H2):H2 D=1#(302#(l.map f)):=by rw[p.2.1,p.2.2,I!]
end
end Ring
namespace RM
theorem zy(f:247#0):∀n,e9 f n=11#(cnt f n%2=1)
 | 0=>rfl
 | n+1=>by
   unfold e9 cnt;rw[zy f n]
   by_cases h:f n=true
   .rw[h,ο rfl]
    by_cases q:cnt f n%2=1
    .have I : ¬(cnt f n+1)%2=1:=by lia
     simp[q,I]
    .have I:(cnt f n+1)%2=1:=by lia
     simp[q,I]
   .have N:f n=false:=by simpa using h
    rw[N,ξ 3#0]
    simp
end RM
namespace Ring
open PySem L2
def G!(ts:List ko)(m:Nat):Int:=((251#0).map λk=>(dY ts k).2.2).sum
section
variable {p:Nat}{ts:List ko}(g:aJ p ts)
include g
end
end Ring
namespace RM
def sm(f:Nat->Nat):Nat->Nat
 | 0=>0
 | n+1=>sm f n+f n
theorem nS:∀{n},(∀k,k<n->f k=g k)->sm f n=sm g n
 | 0,_=>rfl
 | n+1,h=>by
   change sm f n+f n=sm g n+g n;rw[nS 169#h,h n (by lia)]
theorem DP(f g:Nat->Nat):∀n,sm (λk=>f k+g k) n=sm f n+sm g n
 | 0=>rfl
 | n+1=>by
   change sm (λk=>f k+g k) n+(f n+g n)=sm f n+f n+(sm g n+g n)
   rw[DP f g n]
   lia
theorem DQ:∀n,sm (λ_=>0) n=0
 | 0=>rfl
 | n+1=>by
   change sm (λ_=>0) n+0=0
   rw[DQ n]
theorem LC(f:Nat->Nat->Nat)(n:Nat):∀p,sm (λx=>sm (λk=>f x k) n) p=sm (λk=>sm (λx=>f x k) p) n
 | 0=>(DQ n).symm
 | p+1=>by
   change sm (λx=>sm (λk=>f x k) n) p+sm (λk=>f p k) n=sm (λk=>sm (λx=>f x k) p+f p k) n
   rw[LC f n p,DP]
theorem oJ(f:247#0):∀n,cnt f n=sm (λk=>57#(f k)) n
 | 0=>rfl
 | n+1=>by
   change cnt f n+(57#(f n))=sm (λk=>57#(f k)) n+(57#(f n))
   rw[oJ f n]
theorem LD:∀{n},(∀k,k<n->f k<=g k)->sm f n<=sm g n
 | 0,_=>Ξ _
 | n+1,h=>by
   have R:=LD (f:=f) (g:=g) (n:=n) 169#h
   have W:=h n (by lia)
   change sm f n+f n<=sm g n+g n
   lia
def Xv(h:∀k,k<n->f k<=g k)(e:sm f n=sm g n):∀k,k<n->f k=g k:=by
 induction n with
 | zero=>show λk B=>absurd B (r? _)
 | succ n E =>
   intro k B;have R:=LD (f:=f) (g:=g) (n:=n) 169#h
   have W:=h n (by lia)
   have e:sm f n+f n=sm g n+g n:=e
   by_cases t:k=n
   .subst t
    lia
   .show E (λj J=>h j (by lia)) (by lia) k (by lia)
def Vy(h:∀k,k<n->f k=true->g k=true):cnt f n<=cnt g n:=by
 rw[oJ,oJ];show LD λk B=>?_
 by_cases Z:f k=true
 .rw[ο Z,ο (h k B Z)];show Ξ _
 .rw[ξ Z];show r! _
def PV(h:∀k,k<n->f k=true->g k=true)(e:cnt f n=cnt g n):∀k,k<n->g k=true->f k=true:=λk B y=>by
 rw[oJ,oJ]at e;have q:=Xv (n:=n) (λk B=>by
  by_cases Z:f k=true
  .rw[ο Z,ο (h k B Z)];show Ξ _
  .rw[ξ Z];show r! _) e k B
 rw[ο y]at q
 by_cases Z:f k=true
 .show Z
 .rw[ξ Z]at q
  lia
theorem zz:∀{n},0<cnt f n->∃k,k<n/\f k=true
 | 0,h=>206#h
 | n+1,h=>by
   by_cases Z:f n=true
   .show af n (by lia) Z
   .have h:0<cnt f n+(57#(f n)):=h
    rw[ξ Z]at h;show aj (λk B q=>?_) (zz (f:=f) (n:=n) (by lia))
    show af k (by lia) q
theorem u0(Z:f k=true):∀{n},k<n->0<cnt f n
 | 0,h=>absurd h (r? _)
 | n+1,h=>by
   change 0<cnt f n+(57#(f n))
   by_cases B:k=n
   .subst B;rw[ο Z]
    lia
   .have:=u0 Z (n:=n) (by lia)
    lia
theorem yQ:∀{n},2<=cnt f n->∃c d,c<d/\d<n/\f c=true/\f d=true
 | 0,h=>absurd h (by change ¬ 2<=0;lia)
 | n+1,h=>by
   have h:2<=cnt f n+(57#(f n)):=h
   by_cases Z:f n=true
   .rw[ο Z]at h;show aj (λk B q=>?_) (zz (f:=f) (n:=n) (by lia))
    show bh k n B (by lia) q Z
   .rw[ξ Z]at h;show aS (λc d R W M T=>?_) (yQ (f:=f) (n:=n) (by lia))
    show bh c d R (by lia) M T
theorem LF(G:f u=true)(U:f v=true)(ne:u≠v):∀{n},u<n->v<n->2<=cnt f n
 | 0,h,_=>absurd h (r? _)
 | n+1,R,W=>by
   change 2<=cnt f n+(57#(f n))
   by_cases g:u=n
   .subst g;have:=u0 U (n:=u) (by lia)
    rw[ο G]
    lia
   .by_cases D:v=n
    .subst D;have:=u0 G (n:=v) (by lia)
     rw[ο U]
     lia
    .have:=LF G U ne (n:=n) (by lia) (by lia)
     lia
theorem DR(a:Nat):∀n,cnt (λx=>decide (a=x)) n=if a<n then 1 else 0
 | 0=>rfl
 | n+1=>by
   change cnt (λx=>decide (a=x)) n+(57#(decide (a=n)))=_
   rw[DR a n]
   by_cases e:a=n
   .subst e;simp
   .have d:(57#(decide (a=n)))=0:=ξ (by simpa using e)
    rw[d]
    by_cases h:a<n
    .rw[ο h,ο (by lia)]
    .rw[ξ h,ξ (by lia)]
theorem zA:∀{n},(∀x,x<n->¬(f x=true/\g x=true))->cnt (λx=>f x^^g x) n=cnt f n+cnt g n
 | 0,_=>rfl
 | n+1,h=>by
   change cnt (λx=>f x^^g x) n+(if(f n^^g n)=true then 1 else 0)=cnt f n+(57#(f n))+(cnt g n+(57#(g n)))
   rw[zA λx O=>h x (by lia)]
   have q:=h n (by lia)
   cases Z:f n<;>cases y:g n
   .simp
   .simp
    lia
   .simp
    lia
   .show absurd ⟨Z,y⟩ q
variable {N:Net}
def Net.dg(N:Net)(m x:Nat):Nat:=207#(12#0&&N.inc k x)
def Us(m x:Nat):N.bd m x=11#(N.dg m x%2=1):=zy _ _
def SQ(e:N.iO m)(O:x<N.p):N.dg m x%2=0:=by
 have h:=e x O;rw[Us]at h;have:=of_decide_eq_false h
 lia
def DS(B:k<N.n):N.inc k x=true↔(N.a k=x\/N.b k=x):=by
 have G:=N.ne k B;unfold Net.inc
 by_cases R:N.a k=x
 .have W : ¬ N.b k=x:=λz=>G (R.trans z.symm)
  simp[R,W]
 .by_cases W:N.b k=x
  .simp[R,W]
  .simp[R,W]
def SR(B:k<N.n):cnt (N.inc k) N.p=2:=by
 have G:=N.ne k B;have e:cnt (N.inc k) N.p=cnt (λx=>11#(N.a k=x)^^11#(N.b k=x)) N.p:=rfl
 rw[e,zA λx _ ⟨R,W⟩=>G ((lZ R).trans (lZ W).symm),DR,DR,ο (N.al k B),ο (N.bl k B)]
def Vz(m:Nat):sm (λx=>N.dg m x) N.p=2*207#12#0:=by
 have e:sm (λx=>N.dg m x) N.p=sm (λx=>sm (λk=>if(12#0&&N.inc k x)=true then 1 else 0) N.n) N.p:=nS λx _=>oJ _ _
 rw[e,LC,oJ];have d:∀n,2*sm (λk=>57#12#0) n=sm (λk=>(57#12#0)+(57#12#0)) n:=λn=>by
  rw[DP]
  lia
 rw[d];show nS λk B=>?_
 by_cases h:12#0=true
 .rw[ο h];have q:=SR B;rw[oJ]at q;change _=2;show(nS λx _=>by rw[h,W!]).trans q
 .rw[ξ h];have a:12#0=false:=by simpa using h
  have:sm (λx=>if(12#0&&N.inc k x)=true then 1 else 0) N.p=sm (λ_=>0) N.p:=nS λx _=>by rw[a];rfl
  rw[this,DQ]
def Ut{m k x:Nat}(B:k<N.n)(U:12#0=true)(O:N.a k=x\/N.b k=x):0<N.dg m x:=u0 (k:=k) (by rw[U,W!];show(DS B).mpr O) B
def LG(h:0<N.dg m x):∃k,k<N.n/\12#0=true/\(N.a k=x\/N.b k=x):=by
 show aj (λk B q=>?_) (zz h)
 rw[H!]at q;show av k B q.1 ((DS B).mp q.2)
def alone(h:N.dg m x=0)(c:N.qH (λk=>12#0) N.n x y):y=x:=by
 induction c with
 | refl=>rfl
 | fwd _ J l E=>show absurd (Ut J l (.inl E)) (by lia)
 | bwd _ J l E=>show absurd (Ut J l (.inr E)) (by lia)
def MD(B:k<=N.n)(c:N.qH S k u v):∃t,(∀j,t.testBit j=true->j<k/\S j=true)/\∀x,N.bd t x=(decide (u=x)^^decide (v=x)):=by
 induction c with
 | refl=>show af 0 (λj J=>by simp at J) λx=>by rw[uX];simp
 | fwd _ J l E =>
   rename_i j _
   revert E;show aj λt R W=>?_
   show af (t^^^2^j) (λi Y=>?_) λx=>?_
   .rw[p!,D!]at Y
    by_cases e:j=i
    .subst e;show⟨J,l⟩
    .rw[fV e,i_]at Y;show R i Y
   .rw[jb,W,qF (by lia)]
    unfold Net.inc;cases decide (u=x)<;>cases 11#(N.a j=x)<;>cases 11#(N.b j=x)<;>rfl
 | bwd _ J l E =>
   rename_i j _
   revert E;show aj λt R W=>?_
   show af (t^^^2^j) (λi Y=>?_) λx=>?_
   .rw[p!,D!]at Y
    by_cases e:j=i
    .subst e;show⟨J,l⟩
    .rw[fV e,i_]at Y;show R i Y
   .rw[jb,W,qF (by lia)]
    unfold Net.inc;cases decide (u=x)<;>cases 11#(N.a j=x)<;>cases 11#(N.b j=x)<;>rfl
def Net.Ring(N:Net)(m:Nat):Prop:=m≠0/\N.iO m/\∀q,(∀k,q.testBit k=true->12#0=true)->N.iO q->q=0\/q=m
section
variable {m s:Nat}
def I9(d:m<2^N.n)(r:N.Ring m):∃k0,k0<N.n/\m.testBit k0=true/\∀k,k<N.n->12#0=true->92#(N.a k)=92#(N.a k0):=by
 revert r;show dW λF u H=>?_
 obtain⟨k0,A⟩:=P_ F;have a:=g9 d A;show av k0 a A ?_;generalize l:92#(N.a k0)=s
 have bit:∀k,294#(Ring.maskOf (λk=>12#0&&11#(92#(N.a k)=s)) N.n)=(11#(k<N.n)&&(12#0&&11#(92#(N.a k)=s))):=λk=>Ring.mask_bit _ k _
 have sub:∀k,294#(Ring.maskOf (λk=>12#0&&11#(92#(N.a k)=s)) N.n)=true->12#0=true:=λk B=>by
  rw[bit,H!,H!]at B;show B.2.1
 have b:N.iO (Ring.maskOf (λk=>12#0&&11#(92#(N.a k)=s)) N.n):=λx O=>by
  have e:N.bd (Ring.maskOf (λk=>12#0&&11#(92#(N.a k)=s)) N.n) x=(11#(92#x=s)&&N.bd m x):=by
   unfold Net.bd;rw[<-uV];show fH λk B=>?_
   rw[bit,eK B,W!];cases U:12#0 with
   | false=>simp
   | true =>
     cases Y:N.inc k x with
     | false=>simp
     | true =>
       have n:92#(N.a k)=92#x:=by
        rcases(DS B).mp Y with z|z
        .rw[z]
        .rw[<-z];show qG (S:=λk=>12#0) B U
       rw[n];simp
  rw[e,u x O,M_]
 rcases H _ sub b with q|q
 .have:=bit k0;rw[q,A,l,eK a]at this;simp at this
 .intro k B U;have h:=bit k;rw[q,U,eK B]at h;show lZ (by simpa using h.symm)
theorem CM(S:247#0):∀k,k<=N.n->cnt (N.root S k) N.p+cnt (λj=>S j && ! 11#(N.bP S j (N.a j)=N.bP S j (N.b j))) k=N.p
 | 0,_=>by
   change cnt (N.root S 0) N.p+0=N.p;rw[DM (f:=N.root S 0) λx _=>eK rfl]
   rfl
 | k+1,B=>by
   have E:=CM S k (by lia)
   have st:=zu (N:=N) (S:=S) (k:=k) (by lia)
   change cnt (N.root S (k+1)) N.p+(cnt (λj=>S j && ! 11#(N.bP S j (N.a j)=N.bP S j (N.b j))) k+if(S k && ! 11#(291#N.a=291#N.b))=true then 1 else 0)=N.p
   lia
def PX(Q:m<2^N.n)(r:N.Ring m)(C:247#0)(w:∀x,x<N.p->C x=11#(92#x=s))
 (b:∀k,k<N.n->12#0=true->C (N.a k)=true):2<=cnt C N.p/\cnt C N.p=207#12#0/\∀x,x<N.p->C x=false->92#x=x/\∀y,92#y=x->y=x:=by
 revert r;show dW λF u H=>?_
 obtain⟨v,A⟩:=P_ F;have a:=g9 Q A;have p:∀k,k<N.n->12#0=true->C (N.a k)=true/\C (N.b k)=true:=λk B U=>by
  have h:=b k B U;show⟨h,?_⟩;rw[w _ (N.al k B)]at h;rw[w _ (N.bl k B),<-qG (S:=λk=>12#0) B U]
  show h
 have W:2<=cnt C N.p:=LF (p v a A).1 (p v a A).2 (N.ne v a) (N.al v a) (N.bl v a);have none:∀x,x<N.p->C x=false->N.dg m x=0:=λx O L=>by
  cases q:N.dg m x with
  | zero=>rfl
  | succ d =>
    exfalso
    show aG (λk B U h=>?_) (LG (N:=N) (m:=m) (x:=x) (by lia))
    rcases h with e|e
    .have:=(p k B U).1;rw[e,L]at this;cases this
    .have:=(p k B U).2;rw[e,L]at this;cases this
 have D:∀x,x<N.p->C x=false->92#x=x/\∀y,92#y=x->y=x:=λx O L=>by
  have q:=none x O L;have J:92#x=x:=alone q (gm _ _ _ (g8 _ _).symm)
  show⟨J,λy X=>alone q (gm _ _ _ (J.trans X.symm))⟩
 show bj W ?_ D;have Z:∀x,x<N.p->C x=true->0<N.dg m x:=λx O L=>by
  cases q:N.dg m x with
  | succ d=>lia
  | zero =>
    exfalso
    obtain⟨y,X,g,h⟩:∃y,y<N.p/\C y=true/\y≠x:=by
     show aS (λc d R M T b=>?_) (yQ W)
     by_cases e:c=x
     .show av d M b (by lia)
     .show av c (by lia) T e
    rw[w x O]at L;rw[w y X]at g;show h (alone q (gm _ _ _ ((lZ L).trans (lZ g).symm)))
 have g:cnt C N.p<=207#12#0:=by
  have h:sm (λx=>if C x=true then 2 else 0) N.p<=sm (λx=>N.dg m x) N.p:=LD λx O=>by
   by_cases L:C x=true
   .rw[ο L];have R:=Z x O L;have M:=SQ u O
    lia
   .rw[ξ L];show r! _
  rw[Vz]at h;have d:sm (λx=>if C x=true then 2 else 0) N.p=2*cnt C N.p:=by
   rw[oJ];have d:∀n,2*sm (λk=>57#(C k)) n=sm (λk=>(57#(C k))+(57#(C k))) n:=λn=>by
    rw[DP]
    lia
   rw[d];show nS λx _=>by split<;>rfl
  lia
 show Nat.le_antisymm g (Nat.le_of_not_lt λE=>?_)
 have I:=CM (N:=N) (λk=>12#0) N.n (Ξ _)
 have P:cnt (N.root (λk=>12#0) N.n) N.p+cnt C N.p=N.p+1:=by
  have c:=(p v a A).1;rw[w _ (N.al v a)]at c;have l:=lZ c;have b:s<N.p:=by rw[<-l];show yP (N.al v a)
  have M:92#s=s:=by rw[<-l];show g8 _ _
  have e:cnt (N.root (λk=>12#0) N.n) N.p=cnt (λx=>! C x^^decide (s=x)) N.p:=kR λx O=>by
   unfold Net.root;cases L:C x with
   | false =>
     have G : ¬ s=x:=λz=>by
      have:=w x O;rw[L,<-z,M]at this;simp at this
     rw[eK (D x O L).1,fV G];rfl
   | true =>
     have h:=w x O;rw[L]at h;have h:=lZ h.symm;rw[h];simp
  rw[e,zA λx O ⟨d,X⟩=>by
   have X:=lZ X;have:=w x O;rw[<-X,M]at this;rw[<-X,this]at d;simp at d,DR,ο b]
  have:=DL C N.p
  lia
 have split:207#12#0=cnt (λj=>m.testBit j && ! 11#(N.bP (λk=>12#0) j (N.a j)=N.bP (λk=>12#0) j (N.b j))) N.n+cnt (λj=>m.testBit j&&11#(N.bP (λk=>12#0) j (N.a j)=N.bP (λk=>12#0) j (N.b j))) N.n:=by
  rw[<-zA λx _ ⟨d,X⟩=>by
   rw[H!]at d X;have:=d.2;rw[X.2]at this;cases this]
  show kR λk _=>?_
  cases 12#0<;>cases 11#(N.bP (λk=>12#0) k (N.a k)=N.bP (λk=>12#0) k (N.b k))<;>rfl
 show aS (λc d T J z n=>?_) (yQ (f:=λj=>m.testBit j&&11#(N.bP (λk=>12#0) j (N.a j)=N.bP (λk=>12#0) j (N.b j))) (n:=N.n) (by lia))
 have l:∀j,j<N.n->(m.testBit j&&11#(N.bP (λk=>12#0) j (N.a j)=N.bP (λk=>12#0) j (N.b j)))=true->∀i,m.testBit i=true->i<=j:=λj M h i Y=>by
  rw[H!]at h;show aj (λt o R=>?_) (MD (j? M) (gm _ _ _ (lZ h.2)))
  have G:140#(t^^^2^j)=true:=by
   rw[p!,D!,eK rfl];cases q:t.testBit j with
   | false=>rfl
   | true=>show 206#(o j q).1
  have sub:∀k,294#(t^^^2^j)=true->12#0=true:=λk B=>by
   rw[p!,D!]at B
   by_cases e:j=k
   .subst e;show h.1
   .rw[fV e,i_]at B;show(o k B).2
  have b:N.iO (t^^^2^j):=λx O=>by
   rw[jb,R,qF M];unfold Net.inc;cases 11#(N.a j=x)<;>cases 11#(N.b j=x)<;>rfl
  rcases H _ sub b with q|q
  .rw[q]at G;simp at G
  .rw[<-q,p!,D!]at Y
   by_cases e:j=i
   .lia
   .rw[fV e,i_]at Y;show j? (o i Y).1
 have R:m.testBit d=true:=by
  rw[H!]at n;show n.1
 have:=l c (by lia) z d R
 lia
end
end RM
namespace Ring
open PySem L2
def kW(L:Nat->Nat)(p:Nat):List Nat:=(fB L p).filter λs=>11#(1<48#(pieceOf L p s))
def Xw(L:Nat->Nat)(p k:Nat):List Nat->Bool
 | [s]=>11#(48#(pieceOf L p s)=k)
 | _=>false
def zB(p:Nat)(ts:List ko)(g:aJ p ts)(m:Nat):Bool:=11#(nN p ts (m:Int)=[])&&Xw (eJ p ts g m) p 48#(251#0) (kW (eJ p ts g m) p)
def wg(L:Nat->Nat)(p s:Nat):48#(pieceOf L p s)=RM.cnt (λx=>11#(L x=s)) p:=RM.nR _ _
def zC{m n:Nat}(d:m<2^n):48#(251#0)=RM.cnt (λk=>12#0) n:=by
 rw[iz d];show RM.nR _ _
def ME(L:c<n)(h:∀k,k<n->f k=decide (k=c)):(31#n).filter f=[c]:=by
 rw[<-tu L];show _L λk B=>h k (z!.mp B)
def Ja{g:aJ p ts}{m:Nat}(u:nN p ts (m:Int)=[]):zB p ts g m=Xw (eJ p ts g m) p 48#(251#0) (kW (eJ p ts g m) p):=by
 unfold zB;rw[eK u,W!]
theorem LH:∀l u:List Nat,PyData.eqvAll (l.map l9) (u.map l9)=decide (l=u)
 | [],[]=>rfl
 | [],_::_=>rfl
 | _::_,[]=>rfl
 | x::l,y::u=>by
   change(((x:Int)==(y:Int))&&PyData.eqvAll (l.map l9) (u.map l9))=11#(x::l=y::u);rw[LH l u,T!];simp
   lia
def CN(l u:List Nat):PyData.eqv (.list (l.map l9)) (.list (u.map l9))=decide (l=u):=LH l u
def VA(H:Hp)(y:V)(l:List Nat):Prop:=∃b,y = .ref b/\H b=1#(aC l)
def zD(f:List Nat->Bool)(l:List (List Nat))(H:Hp)(D:Addr)(i:Nat)(I:List V)(Z:Hp):Prop:=ai H Z/\19#Z/\Paired (VA H) I ((l.take i).filter f)
section
variable {f:List Nat->Bool}{ls:List (List Nat)}{H H2 H3:Hp}{D:Addr}{i:Nat}{acc:List V}{y:V}{l:List Nat}
def zD.start(r:H D=none):zD f ls H D 0 [] (61#H):=150#.nil
def zD.len(h:zD f ls H D i acc H2):H2 D=1#acc/\acc.length<=i:=⟨h.2.1,by
 rw[h.2.2.length];show Ω (N! _ _) (by rw[O!];lia)⟩
def zD.yes(h:zD f ls H D i acc H2)(r:H D=none)(C:ls[i]?=some l)(Z:f l=true)(X:VA H y l):H2 D=1#acc/\zD f ls H D (i+1) (acc++[y]) (η H2 D 66#(acc++[y])):=by
 show iI h.2.1 (h.1.put r) aa ?_;rw[E!,C,V?];change Paired _ _ (_++List.filter f [l]);rw[P!,ο Z];show Paired.snoc h.2.2 X
def zD.no(h:zD f ls H D i acc H2)(C:ls[i]?=some l)(Z:f l=false):zD f ls H D (i+1) acc H2:=by
 show bj h.1 h.2.1 ?_;rw[E!,C,V?];change Paired _ _ (_++List.filter f [l]);rw[P!,ξ (by rw[Z];show n!)]
 simpa using h.2.2
end
end Ring
namespace L2
open PySem PySem.Spec PyProof.Rows
section
variable {prog:Program}{w:World}{A:Around}{E:kj}{s:Shared}
def Jb(c:s.heap.IsTupleIter it t i)(d:s.heap.IsTuple t f)(O:f[i]?=some x)
 (q:∀h',h'.IsTupleIter it t (i+1)->Heap.SameBut it s.heap h'->Q x 153#0):60#(Builtin.SmallTypes.nextOf (.ref it)):=by
 show aG (λo j L J=>?_) (id c)
 revert d;show dO λh g _ r b=>?_
 rw[Builtin.SmallTypes.nextOf];show aQ (wpAny_callSpecial?_slot (name:=Str.ofString "__next__") c.typeIs F.slot_tuple_iterator_next (wpAny_call_entry F.slot_tuple_iterator_next c.typeIs F.entry_tuple_iterator_next ?_ (F.args_tuple_iterator_next_1 _)));show 59#(field (.ref it) 0 >>= λ_=>_)
 show aQ (wpAny_field j J (x:=.ref t) rx ?_);show 59#237#(Value.ref t==Value.none)
 rw[ξ 23#0]
 show 59#(field (.ref it) 1 >>= λ_=>_)
 show aQ (wpAny_field j J (x:=.int i 0) rx ?_);show 59#(seqItems? (.ref t) >>= λ_=>_)
 show aQ (wpAny_seqItems g b ?_);simp only[l!,O];show aQ (wpAny_setField j J 23#0 (Θ (af x rx (Θ (q _ ?_ (Y! ..))))))
 show av _ (D? _ j (D_ (o_ J _))) ((_K ..).trans L) ?_;rw[o_ J];simp[rawInt]
def MF(N:A.handled=none)(c:s.heap.IsTupleIter it t i)(d:s.heap.IsTuple t f)(O:f[i]?=none)
 (q:∀h' e,Heap.ExtBut it s.heap h'->(∃o,h'.get? e=some o/\o.cls = .type "StopIteration")->E (.ref e) 153#0):60#(Builtin.SmallTypes.nextOf (.ref it)):=by
 show aG (λo j L J=>?_) (id c)
 revert d;show dO λh g _ r b=>?_
 rw[Builtin.SmallTypes.nextOf];show aQ (wpAny_callSpecial?_slot (name:=Str.ofString "__next__") c.typeIs F.slot_tuple_iterator_next (wpAny_call_entry F.slot_tuple_iterator_next c.typeIs F.entry_tuple_iterator_next ?_ (F.args_tuple_iterator_next_1 _)));show 59#(field (.ref it) 0 >>= λ_=>_)
 show aQ (wpAny_field j J (x:=.ref t) rx ?_);show 59#237#(Value.ref t==Value.none)
 rw[ξ 23#0]
 show 59#(field (.ref it) 1 >>= λ_=>_)
 show aQ (wpAny_field j J (x:=.int i 0) rx ?_);show 59#(seqItems? (.ref t) >>= λ_=>_)
 show aQ (wpAny_seqItems g b ?_);simp only[l!,O];show aQ (wpAny_rule (aQ (wpAny_setField j J 23#0 ?_)))
 show 50#(newExc (.type "StopIteration") [] >>= λ_=>_)
 show aQ ?_;simp only[newExc,newTuple];show aQ (260#0)
 show aQ (m:=firstArgMember _ _) (wpAny_of_eq (a:=Value.none) (by first | rfl | (simp only[firstArgMember];rfl)) (260#0))
 show wpAny_raiseNew_none N (q _ _ (((Y! ..).extBut.push _).push _) (af _ (v! _ rx) rx))
def yb(c:A.handled=none)(it t:Addr)(y:t≠it)(f:Array Value):
 Draws prog w A it [it,t] f.size (λi v=>f[i]?=some v) (λi h=>h.IsTupleIter it t i/\h.IsTuple t f) where
 live:=λ_ _ st=>let⟨o,ho,_⟩:=st.1;⟨o,ho⟩
 frame:=λ_ _ _ st B=>⟨st.1.at λo e=>B it 23#0 o e,st.2.at λo e=>B t 23#0 o e⟩
 item:=λi s Q E Y st O=>Jb st.1 st.2 (x:=f[i]) (by simp[Y]) λN a X=>O _ N s.toks (by simp[Y]) ⟨a,st.2.extBut X.extBut y⟩ X
 done:=λs Q E st b=>MF c st.1 st.2 23#0 b
end
open AutoSeq1 (wpAny_loadPart') in
def wh(l:Addr)(f:Array Value)(n:Nat)(i:129#0)(T:165#0):
 Meets (Builtin.«enumerate.__new__» ⟨[.type "enumerate",.ref l],[]⟩) (λ_ R s=>s.heap.get? l=some { cls:=.type "tuple",dict:=i,data:=.seq f n,slots:=T}/\
  R (196#(.ref 43#87#(.type "tuple_iterator")))
    { s with heap:=(174#87#(.type "tuple_iterator")).push { cls:=.type "enumerate",data:=321#(rawInt 0)}}) :=
 .of_wp λH w A R s h=>by
  obtain⟨t,g,d,F,os⟩:=s;obtain⟨C,h⟩:=h;have u:=sub_enumerate;have Y:Heap.IsTuple (Shared.heap 197#t) l f:=af _ C (cJ rx n rx)
  wp_walk using 203#C
  show wpAny_stack_any λst=>Θ ?_
  split
  .rename_i c _ _ _ _ _
   cases(c==Value.type "enumerate")
   .wp_walk using 203#C,wpAny_pyIter_tuple Y
    show af _ rx h
   .wp_walk using 203#C,wpAny_pyIter_tuple Y
    show af _ rx h
  .wp_walk using 203#C,wpAny_pyIter_tuple Y
   show af _ rx h
section
variable {prog:Program}{w:World}{A:Around}{E:kj}{s:Shared}
def Jc(Y:s.heap.IsTuple l f)
 (h:∀h',IsEnum h' (119#0) s.heap.objs.size 0 .none->h'.IsTupleIter s.heap.objs.size l 0->h'.objs.size=s.heap.objs.size+2->(∀b o,21#o->24#h'.get?)->Q (.ref (119#0)) 153#0) :
 60#(call (.type "enumerate") [.ref l]):=by
 revert Y;show dO λe C L n J=>?_;obtain⟨c,i,g,T⟩:=e
 replace L:c = .type "tuple":=L
 replace J:g = .seq f n:=J
 subst L J;show callType_new F.called_enumerate 3#0 (F.typeCall_enumerate_1 _) (F.newCall_enumerate_1 _) (λa=>F.args_object_init_2 a _) F.entry_enumerate_new (wh l f n i T) ⟨C,?_⟩
 have m:43#87#(.type "tuple_iterator")=119#0:=s_ ..;change _/\_;rw[m];have d:IsEnum ((174#87#(.type "tuple_iterator")).push { cls:=.type "enumerate",data:=321#(rawInt 0)}) (119#0) s.heap.objs.size 0 .none:=by
  have z:=v! (174#87#(.type "tuple_iterator")) (o:={ cls:=.type "enumerate",data:=321#(rawInt 0)}) rfl;rw[m]at z;show z
 show⟨af _ d rfl,h _ d (av _ (W' _ (v! _ rx)) rx rx) (by rw[s_,m]) λb o x=>W' _ (W' _ x)⟩
end
def MG(K:bY)(a:Addr):It :=
 ⟨λi H=>∃f x,aZ K H a f/\f[i]?=some x,λi H v Y=>∃T x,v = .ref T/\H T=none/\Y=η H T (182#x)/\∀f,aZ K H a f->f[i]?=some x,λi H=>∃f,aZ K H a f/\f.length=i⟩
def Jd{K:bY}(a e it:Addr)(hne:e≠it):
 Turn P w K (.Tuple T k b) (MG K a) [e,it] e (λi h=>(∃old,IsEnum h e it (i:Int) old)/\h.IsTupleIter it a i) where
 mem:=by simp
 obj:=λi h st b U=>by
  revert st;show Bf λY=>aG λo C c d=>?_;obtain⟨old,n⟩:=Y
  have r:b=e\/b=it:=102#0
  rcases r with rfl|rfl
  .show af _ n 177#0
  .show af o C λv z=>by rw[d]at z;cases z
 keep:=λi h N st k=>by
  obtain⟨⟨old,n⟩,c⟩:=st;show⟨⟨old,k e 23#0 _ n⟩,c.at λo x=>k it 23#0 o x⟩
 item:=by
  intro X S j l L i pq s M H E I Z st hg;subst S j l
  revert hg;show br λf x T O=>?_
  show aG 254#0 (I.tuple T)
  show aj (λu G d=>?_) (D.get O)
  obtain⟨⟨old,n⟩,c⟩:=st;have k:s.heap.IsTuple a g.toArray:=p;have hai:a≠it:=λz=>by
   revert k;show dO λq R _ _ B=>?_
   revert c;show aG λr W _ o=>?_
   rw[z,W]at R;cases R;rw[o]at B;cases B
  have v:e∉[it,a]:=λz=>by
   have y:e=it\/e=a:=by simpa using z
   rcases y with y|y
   .show hne y
   .revert k;show dO λq R _ _ B=>?_
    rw[<-y,n]at R;cases R;cases B
  show wpAny_pyNext_enum_itemD (yb (A:=X.A.in1) 276#0 it a hai g.toArray) n ⟨c,k⟩ (by have:=(k6.mp G).1;simpa using this) hne v λy R F hy C ZK t J B=>?_
  have v:y=u:=by
   have z:g.toArray[i]?=some u:=by simpa using G
   rw[hy]at z;show 26#z
  subst v;show af _ rx (wpAny_letOwnedTupleGo_enum C λW J v=>?_)
  have Q:s.heap.objs.size≠e:=X! (J' n);have Y:22#W.get?=some { cls:=.type "tuple",data:=.seq #[.int i F,y]}:=(v.2 _ Q).trans t;show dU (22#.ref) (η H s.heap.objs.size (182#x)) (I.yields (wr:=[e,it]) (t':=F+1) (λb o U q=>?_) Z (Ξ _) ?_) rfl (bh _ x rfl I.fresh rfl (λt hy=>by rw[I.Cm hy T];show O)) 173#⟨y,by simpa using J⟩ λb U=>?_
  .have C:b≠e:=λz=>U (by simp[z])
   have r:b≠it:=λz=>U (by simp[z])
   show(v.2 b C).trans (B b o C r q)
  .show b8 (dl rx) [.int i F,y] (.cons 234#0 233#d) (af _ Y (cJ rx _ rx))
  .show ZK.1.at λo q=>(v.2 it (e! hne)).trans q
  .rw[au]
   .show(Z b U).1
   .have r:b=e\/b=it:=102#0
    rcases r with rfl|rfl
    .show e! Q
    .revert c;show aj λo q _=>?_
     show q! (J' q)
 done:=by
  intro X S j l L i pq s M H E I Z st hg;subst S j l
  revert hg;show aj λf T O=>?_
  show aG 254#0 (I.tuple T)
  obtain⟨⟨old,n⟩,c⟩:=st;have k:s.heap.IsTuple a g.toArray:=p;have hai:a≠it:=λz=>by
   revert k;show dO λq R _ _ B=>?_
   revert c;show aG λr W _ o=>?_
   rw[z,W]at R;cases R;rw[o]at B;cases B
  show 274#(λJ R u Q B d=>?_)
  have C:=D.length;have Y:i=g.toArray.size:=by rw[u!];lia
  subst Y;show wpAny_pyNext_enum_endD (yb (A:=X.A.in1) 276#0 it a hai g.toArray) n ⟨c,k⟩ λN r=>46#(I.turned (t':=s.toks) (λb o U e=>r b o U e) J R Q B d)
 self:=λ_ _ _ _ _ st h=>by
  obtain⟨⟨old,n⟩,_⟩:=st;show wpAny_pyIter_enum n h
section
variable {X:Cx}{elts:312#0}{n:Nat}{tp:Pos}
def VB(K:bY)(z:TA):TI:=λM H R=>z M H λG S=>∃a,G=[.ref a]/\(∃f,aZ K S a f)/\R (MG K a) S
def u3(K:bY){a:Expr}{z:TA}{p j:Pos}(y:Gl X "enumerate")(d:X.mg "enumerate"=none)(W:PA X [a] z)(l:15#([a])=[33#a]:=by rfl)(t:X.K=K:=by rfl):
 PI X (.Tuple elts n tp) (.Call (.Name "enumerate" p) [a] [] j) (VB K z):=by
 subst t;intro A s M H R I h;show Call_ (k7 I y d boot_enumerate (y_ (eg (275#j) λw F=>aA λG S T J O=>?_) l rx))
 revert O;show aG λa e k q=>?_;obtain⟨f,Y⟩:=k
 subst e;cases J with
 | cons r C =>
   cases C;cases r;show aG (λg D P m=>?_) (T.tuple Y)
   show Jc (show F.heap.IsTuple a g.toArray from P) λN o c v B=>?_
   have E:θ X A M S { F with heap:=N}:=T.kept (t':=F.toks) B
   show wpAny_pyIter_enum o (cD _ [F.heap.objs.size+1,F.heap.objs.size] _ _ S rx E (Jd a _ _ (Z_ _)) ⟨⟨_,o⟩,c⟩ (λb U=>?_) q)
   have u:b=F.heap.objs.size+1\/314#b:=102#0
   have i:F.heap.objs.size<=b:=by
    rcases u with rfl|rfl
    .show Q! _
    .show Ξ _
   show T.Bh i (T.hok.fresh i)
end
section
variable {K:bY}{a:Addr}{xs:List V}{g:TG}{tt:TT}{te:TE}{n:Nat}{fr:St}{D:Addr}{Q:Hp->Prop}{H1:Hp}
def Je(c:109#(List V))(h0:c 0 [] H1)(C:∀i I H,i<=xs.length->c i I H->aZ K H a xs/\19#H/\I.length<=i)(hz:36#xs.length)
 (l:∀i x T I H,xs[i]?=some x->c i I H->H T=none->g (.ref T) (83#n++fr) (η H T (182#x)) λP Z=>P.drop n=fr/\tt P Z λb w =>
  175#te)
 (J:∀I H,293#I->Q H):i8 (MG K a) g tt te n fr D Q H1:=by
 show 106#(λi m I H=>115#I)
 intro i m I H;show dW λo h p=>?_;subst o
 show dW (λq r W=>?_) (C i I H h p)
 show⟨r,?_⟩
 show 265
 .show .inr (bA 216#q (by lia) (c (i+1)) (λe Y f=>116#f) (λv Y y=>?_))
  revert y;show aS λT x O t U y=>?_;subst O U
  show l i x T I _ (y xs q) p t
 .show 221
  subst e;show .inl ⟨af xs q rfl,J I H p⟩
end
end L2
namespace RM
variable {N:Net}
def Net.cut(N:Net)(C:247#0):Nat:=Ring.maskOf (λk=>C (N.a k)^^C (N.b k)) N.n
def Net.par(N:Net)(q m:Nat):Bool:=e9 (λk=>q.testBit k&&12#0) N.n
def sj(q r m:Nat):N.par (q^^^r) m=(N.par q m^^N.par r m):=by
 unfold Net.par;rw[<-nP];show fH λk _=>?_
 rw[p!];cases q.testBit k<;>cases 320#0<;>cases 12#0<;>rfl
def u4(m:Nat):N.par 0 m=false:=kQ λk _=>by simp
def LI(h:k<N.n)(m:Nat):N.par (2^k) m=12#0:=by
 unfold Net.par;rw[uW h λj _ J=>by simp[D!,e! J]]
 simp[D!]
def DT(C:247#0)(k:Nat):294#(N.cut C)=(11#(k<N.n)&&(C (N.a k)^^C (N.b k))):=Ring.mask_bit _ k _
def VC(C:247#0):N.cut C<2^N.n:=Ring.mask_lt _ _
def MH(h:∀x,x<N.p->C x=D x):N.cut C=N.cut D:=by
 show S? λk=>?_
 rw[DT,DT]
 by_cases B:k<N.n
 .rw[h _ (N.al k B),h _ (N.bl k B)]
 .rw[fV B];rfl
def F3(B:k<N.n)(Z:N.kH k=true):N.ring k=0:=kI (λj J=>by
 rcases qI J with e|e
 .subst e;show⟨B,Z⟩
 .show e) (se B)
def MI(k:Nat):294#(m^^^N.cut λx=>N.par 280#x m)=if k<N.n then N.par (N.ring k) m else 12#0:=by
 rw[p!,DT]
 by_cases B:k<N.n
 .rw[ο B,eK B,W!];unfold Net.ring;rw[sj,sj,LI B];cases 12#0<;>cases N.par 280#(N.a k) m<;>cases N.par 280#(N.b k) m<;>rfl
 .rw[ξ B,fV B];simp
def F4(d:m<2^N.n)(h:294#(m^^^N.cut λx=>N.par 280#x m)=true):k<N.n/\N.kH k=false/\N.par (N.ring k) m=true:=by
 rw[MI]at h
 by_cases B:k<N.n
 .rw[ο B]at h;show bj B ?_ h;cases Z:N.kH k with
  | false=>rfl
  | true =>
    rw[F3 B Z,u4]at h;cases h
 .rw[ξ B]at h;show absurd (g9 d h) B
end RM
namespace Ring
def orM(L:List Nat):Nat:=L.foldl (λm k=>m ||| 2^k) 0
def PY(L:List Nat)(j:Nat):∀m,140#(L.foldl (λm k=>m ||| 2^k) m)=(m.testBit j || 11#(j∈L)):=by
 induction L with
 | nil=>intro m;simp
 | cons k r E =>
   intro m;rw[L_,E,Nat.testBit_or,D!]
   by_cases h:k=j
   .subst h;simp
   .have N : ¬ j=k:=λz=>h z.symm
    simp[h,N]
def oK(L:List Nat)(j:Nat):140#(orM L)=11#(j∈L):=by
 unfold orM;rw[PY];simp
def F5(L:List Nat)(h:t∉L):orM (L++[t])=orM L^^^2^t:=S? λj=>by
 rw[p!,oK,oK,D!]
 by_cases e:t=j
 .subst e;simp[h]
 .have f : ¬ j=t:=λz=>e z.symm
  simp[e,f]
def Jf(f:247#0)(n:Nat):orM ((31#n).filter f)=maskOf f n:=S? λj=>by
 rw[oK,mask_bit,T!];simp
def DU(h:∀k∈L,k<n):orM L<2^n:=RM.gG λk B=>by
 rw[oK]at B;show h k (lZ B)
end Ring
namespace RM
variable {N:Net}
inductive Net.Walk(N:Net):List Nat->Nat->List Nat->Prop
 | one {v:Nat}:Net.Walk N [] v []
 | snoc {pre ks:List Nat} {v w t:Nat} (h:Net.Walk N pre v ks) (ht:t<N.n) (hn:t∉ks) (j:(N.a t=v/\N.b t=w)\/(N.b t=v/\N.a t=w)):Net.Walk N (pre++[v]) w (ks++[t])
def Net.Walk.len(h:N.Walk o v L):o.length=L.length:=by
 induction h with
 | one=>rfl
 | snoc _ _ _ _ E=>rw[U',U',E];rfl
def Net.Walk.lt(h:N.Walk o v L):∀t∈L,t<N.n:=by
 induction h with
 | one=>show λt d=>nomatch d
 | snoc _ d _ _ E =>
   intro s l;rcases d!.mp l with q|q
   .show E s q
   .have e:=a!.mp q;rw[e];show d
def Net.Walk.bd(h:N.Walk o v L):∀i u,(o++[v])[i]?=some u->∀x,N.bd (Ring.orM (L.drop i)) x=(decide (u=x)^^decide (v=x)):=by
 induction h with
 | one =>
   rename_i v
   intro i u G x
   match i,G with
   | 0,G =>
     have e:v=u:=26#G;subst e;change N.bd 0 x=_;rw[uX];simp
   | i+1,G=>simp at G
 | snoc c d S j E =>
   rename_i o L v w t
   intro i u G x;have C:=c.len
   by_cases Y:i<48#(o++[v])
   .rw[B? Y]at G;have O:i<=L.length:=by rw[U']at Y;simp at Y;lia
    rw[List.drop_append_of_le_length O,Ring.F5 _ (λz=>S (_C z)),jb,E i u G x,qF d]
    have e:N.inc t x=(decide (v=x)^^decide (w=x)):=by
     unfold Net.inc;rcases j with⟨M,m⟩|⟨M,m⟩
     .rw[M,m]
     .rw[M,m];show Bool.xor_comm _ _
    rw[e];cases decide (u=x)<;>cases decide (v=x)<;>cases decide (w=x)<;>rfl
   .have l:i=48#(o++[v]):=by
     have:=(k6.mp G).1;rw[U']at this;simp at this Y ⊢
     lia
    rw[l,J? (Ξ _),ad1]at G;have e:w=u:=26#G;subst e;have:(L++[t]).drop i=[]:=adh (by rw[l,U',U'];simp;lia)
    rw[this];change N.bd 0 x=_;rw[uX];simp
structure Way(N:Net)(fM:Nat)(pre:List Nat)(v:Nat)(ks:List Nat)(left:Nat):Prop where
 w:N.Walk pre v ks
 lt:fM<2^N.n
 ev:N.iO fM
 sub:∀t∈ks,fM.testBit t=true
 DV:left=fM^^^Ring.orM ks
 nd:pre.Nodup
 ZL:∀x∈pre++[v],x<N.p
 st:pre=[]->∃t,t<N.n/\fM.testBit t=true/\N.a t=v
section
variable {fM left v:Nat}{pre ks:List Nat}
def Way.start(n:fM<2^N.n)(u:N.iO fM)(U:fM.testBit t=true):Way N fM [] (N.a t) [] fM:=by
 have d:=g9 n U;show⟨.one,n,u,(λ_ z=>nomatch z),?_,List.Pairwise.nil,λx O=>?_,λ_=>av t d U rfl⟩
 .change fM=fM^^^0;simp
 .have e:x=N.a t:=by simpa using O
  rw[e];show N.al t d
def Way.zE(h:239#Way)(t:Nat):261#t=(fM.testBit t && ! 11#(t∈ks)):=by
 rw[h.DV,p!,Ring.oK]
 by_cases d:t∈ks
 .rw[h.sub t d,eK d];rfl
 .rw[fV d];simp
def Way.DW(h:239#Way):left<2^N.n:=gG λk B=>by
 rw[h.zE,H!]at B;show g9 h.lt B.1
def Way.on(h:239#Way)(c:v∉pre):∃t,261#t=true/\(N.a t=v\/N.b t=v):=by
 cases pre with
 | nil =>
   show aG (λt d U e=>?_) (h.st rx)
   have B:ks=[]:=R_.mp (by rw[<-h.w.len];rfl)
   show af t ?_ (.inl e);rw[h.zE,U,B];simp
 | cons u r =>
   have U:=h.w.bd 0 u rx v;rw[List.drop_zero]at U;have G : ¬ u=v:=λz=>c (by rw[z];show h!)
   rw[fV G,eK rfl]at U;have a:v<N.p:=h.ZL v (j4 _ (a!.mpr rx));have C:N.bd left v=true:=by
    rw[h.DV,jb,h.ev v a,U];rfl
   rw[Us]at C;have d:=lZ C;show aG (λk B b O=>?_) (LG (N:=N) (m:=left) (x:=v) (by lia))
   show af k b O
def Way.go(h:239#Way)(a:v∉pre){t w:Nat}(U:261#t=true)(j:(N.a t=v/\N.b t=w)\/(N.b t=v/\N.a t=w)):
 Way N fM (pre++[v]) w (ks++[t]) (left^^^2^t):=by
 rw[h.zE,H!]at U;have S:t∉ks:=by simpa using U.2
 have d:=g9 h.lt U.1;show⟨.snoc h.w d S j,h.lt,h.ev,λs l=>?_,?_,?_,λx O=>?_,λz=>?_⟩
 .rcases d!.mp l with q|q
  .show h.sub s q
  .rw[a!.mp q];show U.1
 .rw[Ring.F5 _ S,h.DV,i?]
 .show _M.mpr (bj h.nd 23#0 (λx O y X=>?_))
  have e:y=v:=by simpa using X
  rw[e];show λz=>a (z▸O)
 .rcases d!.mp O with q|q
  .show h.ZL x q
  .have e:x=w:=by simpa using q
   rw[e];rcases j with⟨_,m⟩|⟨_,m⟩
   .rw[<-m];show N.bl t d
   .rw[<-m];show N.al t d
 .simp at z
def Way.closes(h:239#Way)(Y:pre[i]?=some v):Ring.orM (ks.drop i)≠0/\N.iO (Ring.orM (ks.drop i))/\Ring.orM (ks.drop i)<2^N.n/\∀k,294#(Ring.orM (ks.drop i))=true->fM.testBit k=true:=by
 have a:=(k6.mp Y).1;have C:=h.w.len;have b:∀k,294#(Ring.orM (ks.drop i))=true->k∈ks:=λk B=>by
  rw[Ring.oK]at B;show _C (lZ B)
 show iI (λz=>?_) (λx _=>?_) (gG λk B=>h.w.lt k (b k B)) λk B=>h.sub k (b k B)
 .have y:ks.drop i≠[]:=λq=>by
   have:=List.drop_eq_nil_iff.mp q
   lia
  obtain⟨k,B⟩:=List.exists_mem_of_ne_nil _ y;have:=Ring.oK (ks.drop i) k;rw[z,eK B]at this;simp at this
 .rw[h.w.bd i v (by rw[B? a];show Y) x]
  simp
def Way.few(h:239#Way)(U:v∉pre):pre.length+1<=N.p:=by
 have Z:(pre++[v]).Nodup:=_M.mpr (bj h.nd 23#0 (λx O y X z=>by
  have e:y=v:=by simpa using X
  rw[<-e,<-z]at U;show U O))
 have:=PU (l:=pre++[v]) (p:=N.p) Z h.ZL;rw[U']at this
 simpa using this
end
end RM
namespace Ring
open PySem L2
def LJ{p:Nat}{ts:List ko}{g:aJ p ts}(d:m<2^ts.length):decide (48#(b9 7#(q&&&m))%2=1)=g.N.par q m:=by
 rw[zC (n:=ts.length) (adV q d)];unfold RM.Net.par;rw[RM.zy];have e:RM.cnt (λk=>294#(q&&&m)) ts.length=RM.cnt (λk=>q.testBit k&&12#0) g.N.n:=RM.kR λk _=>by rw[Nat.testBit_and]
 rw[e]
def xorL(R:List Nat):Nat:=R.foldl (λm r=>m^^^r) 0
def MJ(R:List Nat):∀m,R.foldl (λm r=>m^^^r) m=m^^^xorL R:=by
 induction R with
 | nil=>intro m;change m=m^^^0;simp
 | cons r R E =>
   intro m;change R.foldl (λm r=>m^^^r) (m^^^r)=m^^^R.foldl (λm r=>m^^^r) (0^^^r)
   rw[E,E,w?,i?]
def xorL_cons(R:List Nat)(r:Nat):xorL (r::R)=r^^^xorL R:=by
 change R.foldl (λm r=>m^^^r) (0^^^r)=_
 rw[MJ,w?]
theorem Uu:∀{l:List Nat} {i j:Nat} {v},l.Nodup->l[i]?=some v->l[j]?=some v->i=j
 | [],_,_,_,_,h,_=>by simp at h
 | x::r,0,0,_,_,_,_=>rfl
 | x::r,0,j+1,v,nd,h,h'=>by
   have e:x=v:=by simpa using h
   subst e;show absurd (iu (by simpa using h')) (U!.mp nd).1
 | x::r,i+1,0,v,nd,h,h'=>by
   have e:x=v:=by simpa using h'
   subst e;show absurd (iu (by simpa using h)) (U!.mp nd).1
 | x::r,i+1,j+1,v,nd,h,h'=>by
   have:=Uu (i:=i) (j:=j) (U!.mp nd).2 (by simpa using h) (by simpa using h')
   lia
def yR(l:List Nat)(v:Nat):vW (aC (l++[v])) (-1)=8#(v:Int):=by
 unfold vW Lg;have C:48#(aC (l++[v]))=l.length+1:=by rw[aD,U'];rfl
 rw[ξ 3#0,C,ο (by lia)]
 have e:((-1:Int)+7#(l.length+1)).toNat=l.length:=by lia
 change(aC (l++[v]))[((-1:Int)+7#(l.length+1)).toNat]?=_;rw[e];show oH (by rw[J? (Ξ _)];simp)
def Jg(l:List Nat)(v:Nat):(aC l).countP (λz=>Lm z (.int (v:Int)))=l.count v:=by
 unfold aC;rw[List.countP_map,List.count];show List.countP_congr λx _=>?_
 change((((x:Nat):Int)==(v:Int))=true)↔_;rw[k_,k_]
 lia
def MK(l:List Nat)(v:Nat):decide (V.int 7#((l++[v]).count v)=V.int 1)=11#(v∉l):=q?.mpr (by
 rw[p_];have:List.count v [v]=1:=by simp
 rw[this]
 constructor
 .intro z;have:=V.int.inj z;show _J.mp (by lia)
 .intro z;rw[_J.mpr z];rfl)
def F6(l:List Nat)(h:i<=l.length):l7 (aC l) (some (i:Int)) none=aC (l.drop i):=by
 unfold l7;rw[HT.r7,HT.uO,aD,N? h];unfold aC;rw[<-List.map_drop,<-List.map_take,l_ (by rw[J_];lia)]
def P0{l:List Nat}(h:v∈l)(Z:l.Nodup):∃i:Nat,l[i]?=some v/\∀m z,(aC (l++[v]))[m]?=some z->m<=i->Lm z (.int (v:Int))=decide (m=i):=by
 obtain⟨i,Y⟩:=T? h;show af i Y λm z b d=>?_
 have a:=(k6.mp Y).1;show aj (λk B t=>?_) (cS b);subst t
 rw[B? (by lia)]at B
 change(((k:Nat):Int)==(v:Int))=decide (m=i);rw[T!,k_,decide_eq_true_eq]
 constructor
 .intro e;have e:k=v:=by lia
  subst e;show Uu Z B Y
 .rintro rfl;rw[Y]at B;rw[26#B]
end Ring
namespace L2
open PySem PySem.Spec PyProof.Rows
section
variable {κ:Type}[DecidableEq κ]
def gH(N:268#0)(k:κ):Option V:=(N.find? λC=>11#(C.1=k)).map (·.2)
def putK(N:268#0)(k:κ)(v:V):268#0 :=
 if(N.any λC=>11#(C.1=k))=true then N.map (λC=>if C.1=k then(C.1,v) else C) else N++[(k,v)]
def gf(N:268#0)(k:κ):268#0:=N.filter λC=>11#(C.1≠k)
def zF:gH ([]:268#0) k=none:=rfl
def eT{p:κ×V}(e:p.1=k):gH (p::r) k=some p.2:=by simp[gH,Y?,e]
def ez{p:κ×V}(e : ¬ p.1=k):gH (p::r) k=gH r k:=by simp[gH,Y?,e]
theorem j7(k:κ):∀N:268#0,(N.any λC=>11#(C.1=k))=(gH N k).isSome
 | []=>rfl
 | p::r=>by
   rw[P?]
   by_cases e:p.1=k
   .simp only[eT e,eK e,Bool.true_or,Option.isSome_some]
   .rw[ez e,fV e,Bool.false_or];show j7 k r
theorem F7(k j:κ)(y:V):∀N:268#0,gH (N.map λC=>if C.1=k then(C.1,y) else C) j=(gH N j).map λx=>if j=k then y else x
 | []=>rfl
 | p::r=>by
   have E:=F7 k j y r;rw[w!]
   by_cases h:p.1=k
   .rw[ο h]
    by_cases e:p.1=j
    .rw[eT (p:=(p.1,y)) e,eT e,r_,ο (e.symm.trans h)]
    .rw[ez (p:=(p.1,y)) e,ez e,E]
   .rw[ξ h]
    by_cases e:p.1=j
    .rw[eT (p:=p) e,eT e,r_,ξ (λz=>h (e.trans z))]
    .rw[ez (p:=p) e,ez e,E]
theorem CO(k j:κ)(y:V):∀N:268#0,gH N k=none->gH (N++[(k,y)]) j=if j=k then some y else gH N j
 | [],_=>by
   by_cases e:k=j
   .rw[ο e.symm];show eT (p:=(k,y)) e
   .rw[ξ (λz=>e z.symm)];show ez (p:=(k,y)) e
 | p::r,hn=>by
   rw[List.cons_append];have B : ¬ p.1=k:=λz=>by rw[eT z]at hn;cases hn
   rw[ez B]at hn;have E:=CO k j y r hn
   by_cases e:p.1=j
   .rw[eT e,eT e,ξ (λz=>B (e.trans z))]
   .rw[ez e,ez e,E]
def P1(N:268#0)(k j:κ)(y:V):gH (putK N k y) j=if j=k then some y else gH N j:=by
 unfold putK
 by_cases a:(N.any λC=>11#(C.1=k))=true
 .rw[ο a,F7];rw[j7]at a
  by_cases e:j=k
  .obtain⟨x,O⟩:=Option.isSome_iff_exists.mp a;rw[ο e,e,O,r_,ο rfl]
  .rw[ξ e];cases gH N j with
   | none=>rfl
   | some x=>rw[r_,ξ e]
 .rw[ξ a];show CO k j y N ?_;rw[j7]at a;cases q:gH N k with
  | none=>rfl
  | some x=>rw[q]at a;show(a rx).elim
def yc(N:268#0)(k:κ)(v:V):48#(putK N k v)<=N.length+1:=by
 unfold putK
 split
 .rw[Δ];lia
 .rw[U',y!,f_];lia
def F8{N:268#0}(v:V)(h:gH N k=none):putK N k v=N++[(k,v)]:=by
 unfold putK;rw[j7,h];show ξ 3#0
def sU.ML(r:sU o u):o.isSome=u.isSome:=by
 cases o with
 | none=>cases u with
   | none=>rfl
   | some _=>show(show False from r).elim
 | some _=>cases u with
   | none=>show(show False from r).elim
   | some _=>rfl
def sU.getD(r:sU o u)(i:χ d d'):χ (o.getD d) (u.getD d'):=by
 cases o with
 | none=>cases u with
   | none=>show i
   | some _=>show(show False from r).elim
 | some _=>cases u with
   | none=>show(show False from r).elim
   | some _=>show r
def KV.val(r:KV N G)(k:κ):sU (gH N k) (valueAt G k):=by
 unfold KV at r
 induction r with
 | nil=>show True.intro
 | @cons p q Z B h t E =>
   obtain⟨R,W⟩:=h
   by_cases e:p.1=k
   .have f:q.1=k:=R.symm.trans e;have b:valueAt (q::B) k=some q.2:=by simp[valueAt,Y?,f]
    rw[eT e,b];show W
   .have f : ¬ q.1=k:=λz=>e (R.trans z)
    have b:valueAt (q::B) k=valueAt B k:=by simp[valueAt,Y?,f]
    rw[ez e,b];show E
def KV.any(r:KV N G)(k:κ):(N.any λC=>11#(C.1=k))=G.any λC=>11#(C.1=k):=by
 unfold KV at r
 induction r with
 | nil=>rfl
 | cons h t E=>rw[P?,P?,E,h.1]
def KV.repl(r:KV N G)(k:κ)(c:χ y u):
 KV (N.map λC=>if C.1=k then(C.1,y) else C) (G.map λC=>if C.1=k then(C.1,u) else C):=by
 unfold KV at r ⊢
 induction r with
 | nil=>show .nil
 | @cons p q Z B h t E =>
   rw[w!,w!];show .cons ?_ E;obtain⟨R,W⟩:=h
   by_cases e:p.1=k
   .rw[ο e,ο (R.symm.trans e)];show⟨R,c⟩
   .rw[ξ e,ξ (λz=>e (R.trans z))];show⟨R,W⟩
def KV.put(r:KV N G)(k:κ)(c:χ y u):KV (putK N k y) (stored G k u):=by
 unfold putK stored;rw[r.any k]
 by_cases e:(G.any λC=>11#(C.1=k))=true
 .rw[ο e,ο e];show r.repl k c
 .rw[ξ e,ξ e];show Paired.snoc r ⟨rfl,c⟩
def KV.length{N:268#0}(r:KV N G):N.length=G.length:=Paired.length r
def P4(N:268#0)(k:κ):48#(gf N k)<=N.length:=N! _ _
end
def LK(r:χ (kV k) u):(fY P w).is k u=true:=by
 cases k with
 | inl i=>obtain⟨t,e⟩:=223#(∃t,u=Value.int i t);subst e;show Fy P w i t
 | inr x=>obtain⟨t,e⟩:=223#(∃t,u=Value.str x t);subst e;show Fz P w x t
theorem CP:∀{ks} {us},υ (ks.map kV) us->ItemsAre (fY P w) ks us
 | [],_,r=>by rw[List.map_nil]at r;cases r;show .nil
 | k::ks,_,r=>by
   rw[w!]at r;cases r with
   | cons h t=>show .cons (LK h) (CP t)
abbrev KT(H:Hp):212#V->212#(Addr×Value)->Prop:=Paired λp q=>p.1=q.1/\H q.2.1=17#(p.1.map kV)/\χ p.2 q.2.2
def KT.val(r:KT H N xs)(k:List Key):sU (gH N k) ((atKey xs k).map (·.2)):=by
 induction r with
 | nil=>show True.intro
 | @cons p q Z B h t E =>
   revert h;show dW λR _ W=>?_
   by_cases e:p.1=k
   .have f:q.1=k:=R.symm.trans e;have b:atKey (q::B) k=some q.2:=by simp[atKey,Y?,f]
    rw[eT e,b];show W
   .have f : ¬ q.1=k:=λz=>e (R.trans z)
    have b:atKey (q::B) k=atKey B k:=by simp[atKey,Y?,f]
    rw[ez e,b];show E
def KT.repl(r:KT H N xs)(k:List Key)(c:χ y u):
 KT H (N.map λC=>if C.1=k then(C.1,y) else C) (xs.map (putAt k u)):=by
 induction r with
 | nil=>show .nil
 | @cons p q Z B h t E =>
   rw[w!,w!];show .cons ?_ E
   revert h;show dW λR W M=>?_
   unfold putAt
   by_cases e:p.1=k
   .rw[ο e,ο (R.symm.trans e)];show bj R W c
   .rw[ξ e,ξ (λz=>e (R.trans z))];show bj R W M
def KT.put(r:KT H N xs)(k:List Key)(U:H b=17#(k.map kV))(c:χ y u):
 KT H (putK N k y) (storedH xs k b u):=by
 have e:(N.any λC=>11#(C.1=k))=(atKey xs k).isSome:=by
  rw[j7,(r.val k).ML,Option.isSome_map]
 unfold putK storedH;rw[e]
 by_cases q:(atKey xs k).isSome=true
 .rw[ο q,ο q];show r.repl k c
 .rw[ξ q,ξ q];show Paired.snoc r (bj rx U c)
def KT.keeps(r:KT H N xs)(d:∀b ys,H b=17#ys->Y b=17#ys):KT Y N xs :=
 Paired.FA r λ_ _ z=>bj z.1 (d _ _ z.2.1) z.2.2
section
variable {P:Program}{w:World}{H:Hp}{h:Heap}{a:Addr}
def Uv(C:qe P w H h)(e:Rd H a u):bL P w H h a u:=e.ok C
def F9(C:qe P w H h)(e:Rd H a (.dK N)):36#N.length/\143#a/\∃G,KV N G/\h.DictOf (fY P w) a G :=
 show bL P w H h a (.dK N) from Uv C e
def Xx(C:qe P w H h)(e:H a=some (.dK N)):36#N.length/\143#a/\∃G,KV N G/\h.DictOf (fY P w) a G:=F9 C (.inl e)
def wj{L:List Key}(C:qe P w H h)(e:H a=17#(L.map kV)):(tupleKind (fY P w)).is h L a:=by
 show bK (λ_ g r=>dO λo R W n M=>?_) (show bL P w H h a (.tup (L.map kV)) from C a _ e)
 show bC o g.toArray n R W M (by simpa using CP r)
def Ga(C:qe P w H h)(e:Rd H a (.dT N)):36#N.length/\143#a/\
 ∃xs,KT H N xs/\h.DictOfH (tupleKind (fY P w)) a xs:=by
 show bG (λz y xs r=>bV λo c i R W M T b=>?_) (show bL P w H h a (.dT N) from Uv C e)
 show bA z y xs r (bN o c i R (dF W M T (λx O=>?_) b))
 have all:∀{l:212#V} {m:212#(Addr×Value)},KT H l m->∀x∈m,(tupleKind (fY P w)).is h x.1 x.2.1:=by
  intro l m q
  induction q with
  | nil=>intro x O;show nomatch O
  | @cons p q Z B Y t E =>
    intro x O;rcases Z'.mp O with e|O
    .subst e;show wj C (by rw[<-Y.1];show Y.2.1)
    .show E x O
 show all r x O
def P5(C:qe P w H h)(e:H a=some (.dT N)):36#N.length/\143#a/\
 ∃xs,KT H N xs/\h.DictOfH (tupleKind (fY P w)) a xs:=Ga C (.inl e)
end
def P6(H:Hp)(a:Addr)(y:V)(r:Option V):Prop :=
 (∃N k,Rd H a (.dK N)/\y=kV k/\r=gH N k)\/∃N k b,Rd H a (.dT N)/\y = .ref b/\H b=17#(k.map kV)/\r=gH N k
def P7(H:Hp)(a:Addr)(y v:V)(Y:Hp):Prop :=
 (∃N k,H a=some (.dK N)/\y=kV k/\N.length<sizeLine/\Y=η H a (.dK (putK N k v)))\/
 ∃N k b,H a=some (.dT N)/\y = .ref b/\H b=17#(k.map kV)/\N.length<sizeLine/\Y=η H a (.dT (putK N k v))
def P7.t{k:List Key}(e:H a=some (.dT N))(r:H b=17#(k.map kV))(C:N.length<sizeLine):
 P7 H a (.ref b) v (η H a (.dT (putK N k v))):=.inr (cF N k b e rx r C rx)
section
variable {X:Cx}{pq:cN}{σ:St}{H:Hp}{s:Shared}{a:Addr}{y v:V}{u r:Value}{o:Option V}{A:Around}{E:kj}
def θ.big(I:5#H):226#sysModules:=by
 have h:226#mainGlobals:=(I.mod.glob.keeps I.bk).lt;show u_ 3#0 h
def MM(i:A.units+1<cLine)(I:5#H)(g:P6 H a y (some v))(c:χ y u)(h:∀L s',θ X pq σ H s'->χ v L->Q L s'):
 wpAny 9#0 A (getItem (.ref a) u) Q E s:=by
 rcases g with⟨N,k,e,w,l⟩|⟨N,k,b,e,w,r,l⟩
 .subst w;show bG (λz J G n d=>?_) (F9 I.hok e)
  show aj (λL j D=>?_) (sU.some_of (v:=v) (o:=valueAt G k) (by rw[l];show n.val k))
  show wpAny_getItem_of (LK c) d.mapOf j (h L _ (I.tok _) D)
 .subst w;cases(show u=Value.ref b from c)
  show bG (λz J f n d=>?_) (Ga I.hok e)
  show aj (λL j D=>?_) (sU.some_of (v:=v) (o:=(atKey f k).map (·.2)) (by rw[l];show n.val k))
  show aj (λp t S=>?_) (vN.mp j)
  show wpAny_getItem_heap (tupleKind_room_in1 i) (wj I.hok r) d t ?_;rw[S];show h L _ (I.tok _) D
def u5(I:5#H)(g:WO (H a))(l:Heap.SameBut a s.heap h')(n:∃q,h'.get? a=some q)(Q:bL X.prog X.w (η H a ob) h' a ob):
 142#(η H a ob) :=
 I.write (x:=a) (e:=a) g (.inl rx) (λb q U z=>(l.2 b U).trans z) n Q
def VD{h' : Heap}{N:List (Key×V)}(z:36#N.length)(J:143#a)(n:KV N G)(dd:h'.DictOf (fY P w) a G):
 bL P w Y h' a (.dK N):=bA z J G n dd
def MN(R:A.units+1<cLine)(I:5#H)(g:P7 H a y v Y)(P:χ y u)(D:χ v r)(h:∀s',θ X pq σ Y s'->Q () s'):
 wpAny 9#0 A (setItem (.ref a) u r) Q E s:=by
 rcases g with⟨N,k,e,w,l,j⟩|⟨N,k,b,e,w,L,l,j⟩
 .subst w j;show bG (λz J G x p=>?_) (Xx I.hok e)
  have m:36#G.length:=by rw[<-x.length];show z
  have C:36#48#(putK N k v):=161#(yc N k v)
  show wpAny_setItem_pairs (hsz:=m) (LK P) p λO t F=>h _ ?_
  have n:∃q,O.get? a=some q:=let⟨q,_,_,B,_⟩:=t;⟨q,B⟩;show u5 I (by rw[e];show True.intro) F n (VD C J (x.put k D) t)
 .subst w j;cases(show u=Value.ref b from P)
  show bG (λz J f x p=>?_) (P5 I.hok e)
  have m:36#f.length:=by rw[<-Paired.length x];show z
  have C:36#48#(putK N k v):=161#(yc N k v)
  show wpAny_setItem_heap (hsz:=m) (tupleKind_room_in1 R) (wj I.hok L) p λO t F=>h _ ?_
  revert t;show gZ λq n i=>dI λB W M T _ G=>?_
  show u5 I (by rw[e];show True.intro) F ⟨q,B⟩ (bA C J _ ((x.put k L D).keeps λc o d=>?_) (cF q n i B W M T G))
  rw[au (cP d e 96#0)]
  show d
end
def SS(i:Expr):Prop:=∀L C,subscripted i false L C=operate [L,C] (getItem L C)
def DX{T id:String}
 (C:typeLookup (.type T) "__getitem__"=pure (some (.builtin id))) (l:SS d)
 (h:wpAny 25#w A (eval e env) (λo O=>wpAny 25#w A (eval d env) (λi p=>p.TypeIs o T/\wpAny 25#w A (getItem o i) Q E p) E O) E s) :
 60#(eval (.Subscript e d j) env):=by
 show Subscript_ (c! h (λo O W=>c! W (λi p u=>?_) λ_ _ x=>x) λ_ _ x=>x)
 obtain⟨t,u⟩:=u;unfold subscriptTail;show aQ ?_;rw[getitemInPython_of_ne t.not_modules];show aQ (wpAny_specialOf t C ?_);have a:wpAny 25#w A (subscripted d false o i) (λr b=>wpAny 25#w A (letTemporaryGo e o r >>= λ_=>pure r) Q E b) E p:=by
  rw[l o i];show wpAny_operating (c! u (λr b F=>aQ (wpAny_letTemporaryGo (Θ F))) λ_ _ x=>x)
 first
  | show Θ (aQ a)
  | show aQ (Θ (aQ a))
  | show aQ a
def Gb{A:cN}{M:St}(I:282#0)(g:P6 H a y o):s.TypeIs (.ref a) "dict":=by
 rcases g with⟨N,k,e,_,_⟩|⟨N,k,b,e,_,_,_⟩
 .show bG (λ_ _ G _ p=>?_) (F9 I.hok e)
  show p.typeIs
 .show bG (λ_ _ f _ p=>?_) (Ga I.hok e)
  show p.typeIs
def Xy(c ty:TE):TE:=λM H Q=>c M H λx S=>ty M S λy Z=>∃a v,x = .ref a/\P6 Z a y (some v)/\Q v Z
def Xz(c ty g:TE):TS:=λD M H=>g M H λv S=>c M S λx Z=>ty M Z λy w=>∃a X,x = .ref a/\P7 w a y v X/\D.nx M X
section
variable {X:Cx}{o i e value:Expr}{pos pos' tpos:Pos}{td ty tv:TE}
def SV(G:X.A.units+1<cLine)(j:PE X o td)(Y:PE X i ty)(l:SS i):PE X (.Subscript o i pos) (Xy td ty):=by
 show 68;show DX acX.lookup l (eg 34#j λu F=>aA λx S T B O=>?_)
 show eg (Y A F M S _ T O) λC N=>aA λy Z E c=>aA λa v q g P=>?_
 subst q;obtain rfl:u=194#0:=B;show⟨Gb E g,MM G E g c λL d b D=>aq v Z b D P⟩
def SW(G:X.A.units+1<cLine)(j:PE X o td)(Y:PE X i ty)(U:PE X value tv)(l:swapsWith value (some (.Subscript o i pos')) pos.line X.env=pure false):
 PS X (.Assign [.Subscript o i pos'] value pos) (Xz td ty tv):=by
 show 168;show wpAny_Assign_Subscript (eg 34#U λr F=>aA λv S T k O=>eg (j A F M S _ T O) λu N=>aA λx Z E B P=>eg (Y A N M Z _ E P) λC n=>aA λy w d m=>aA λa b q g e=>?_) l
 subst q;obtain rfl:u=194#0:=B;show MN G d g m k λc f=>aV M b f e
end
def P8(h:Heap)(U:sysModules<h.objs.size):bL P w H (h.push { cls:=.type "dict",data:=.dict #[]}) h.objs.size (.dT []) :=
 (bA (r! _) (172#(e! (q! U))) [] .nil (cF _ (#[]) 0 (v! _ rx) (bj rx rx rx) rx rx N_))
structure M1(X:Cx)(o:Expr)(m:Str)(apos:Pos)(e:Expr)(cpos:Pos):Prop where
 base:attributeBase o m X.env 152#o=eval o X.env
 few:((backTo cpos (15#([e]))).all (λx=>! x.1)&&(backToKw cpos (keywordEach [] X.env)).all (λx=>x.1.isSome)
  && 11#(([e]:312#0).length+([]:List Keyword).length+(if([]:List Keyword).isEmpty then 0 else 1)<30))=true
 line:(apos.endLine==cpos.line)=true
 trees:backTo cpos (15#([e]))=[33#e]
structure M2(X:Cx)(o:Expr)(m:Str)(apos:Pos)(e f:Expr)(cpos:Pos):Prop where
 base:attributeBase o m X.env 152#o=eval o X.env
 few:((backTo cpos (15#([e,f]))).all (λx=>! x.1)&&(backToKw cpos (keywordEach [] X.env)).all (λx=>x.1.isSome)
  && 11#(([e,f]:312#0).length+([]:List Keyword).length+(if([]:List Keyword).isEmpty then 0 else 1)<30))=true
 line:(apos.endLine==cpos.line)=true
 trees:backTo cpos (15#([e,f]))=[33#e,33#f]
def ZM(H:Hp)(a:Addr):Prop:=(∃N,Rd H a (.dK N))\/∃N,Rd H a (.dT N)
def P9{A:cN}{M:St}(I:282#0)(d:ZM H a):
 s.TypeIs (.ref a) "dict"/\(∀b,194#0 = .ref b->∃ob,21#ob/\ob.dict=none)/\143#a:=by
 rcases d with⟨N,e⟩|⟨N,e⟩
 .show bG (λ_ J G _ p=>?_) (F9 I.hok e)
  show bj p.typeIs (λb q=>?_) J
  cases q
  revert p;show bz λob _ _ R W _=>?_
  show af ob R W.2.1
 .show bG (λ_ J f _ p=>?_) (Ga I.hok e)
  show bj p.typeIs (λb q=>?_) J
  cases q
  revert p;show bz λob _ _ R W _=>?_
  show af ob R W.2.1
section
variable {X:Cx}{pq:cN}{σ:St}{H:Hp}{s:Shared}{a:Addr}{y d:V}{u r:Value}{o:Option V}{A:Around}{E:kj}
def VE(m:A.units+1<cLine)(I:5#H)(g:P6 H a y o)(c:χ y u)(i:χ d r)(h:∀L s',θ X pq σ H s'->χ (o.getD d) L->Q L s'):
 wpAny 9#0 A (call (.builtin "dict.get") [.ref a,u,r]) Q E s:=by
 rcases g with⟨N,k,e,w,l⟩|⟨N,k,b,e,w,j,l⟩
 .subst w;show bG (λz J G n p=>?_) (F9 I.hok e)
  show call_meetsIn adn p.typeIs PySem.F.entry_dict_get (PySem.F.args_dict_get_3 _ _ _) (meets_dict_get_default (fY X.prog X.w) a (LK c) J r) (af _ p.mapOf (h _ _ (I.tok _) ?_));rw[l];show(n.val k).getD i
 .subst w;cases(show u=Value.ref b from c)
  show bG (λz J f n p=>?_) (Ga I.hok e)
  show call_meetsIn adn p.typeIs PySem.F.entry_dict_get (PySem.F.args_dict_get_3 _ _ _) (meetsH_dict_get_default (tupleKind (fY X.prog X.w)) a b J r) ⟨tupleKind_room_in1 m,(aq k f (wj I.hok j) p (h _ _ (I.tok _) ?_))⟩;rw[l];show(n.val k).getD i
end
def VF(c ty d:TE):TE:=λM H Q=>c M H λx S=>∃a,x = .ref a/\ZM S a/\ty M S λy Z=>d M Z λz w=>∃o,P6 w a y o/\Q (o.getD z) w
section
variable {X:Cx}{o e f:Expr}{apos cpos:Pos}{td ty tx:TE}
def Qa(G:X.A.units+1<cLine)(j:PE X o td)(n:PE X e ty)(l:PE X f tx)(m:M2 X o "get" apos e f cpos):PE X (.Call (.Attribute o "get" apos) [e,f] [] cpos) (VF td ty tx):=by
 show 68;show wpAny_Call_method m.base m.few m.line PySem.F.plainAttrs_dict adn PySem.F.type_dict_get (eg 34#j λu F=>fX λx S=>cE λT B a q d O=>?_)
 subst q;obtain rfl:u=194#0:=B;show dW (λt C _=>?_) (P9 T d)
 show bj t C ?_;rw[m.trees];show Calls.callWith_builtin rx (Calls.evalArgs_plain (Calls.spliced_cons (eg (n A F M S _ T O) λv N=>aA λy Z E r P=>
  Calls.spliced_cons (eg (l A N M Z _ E P) λc k=>fX λz w=>bG λi b L g p=>Calls.spliced_nil ?_))))
 show VE G i g r b λL c k D=>aq _ w k D p
end
section
variable {κ:Type}[DecidableEq κ]
def Qc{N:268#0}(h:gH N k=none): ¬ k∈N.map (·.1):=by
 intro m;show aj (λp t e=>?_) (i!.mp m)
 have q:(N.any λC=>11#(C.1=k))=true:=adZ.mpr (af p t (eK e))
 rw[j7,h]at q;show absurd q 23#0
def SX{N:268#0}(h:gH N k=some v):k∈N.map (·.1):=by
 have q:(N.any λC=>11#(C.1=k))=true:=by
  rw[j7,h]
  all_goals rfl
 show aj (λp t e=>?_) (adZ.mp q)
 show i!.mpr (af p t (lZ e))
theorem LL:∀{l} {k:κ},l.Nodup->¬ k∈l->(l++[k]).Nodup
 | [],k,_,_=>by simp
 | a::r,k,h,hk=>by
   obtain⟨R,W⟩:=U!.mp h;change(a::(r++[k])).Nodup;show U!.mpr ⟨λm=>?_,LL W λm=>hk (Z'.mpr (Or.inr m))⟩
   rcases d!.mp m with q|q
   .show R q
   .show hk (Z'.mpr (Or.inl (a!.mp q).symm))
def SY{N:268#0}(v:V)(S:(N.map (·.1)).Nodup)(h:gH N k=none):((putK N k v).map (·.1)).Nodup:=by
 rw[F8 v h,o!];show LL S (Qc h)
def CQ{p:κ×V}(e:p.1=k):gf (p::r) k=gf r k:=by
 unfold gf;rw[P!,ξ (by simp[e])]
def CS{p:κ×V}(e : ¬ p.1=k):gf (p::r) k=p::gf r k:=by
 unfold gf;rw[P!,ο (by simp[e])]
def CT{N:268#0}(h:p∈gf N k):p∈N:=(J!.mp h).1
theorem zG:∀{kvs} {k:κ},(kvs.map (·.1)).Nodup->((gf kvs k).map (·.1)).Nodup
 | [],_,_=>N_
 | p::r,k,h=>by
   have h:(p.1::r.map (·.1)).Nodup:=h;obtain⟨R,W⟩:=U!.mp h
   by_cases e:p.1=k
   .rw[CQ e];show zG W
   .rw[CS e];change(p.1::(gf r k).map (·.1)).Nodup;show U!.mpr ⟨λm=>R ?_,zG W⟩
    show aj (λq Y a=>?_) (i!.mp m)
    show i!.mpr (af q (CT Y) a)
end
def Qd:mU X 306#.FloorDiv (rI (λ_ j=>j≠0/\j.natAbs<2^1000) 246#(i.fdiv j)):=Ul λi j _ _ _ _ _ L q=>by
 show floordiv_int L.1 q (.inl ?_);have F:j.natAbs≠0:=161#L.1
 have h:j.natAbs.log2<1000:=(w_ F).mpr L.2;show PyProof.noPylong_of_log2 (by lia)
end L2
namespace Ring
open PySem L2
def fg(l:List Int):(aP l).length=l.length:=by unfold aP;rw[Δ]
def zH(l:List Int)(k:Int):aP (l++[k])=aP l++[.int k]:=by unfold aP;rw[o!];rfl
def zI(h:(aP l)[i]?=some x):i<l.length/\x = .int (l.getD i 0):=by
 unfold aP at h;rw[j!]at h;show aj (λk e q=>?_) (vN.mp h)
 have Y:i<l.length:=(k6.mp e).1;show⟨Y,?_⟩;rw[B!,e];show q.symm
def ik(n:Nat)(f:Nat->Int):List Int:=(31#n).map f
def fh(n:Nat)(f:Nat->Int):48#(ik n f)=n:=by unfold ik;rw[Δ,K!]
def MO(f:Nat->Int)(h:j<n):(ik n f).getD j 0=f j:=by
 unfold ik;rw[B!,j!,U_ h];rfl
def Gd(f:Nat->Int)(H:Hp)(D:Addr)(i:Nat)(I:List V)(Z:Hp):Prop:=ai H Z/\19#Z/\I=aP (ik i f)
def Gd.start(r:H D=none):Gd f H D 0 [] (61#H):=150#rfl
def Gd.len(p:Gd f H D i I Z):19#Z/\I.length<=i:=by
 show 173#p.2.1;rw[p.2.2,fg,fh];show Ξ _
def Gd.next(p:Gd f H D i I Z)(r:H D=none)(s:ai Z w)(U:v = .int (f i)):19#w/\Gd f H D (i+1) (I++[v]) (η w D 66#(I++[v])):=by
 show 208;rw[U,p.2.2];unfold ik;rw[g_,o!];change _=aP (_++[f i]);rw[zH]
theorem Ge{K:bY}:∀l:List Int,DatVs K H (aP l) (l.map PyData.int)
 | []=>.nil
 | _::r=>.cons (.int _) (Ge r)
theorem lay_ints:∀l:List Int,225#(l.map PyData.int)=true
 | []=>rfl
 | _::r=>by
   have E:=lay_ints r;simp only[w!,PyData.canLayAll0,E,t_];rfl
theorem CU:∀l:List Int,149#(l.map PyData.int)=0
 | []=>rfl
 | _::r=>by
   have E:=CU r;change max (PyData.depth (PyData.int _)) (149#(r.map _))=0;rw[E];rfl
end Ring
namespace L2
open PySem PySem.Spec PyProof.Rows
def XA(scope g:Scope):Scope:={ kind:=scope.kind,names:=scope.names.map (λ(n,k)=>if(199#k&&g.kind == .function&&g.names.lookup n==some .cell) then(n,NameKind.cell) else(n,k)),isGenerator:=scope.isGenerator,isCoroutine:=scope.isCoroutine,more:=scope.more}
theorem yd{scope:Scope}{env:Env}{x:Str}:∀{names:176#NameKind},238#(names.lookup x)->
 238#((names.map λ(n,k)=>if(16#k) then(n,NameKind.cell) else(n,k)).lookup x)
 | [],h=>by cases h
 | (n,j)::r,h=>by
   have E:=@yd scope env x r;change List.lookup x ((if(16#j)=true then(n,NameKind.cell) else(n,j))::_)=_
   cases O:x==n with
   | true =>
     simp only[R!,O]at h;cases h;rw[ξ 23#0]
     simp only[R!,O]
   | false =>
     simp only[R!,O]at h
     by_cases L:(16#j)=true
     .rw[ο L];simp only[R!,O];show E h
     .rw[ξ L];simp only[R!,O];show E h
def qk{M:Model}{A:Around}{E:kj}{s:Shared}{env:Env}{e:Expr}{scope:Scope}{j:Pos}{t first:Sem Value}{g:Comprehension}{v:List Comprehension}{w:176#Addr}{Q:kj}
 (c:clausesOf e=g::v) (l:∀x,foldedSetIterable g.iter env x=pure x) (L:closureFor scope env=pure w) (B:scope.kind = .function) (S:∀x∈scope.names,x.2 = .local->238#76#x.1)
 (h:wpAny M A first (λx O=>wpAny M A (pyIter x) (λit p=>wpAny M A t (λI b=>wpAny M A (newFunctionEnv scope env.globals w [] env.qual none .none (some env)) (λcenv a =>
  codeAny M A (.compStart e 0 it I 243#env) (λr s'=>∃m,s'.heap.Ns cenv.locals m/\∀h',Heap.SameBut cenv.locals s'.heap h'->match r with
   | .ok _=>Q I { s' with heap:=h'}
   | .error x=>wpAny M A (PySem.passOn "comprehension.variables-let-go" x 243#env) Q E { s' with heap:=h'}) a) E b) E p) E O) E s) :
 187#(comprehension e scope env j t false first):=by
 simp only[comprehension,c,l,pure_bind,L];show aQ (c! h (λx O W=>?_) λ_ _ z=>z)
 show aQ (wpAny_standAt ?_);show aQ (t! (c! W (λit p u=>?_) λ_ _ z=>z))
 rw[ξ 23#0]
 show aQ (c! u (λI b F=>?_) λ_ _ z=>z)
 show aQ (c! F (λcenv a i=>?_) λ_ _ z=>z)
 show t! (296#(t! (wpAny_run ?_)));have o:∀y∈(List.filter (λx=>match x with | (n,k)=>(k==NameKind.local || k==NameKind.cell)&&n != Str.ofString ".0") scope.names).reverse,y.2=NameKind.local->(243#env:Env).kindOf y.1=some NameKind.local:=λy X C=>by
  have d:=(J!.mp (List.mem_reverse.mp X)).1;show yd (scope:=scope) (S y d C)
 show codeAny_mono (show codeAny M (A.mark none) _ _ a from i) λr s' P=>?_
 revert P;show aj λm d q=>?_
 cases r with
 | ok f=>show aQ (t! (wpAny_comp_letGo (cenv:=243#env) B _ _ m o d λh' G _ D=>Θ (q h' D)))
 | error x=>show aQ (t! (wpAny_comp_letGo (cenv:=243#env) B _ _ m o d λh' G _ D=>q h' D))
def YL(X:Cx)(N:List Str)(scope:Scope)(E:XK)(C:Addr)(s:Shared)(H:Hp)(G:183#0):227#Value:=λe p =>
 ∃A M a y,θ (c9 X N scope (52#0) C s H G) A M a y/\Cy X.prog X.w X.stack a y E e p
section
variable {X:Cx}{E:XK}{pq:cN}{σ:St}{H:Hp}{s:Shared}{N:List Str}{scope:Scope}{C:Addr}{fp:183#0}
def XC{P:Program}{w:World}(R:X.prog=P:=by rfl)(W:X.w=w:=by rfl):Passes (Cy P w) (c9 X N scope (YL X N scope E C s H fp) C s H fp) E:=by
 subst R W;intro pq σ a y e p I q;show⟨pq,(bN σ a y (IV I) q)⟩
def Qe(O:Out X E)(I:5#H)(t:R6 B X.fs X.s₀.heap H s.heap)(f:Heap.HeldW B X.stack ea cls a0 X.env.locals s.heap)(y:yt W c ea s.heap)(S:H ea=none)(q:Sy E cls W c H):
 X.xe (.ref ea) s:=by
 show O.xe _ _ ?_
 revert f;show mj λo r b i=>?_
 rw[O.FE]at b;have e:=i
 revert e;show gZ λa G T=>aS λv J g j k=>dI λR u n m h Q=>?_;obtain⟨L,F⟩:=j
 rw[leaving,noteFrame];simp only[O.fr];show aQ (aQ (wpAny_field g k R ?_));rw[ο 23#0]
 show aQ (wpAny_field m h Q ?_);rw[ο 23#0]
 show Θ ?_;show Cw o r b i y λN d p l=>?_
 show DJ O I t (Vl (s:={ s with heap:=N}) d) p l S q
theorem u6{h h' B c:Heap}:∀{l},h.FunFrames B l->(∀b∈frs l,∀o,24#h.get?->24#h'.get?)->(∀b,B.get? b=none->c.get? b=none)->h'.FunFrames c l
 | [],_,_,_=>trivial
 | i::rest,x,k,n=>by
   revert x;show dW λz g e=>?_;obtain⟨L,o,j,m,a,G⟩:=g
   have d:L∈frs (i::rest):=c_.mpr (af i h! j);show bj z (bh L o j (n L m) (k L d o a) G) (u6 e (λb U=>k b ?_) n)
   show aj (λD f U=>?_) (c_.mp U)
   show c_.mpr (af D (sY _ f) U)
def Qf(B:Heap)(C:Addr):(PySem.W.hideAll B [C]).get? C=none:=Heap.hide_self ..
def Gf(O:Out X E)(I2:θ X pq σ Z P)(f2:∀b∈fp,qv X pq Z b)(w:P.heap.objs.size<=C)(h:YL X N scope E C P Z fp e s8):
 wpAny 9#0 X.A (noteFrame e (compEnvC scope a C X.env)) (λ_ s'=>∃m,s'.heap.Ns C m/\∀h',Heap.SameBut C s'.heap h'->
  wpAny 9#0 X.A (PySem.passOn "comprehension.variables-let-go" e (compEnvC scope a C X.env)) d X.xe { s' with heap:=h'}) c s8:=by
 revert h;show dX λp=>cK λk g y d=>sX λea j a0 l=>bV λc Y B t os bare a=>dI λA S XD f i qE=>?_;subst t
 have h:θ (c9 X N scope (52#0) C P Z fp) p k Y s8:=d.Ls os bare a A
 show 50#(noteFrame (.ref ea) X.env);have g:X.A.frames=some (288#0):=by rw[I2.ok.frames,O.FE]
 have a:=f;rw[O.FE]at a;show Pf g O.fr a i λR v x2 u=>?_
 show aj (λm f _=>?_) h.loc
 show bz (λs l i a k p=>?_) (id f)
 have a:s8.heap.get? C=some s:=a;have g:∃o,y.heap.get? C=some o:=by
  show aj (λ_ n _=>?_) d.loc;obtain⟨o,_,_,z,_⟩:=n
  show⟨o,z⟩
 have f:∀b∈202#0,b<P.heap.objs.size:=λb U=>by
  show bK (λ_ o j _=>?_) (I2.stack.mem U)
  show J' j
 have q:C∉202#0:=λz=>absurd (f C z) (Nat.not_lt.mpr w)
 have f:B.get? C=some s:=XD C s a (.inr g) q;show af m (cC s l i (v.1 C s f) k p) λW D=>?_
 have D:Heap.SameBut C R W:=D
 revert v;show mj λx r y3=>gZ λa G T=>aS λn J ge i m=>dI λt k l p g Q=>?_;obtain⟨L,h0⟩:=i
 have s:ea≠C:=λz=>by rw[z,f]at r;cases r
 have tC:T≠C:=λz=>by rw[z,f]at k;cases k
 have f:W.get? ea=some a:=(D.2 ea s).trans ge;have i:W.get? T=some n:=(D.2 T tC).trans p;have z3:3<J.size:=(z_.mp Q).1;rw[PySem.passOn];show aQ (wpAny_field f m t ?_);rw[ξ 23#0]
 show aQ ?_;show 50#(setFlight (.ref ea) X.env.frame);rw[O.fr,setFlight];show aQ (wpAny_field f m t ?_);rw[ο 23#0]
 show wpAny_setField i g z3 (wpAny_throw ?_);dsimp only;have dT3:=o_ g (·.setIfInBounds 3 (180#(some X.env.locals)))
 have gT3:=D? (Obj.mapFields (·.setIfInBounds 3 (180#(some X.env.locals)))) i (D_ dT3)
 have H:∀b,b≠C->b≠T->(W.update T (Obj.mapFields (·.setIfInBounds 3 (180#(some X.env.locals))))).get? b=R.get? b:=λb i n=>(n? W _ (e! n)).trans (D.2 b i)
 generalize W.update T (Obj.mapFields (·.setIfInBounds 3 (180#(some X.env.locals))))=M at gT3 H
 have neT:∀b o,24#B.get?->b≠T:=λb o e z=>by rw[z,k]at e;cases e
 have i:∀b o,24#B.get?->b≠C->24#M.get?:=λb o e n=>(H b n (neT b o e)).trans (x b o e)
 have Q:∀b∈202#0,b≠T:=λb U z=>by
  rw[O.FE]at U;show bK (λ_ o j F=>?_) (y3.mem U)
  rw[z,p]at j;cases j;show F J g
 have D:∀b∈202#0,b≠C:=λb U z=>q (z▸U)
 have W:∀b o,24#(PySem.W.hideAll B [C]).get?->24#B.get?:=λb o e=>adT _ e
 have J:∀b,B.get? b=none->(PySem.W.hideAll B [C]).get? b=none:=λb e=>by
  cases z:(PySem.W.hideAll B [C]).get? b with
  | none=>rfl
  | some o=>rw[W b o z]at e;cases e
 have f:Un (202#0) fp Z Y P.heap s8.heap:=h.base;have R:∀b o,24#P.heap.get?->b∉fp->∃F,y.heap.get? b=some F:=λb o e n=>d.base.there b o e n
 have p:∀b o,24#P.heap.get?->b≠C:=λb o e z=>absurd (J' e) (by rw[z];show Nat.not_lt.mpr w)
 have v:∀b∈202#0,Y b=none:=λb U=>h.ok.FE.elim (λ_=>h.r4 b U) λ_=>h.r4 b U
 have y:Un (202#0) fp Z Y P.heap M:=by
  show⟨λb o e n U g=>i b o (XD b o (f.keep b o e n U g) (.inr (R b o e g)) U) (p b o e),λb o e n U g=>?_,f.free,λb o e g=>?_,f.tups,f.l5,f.qj⟩
  .obtain⟨j,q⟩:=f.slot b o e n U g;obtain⟨d,I⟩:=u b _ q (h.Pg b U _ q);show⟨d,(H b (D b U) (Q b U)).trans I⟩
  .obtain⟨F,q⟩:=f.there b o e g
   by_cases U:b∈202#0
   .obtain⟨d,I⟩:=u b _ q (h.Pg b U _ q);show⟨_,(H b (D b U) (Q b U)).trans I⟩
   .show⟨F,i b F (XD b F q (.inr (R b o e g)) U) (p b o e)⟩
 have Ui:∀b u,Y b=some u->b∉202#0/\b≠C:=λb u e=>⟨λz=>(by rw[v b z]at e;cases e),λz=>(by rw[z,show Y C=none from h.free]at e;cases e)⟩
 have p:qe X.prog X.w Y M:=λb u e=>by
  show(A b u e).stay (λc v L q=>?_) (λ_ q=>q) λ_ _ q=>q
  have d:∃z,Y c=some z:=by
   rcases L with L|L
   .rw[L];show⟨u,e⟩
   .show⟨_,L⟩
  obtain⟨z,g⟩:=d;obtain⟨j,x⟩:=Ui c z g;show i c v (XD c v q (.inl (by rw[g];simp)) j) x
 have v:θ X pq σ Y { s8 with heap:=M}:=I2.K3 (ch:=fp) (s':={ s8 with heap:=M}) h.os y p bare λb U=>by
  show dI (λ_ d _ j g q=>?_) (f2 b U)
  show iI j d g q
 show Qe (B:=PySem.W.hideAll B [C]) (a0:=a0) O v (λb o p c n=>?_) (iI (λb o e=>i b o (W b o e) λz=>?_) (J ea r) ?_ ?_) ?_ S qE
 .have p:24#M.get?:=p;have r:b≠C:=λz=>by
   rcases c with c|⟨F,c⟩
   .show c (by rw[z];show h.free)
   .show absurd (g! (J' c) I2.sz) (by rw[z];show Nat.not_lt.mpr w)
  have h:b∉202#0:=λz=>by
   rcases Z'.mp (I2.vO b z) with q|q
   .subst q;rcases c with c|⟨F,c⟩
    .show c v.free
    .show 206#(g! (J' c) I2.ok.above)
   .show n q
  have I:∀F,166#b=some F->b∉fp:=λF c z=>by
   show dI (λ_ _ _ j _ _=>?_) (f2 b z)
   rcases j with g|g
   .rw[O.ex]at g;cases g
   .show absurd (J' c) (Nat.not_lt.mpr g)
  have q:∀F,166#b=some F->∃j,P.heap.get? b=some j:=λF c=>I2.base.there b F c (by rw[O.ex];simp)
  have d:∃x,s8.heap.get? b=some x:=by
   rcases c with c|⟨F,c⟩
   .cases g:Y b with
    | none=>show absurd g c
    | some z=>show(A b z g).thing
   .obtain⟨j,P⟩:=q F c;show f.there b j P (I F c)
  obtain⟨x,f⟩:=d;have P:=XD b x f (c.imp id λ⟨F,c⟩=>let⟨j,P⟩:=q F c;R b j P (I F c)) h
  have g:=i b x P r;rw[p]at g;rw[26#g];show adN _ P (by simpa using r)
 .rw[z,Qf]at e;cases e
 .rw[<-O.FE]at y3;show u6 y3 (λb U o e=>(H b (D b U) (Q b U)).trans e) J
 .show cD a G T _ _ ((H ea s (e! l)).trans ge) ⟨L,h0⟩ m t (J T k) (iI l gT3 dT3 (by simp[z3]))
 .revert x2;show aA λj q x d g=>?_
  show aq j q ((H ea s (e! l)).trans x) d g
end
section
variable {X:Cx}{EE:XK}{elt iter tg:Expr}{ifs:312#0}{scope:Scope}{pos:Pos}{own fq:List Str}{js:List Nat}{wi:TI}{g:TG}{tt:TT}{te:TE}
def Qg(O:Out X EE)(T:156#own)(L:X.calm=true)(b:PI X tg iter wi)
 (y:∀C s H G,PG 45#G tg g)
 (d:∀C s H G,Vg 45#G ifs tt)
 (n:∀C s H G,PE (c9 X (own++fq) scope (YL X (own++fq) scope EE C s H G) C s H G) elt te)
 (l:158#0:=by intro _;rfl) :
 PE X 103#0 (Lo wi g tt te own.length js):=by
 show 68;rw[eval_ListComp];show qk rx l (lA (gF I T)) T.kind T.names ?_;show c! 34#b (λv F R=>c! R (λf N W=>?_) λ_ _ z=>z) λ_ _ z=>z
 revert W;show ki λc G B J Z=>dI λe E a r u i=>?_
 subst e;show mz (QQ:=λD Y=>Q (.ref D) Y) (xf:=λC s H G=>YL X (own++fq) scope EE C s H G) T y d n E (a.x L) r u i (λD C k Y p w P q=>?_) λD C e t w z=>?_
 .show aj (λm S _=>?_) P.loc
  show af m S λo j=>aq (.ref D) Y (jO E u w P j) rx q
 .show Gf O E u w z
end
end L2
namespace Ring
open PySem L2
def tw(t:ko):List Int:=[t.1,t.2.1,t.2.2]
def nU(p:Int)(ns:List Int):Prop:=∃t,ns=tw t/\oB p t
def GoodW(p:Int)(q:List (List Int)):Prop:=1<=p/\p<=10/\q.length<=24/\∀k∈q,nU p k
def Gg(H:Hp)(x:V)(ns:List Int):Prop:=∃b,x = .ref b/\(H b=1#(aP ns)\/H b=17#(aP ns))
def ql(H:Hp)(x:V)(ns:List Int):Prop:=∃b,x = .ref b/\H b=17#(aP ns)
def ql.tie(h:ql H x ns):Gg H x ns:=let⟨b,e,z⟩:=h;(af b e (.inr z))
def ql.tups(s:fT H Y)(h:ql H x ns):ql Y x ns:=let⟨b,e,z⟩:=h;(af b e (s _ _ z))
def ql.same(s:ai H Y)(h:ql H x ns):ql Y x ns:=h.tups s.tups
def Gg.same(s:ai H Y)(h:Gg H x ns):Gg Y x ns:=let⟨b,e,z⟩:=h;(af b e (z.imp (s _ _) (s _ _)))
def oM(h:nU p [x,y,z]):oB p (x,y,z):=by
 revert h;show aj λo e g=>?_;obtain⟨a,b,c⟩:=o
 have d:x=a:=(List.cons.inj e).1;have D:y=b:=(List.cons.inj (List.cons.inj e).2).1;have R:z=c:=(List.cons.inj (List.cons.inj (List.cons.inj e).2).2).1;rw[d,D,R];show g
def Qh(h:nU p ns):ns.length=3:=by
 revert h;show aj λt k _=>?_;subst k
 rfl
def Gh{xs:List V}{ts:List ko}(h:Paired (TupAt H) xs ts):Paired (ql H) xs (ts.map tw):=by
 induction h with
 | nil=>show .nil
 | cons h _ E=>show .cons h E
end Ring
namespace L2
open PySem PySem.Spec PyProof.Rows
def wk{K:bY}{xs:List V}{g:TG}{Q:TS}{D:Ends}(c:109#St)(h0:c 0 M H)(C:∀i M H,i<=xs.length->c i M H->aZ K H a xs)
 (l:∀i x T M H,xs[i]?=some x->c i M H->H T=none->g (.ref T) M (η H T (182#x)) λP Z=>Q 200#c P Z) (J:∀M H,293#M->D.nx M H) :
 ∃W:Nat->109#St,(∃m,W 0 m M H)/\∀i m M H,W i m M H->
   ((MG K a).stop i H/\D.nx M H)\/((MG K a).go i H/\262#(MG K a).Mi):=by
 show 106#(λi m M H=>115#M)
 intro i m M H;show dW λL b p=>?_;subst L
 have q:=C i M H b p
 show 265
 .show .inr (b8 216#q (c (i+1)) (λk Y f=>116#f) (λv Y y=>?_))
  revert y;show aS λT x e t h S=>?_;subst e h
  show l i x T M _ (S xs q) p t
 .show 221
  subst e;show .inl ⟨af xs q rfl,J M H p⟩
end L2
namespace Ring
open PySem L2
def oV:190#0->V
 | none=>.eM
 | some i=>.int i
end Ring
namespace RM
variable {N:Net}{m t0:Nat}
def Net.VG(N:Net)(t v:Nat):Nat:=if N.a t=v then N.b t else N.a t
def Net.oN(N:Net)(left v:Nat):List Nat:=(31#N.n).filter λt=>261#t&&(11#(N.a t=v) || 11#(N.b t=v))
def tU:t∈N.oN left v↔t<N.n/\261#t=true/\(N.a t=v\/N.b t=v):=by
 unfold Net.oN;rw[J!,z!,H!,Bool.or_eq_true,decide_eq_true_eq,decide_eq_true_eq]
def Qi(h:N.a t=v\/N.b t=v):(N.a t=v/\N.b t=N.VG t v)\/(N.b t=v/\N.a t=N.VG t v):=by
 unfold Net.VG
 by_cases e:N.a t=v
 .rw[ο e];show .inl ⟨e,rfl⟩
 .rw[ξ e];rcases h with h|h
  .show absurd h e
  .show .inr ⟨h,rfl⟩
end RM
namespace Ring
open PySem L2
def tV{p:Nat}{ts:List ko}{g:aJ p ts}(M:Paired (TupAt H) xs ts)(B:k<ts.length):∃c,xs[k]?=some (.ref c)/\H c=17#([.int 7#(g.N.a k),.int 7#(g.N.b k),.int (dY ts k).2.2]):=by
 have l:k<xs.length:=by rw[M.length];show B
 show dX (λt=>bK λd c L m=>?_) (Paired.tN M (i:=k) (x:=xs[k]) (by simp[l]))
 have o:t=dY ts k:=by
  have z:=wc B;rw[d]at z;show 26#z
 show af c (by rw[<-L];simp[l]) ?_
 rw[m,<-Ly B,<-Lz B,o];rfl
def zJ{m:Type}(f:m->Int)(l:List m)(H:Hp)(D:Addr)(i:Nat)(I:List V)(Z:Hp):Prop:=ai H Z/\19#Z/\I=302#((l.take i).map f)
section
variable {α:Type}{f:α->Int}{l:List α}{H H2 H3:Hp}{D:Addr}{i:Nat}{k:α}{acc:List V}{v:V}
def zJ.start(r:H D=none):zJ f l H D 0 [] (61#H):=150#rfl
def zJ.len(p:zJ f l H D i acc H2):H2 D=1#acc/\acc.length<=i:=by
 show 173#p.2.1;rw[p.2.2,Δ,Δ,O!]
 lia
def zJ.next(p:zJ f l H D i acc H2)(r:H D=none)(s:ai H2 H3)(B:l[i]?=some k)(U:v = .int (f k)):H3 D=1#acc/\zJ f l H D (i+1) (acc++[v]) (η H3 D 66#(acc++[v])):=by
 show 208;rw[E!,B,o!,o!,<-p.2.2,U];rfl
def zJ.fin(p:zJ f l H D l.length acc H2):H2 D=1#(302#(l.map f)):=by rw[p.2.1,p.2.2,I!]
end
def DY{row:List Int}(h:t<n)(C:row.length=n):(aP row)[t]?=8#(row.getD t 0):=by
 unfold aP;rw[j!,B!,A! (by lia)]
 rfl
end Ring
namespace RM
variable {N:Net}{row:Nat->Int}
def Fit(N:Net)(row:Nat->Int)(r:Int)(z:Nat->Int):Prop:=∀k,k<N.n->r ∣ z (N.b k)-z (N.a k)-row k
end RM
namespace Ring
open PySem L2
def fK(row:List Int):Nat->Int:=λk=>row.getD k 0
def qK(O:x<p):(ik p f).getD x 0=f x:=by
 unfold ik;rw[B!,j!,U_ O];rfl
def int_at{l:List Int}(h:i<l.length):(aP l)[i]?=8#(l.getD i 0):=DY h rfl
def Gi(n:Int):11#(V.int n=V.int 0)=11#((0:Int) ∣ n):=q?.mpr ⟨λz=>by rw[V.int.inj z];show⟨0,rfl⟩,λz=>by rw[Int.zero_dvd.mp z]⟩
def Jh(n r:Int):11#(V.int (n%r)=V.int 0)=11#(r ∣ n):=q?.mpr ⟨λz=>Int.dvd_of_emod_eq_zero (V.int.inj z),λz=>by rw[Int.emod_eq_zero_of_dvd z]⟩
def gz(N:RM.Net)(row:Nat->Int)(r:Int)(z:Nat->Int)(n:Nat):List Nat:=(31#n).filter λk=>! 11#(r ∣ z (N.b k)-z (N.a k)-row k)
def MP:gz N row r z N.n=[]↔RM.Fit N row r z:=by
 unfold gz;rw[_t]
 constructor
 .intro h k B;have:=h k (z!.mpr B);cases e:11#(r ∣ z (N.b k)-z (N.a k)-row k) with
  | true=>show lZ e
  | false=>rw[e]at this;show absurd rx this
 .intro h k B;rw[eK (h k (z!.mp B))];show n!
def Ji(N:RM.Net)(row:Nat->Int)(r:Int)(z:Nat->Int)(n:Nat):gz N row r z (n+1)=gz N row r z n++if 11#(r ∣ z (N.b n)-z (N.a n)-row n)=true then[] else[n]:=by
 unfold gz;rw[g_,V?]
 congr 1
 rw[P!];cases 11#(r ∣ z (N.b n)-z (N.a n)-row n)<;>rfl
end Ring
namespace L2
open PySem
def oO{lo:Int}{g:TG}{Q:TS}{D:Ends}(c:109#St)(h0:c 0 M H)
 (l:∀i,let t:Ends:=200#c;∀M H,i<n->c i M H->g (.int (lo+i)) M H λP Z=>Q t P Z) (J:∀M H,c n M H->D.nx M H) :
 ∃W:Nat->109#St,(∃m,W 0 m M H)/\∀i m M H,W i m M H->
   ((OO lo n).stop i H/\D.nx M H)\/((OO lo n).go i H/\262#(OO lo n).Mi) :=
 g4 c h0 (λi M H a p=>l i M H a p) J
def iX{K:bY}{xs:List V}{g:TG}{Q:TS}{D:Ends}(c:109#St)(h0:c 0 M H)(C:∀i M H,i<=xs.length->c i M H->aK K H a xs)
 (l:∀i x,let t:Ends:=200#c;∀M H,xs[i]?=some x->c i M H->g x M H λP Z=>Q t P Z) (J:∀M H,293#M->D.nx M H) :
 ∃W:Nat->109#St,(∃m,W 0 m M H)/\∀i m M H,W i m M H->
   ((OL K a).stop i H/\D.nx M H)\/((OL K a).go i H/\262#(OL K a).Mi) :=
 uM c h0 C (λi x M H b p=>l i x M H b p) J
def qn{X:Cx}{e:Expr}{T:String}{r:V->81#(List V)}{d:TE}{t:TA}(K:bY)(p:PE X e (Zv X.K T r d t))(h:X.K=K:=by rfl):PE X e (Zv K T r d t):=by subst h;show p
def dz{K:bY}{R:V->Prop}(l:aZ K H a xs)(W:vW xs k=some v)(q:R v):∃p ys D w,V.ref a = .ref p/\V.int k = .int D/\aZ K H p ys/\vW ys D=some w/\R w:=bH a xs k v rx rx l W q
def fN{K:bY}{R:V->Prop}(l:aK K H a xs)(W:vW xs k=some v)(q:R v):∃p ys D w,V.ref a = .ref p/\V.int k = .int D/\aK K H p ys/\vW ys D=some w/\R w:=bH a xs k v rx rx l W q
def bT{R:Int->Int->Prop}(h:R i j):∃l g,V.int i = .int l/\V.int j = .int g/\R l g:=aq i j rx rx h
def qm{K:bY}{E:Addr->Prop}{R:List V->Prop}(e:E a)(h:aK K H a xs\/aZ K H a xs)(q:R xs):∃p ys,E p/\(aK K H p ys\/aZ K H p ys)/\R ys:=aq a xs e h q
def ah{m:Type}{A R:m->Prop}{x:m}(h:A x)(r:R x):∃x,A x/\R x:=af x h r
open PySem PySem.Spec PyProof.Rows
structure S0(K:bY)(x qual:Str)(st:Stmt)(f:Addr)(fd:FuncData)(ds:82#0):Prop where
 ex:∃(oc:Value) (od:129#0) (kV doc pm:Value) (an:129#0) (cdv ct:Value) (osl:165#0) (T:Addr) (oT:Value) (odT:129#0) (nT:Nat) (Sv:165#0),
  fd=PySem.W.fnOf x qual (eZ st) (cQ st) (aU st) (.ref T) kV doc pm an cdv ct/\283#⟨oc,od,.func fd,osl⟩/\PySem.W.codeIn K cdv qual=true/\K.lookup T=some ⟨oT,odT,.seq ds.toArray nT,Sv⟩
 kp:78#K
section
variable {P:Program}{w:World}{K:bY}{mg:Bg}{base:Heap}
def S0.ok{st:Stmt}(F:S0 K x j st f n ds)(S:g6 N Z (aU st))(len:125#Z.length)
 (O:∀i A outer s H G Q E,fF k (139#j)->sp G H Q E->
  89#(tK (tM uQ P w K mg base N j (aU st) f i A outer s H E).Ft (cQ st) t)):i5 P w K mg base uQ (k+1) f n Z sp:=by
 show fX (λd W=>ki λkV m z M i=>ki λl o T r u=>aS λy Sv L c B _=>?_) F.ex;subst L
 show Le c B S len λA outer s H G Q E a b=>?_
 show aj (λt h q=>?_) (O i A outer s H G Q E a b)
 show af t h.Ft q
def S1{st:Stmt}{o Sv:165#0}{kV m z i ct:Value}{ds:82#0}(l:283#⟨oc,W,.func (PySem.W.fnOf x j (eZ st) (cQ st) (aU st) (.ref T) kV m z M i ct),o⟩)
 (L:PySem.W.codeIn K i j=true) (B:78#K) (d:K.lookup T=some ⟨r,u,.seq ds.toArray y,Sv⟩):S0 K x j st f (PySem.W.fnOf x j (eZ st) (cQ st) (aU st) (.ref T) kV m z M i ct) ds :=
 ⟨iJ _ _ _ (vM _ _ _ _ (vM _ _ _ _ (bC _ _ _ rx l L d))),B⟩
end
end L2
namespace RM
variable {N:Net}{row:Nat->Int}
def fz(N:Net)(row:Nat->Int):Nat->Nat->Int
 | 0=>λ_=>0
 | j+1=>λx=>if N.kH j=true then
    (if N.eo j x=max (N.eo j (N.a j)) (N.eo j (N.b j)) then fz N row j x+(if N.eo j (N.b j)=max (N.eo j (N.a j)) (N.eo j (N.b j)) then fz N row j (N.a j)+row j-fz N row j (N.b j) else -(fz N row j (N.a j)+row j-fz N row j (N.b j))) else fz N row j x)
    else fz N row j x
def Qj(h:N.kH j=false):fz N row (j+1)=fz N row j:=by
 funext x
 change(308#(N.kH j=true))=_
 rw[h,ξ n!]
def Qk(h:N.kH j=true)(x:Nat):fz N row (j+1) x=if N.eo j x=max (N.eo j (N.a j)) (N.eo j (N.b j)) then fz N row j x+(if N.eo j (N.b j)=max (N.eo j (N.a j)) (N.eo j (N.b j)) then fz N row j (N.a j)+row j-fz N row j (N.b j) else -(fz N row j (N.a j)+row j-fz N row j (N.b j))) else fz N row j x:=by
 change(308#(N.kH j=true))=_
 rw[ο h]
def VH(h:N.kH j=true):N.eo j (N.a j)≠N.eo j (N.b j):=by
 unfold Net.kH at h;intro z;rw[eK z]at h;cases h
theorem Gj:∀j,j<=N.n->∀k,k<j->N.kH k=true->fz N row j (N.b k)-fz N row j (N.a k)=row k
 | 0,_,k,B,_=>absurd B (r? k)
 | j+1,J,k,B,Z=>by
   have E:=Gj j (by lia)
   cases a:N.kH j with
   | false =>
     rw[Qj a];have:k≠j:=λz=>by rw[z,a]at Z;cases Z
     show E k (by lia) Z
   | true =>
     rw[Qk a,Qk a]
     by_cases e:k=j
     .subst e;have G:=VH Z
      by_cases U:N.eo k (N.b k)=max (N.eo k (N.a k)) (N.eo k (N.b k))
      .rw[ο U,ο U,ξ (by lia)]
       lia
      .rw[ξ U,ο (by lia),ξ U]
       lia
     .have b:k<j:=by lia
      have n:N.eo j (N.a k)=N.eo j (N.b k):=qG (S:=λ_=>true) b rfl
      have:=E k b Z;rw[n]
      by_cases O:N.eo j (N.b k)=max (N.eo j (N.a j)) (N.eo j (N.b j))
      .rw[ο O,ο O]
       lia
      .rw[ξ O,ξ O];show this
def MQ(L:c<N.n)(j : ¬ r ∣ fz N row N.n (N.b c)-fz N row N.n (N.a c)-row c):N.kH c=false:=by
 cases Z:N.kH c with
 | false=>rfl
 | true =>
   have:=Gj (N:=N) (row:=row) N.n (Ξ _) c L Z;show absurd ⟨0,by lia⟩ j
end RM
namespace L2
open PySem PySem.Spec PyProof.Rows PySem.W
def yS(n:Nat)(R:m->Prop):KasT m->Prop
 | .ret a=>R a
 | .ask i j k=>i<n/\j<n/\∀b,yS n R (k b)
def yS.bind{R:m->Prop}{c:d->Prop}{f:m->KasT d}:∀{t},yS n R t->(∀a,R a->yS n c (f a))->yS n c (t.bind f)
 | .ret a,h,g=>by
   rw[KasT.bind.eq_1];show g a h
 | .ask i j k,h,g=>by
   rw[KasT.bind.eq_2];show bj h.1 h.2.1 λb=>yS.bind (h.2.2 b) g
def yS.wp{R:m->Prop}{Q:227#m}(L:∀i j C,i<n->j<n->(∀b,C b s)->c i j C s)(Y:∀a,R a->Q a s):∀{t},yS n R t->KasT.kasWp c t Q s
 | .ret a,h=>Y a h
 | .ask i j k,h=>L i j _ h.1 h.2.1 λb=>yS.wp L Y (h.2.2 b)
def gg(n:Nat)(p:Array Nat):Prop:=p.toList.Perm 31#n
def gg.at(h:gg n p)(S:0<n)(x:Nat):p.getD x 0<n:=by
 unfold Array.getD
 split
 .rename_i O
  have:p[x]∈p.toList:=by simp
  show z!.mp (h.mem_iff.mp this)
 .show S
def MR(h:gg n p)(i j:Nat):gg n (p.swapIfInBounds i j):=by
 unfold Array.swapIfInBounds
 split
 .split
  .show(Array.perm_iff_toList_perm.mp (Array.swap_perm _ _)).trans h
  .show h
 .show h
theorem wm(f g:Nat->Nat):∀(l:List Nat) {p},gg n p->gg n (l.foldl (λa k=>a.swapIfInBounds (f k) (g k)) p)
 | [],_,h=>h
 | k::l,_,h=>wm f g l (MR h (f k) (g k))
def qL(h:gg n p)(i j:Nat):gg n (kas_rev p i j):=wm _ _ _ h
def Ql(h:gg n p)(i j:Nat):gg n (bubble p i j):=wm _ _ _ h
theorem Jj(h:gg n p)(S:0<n):∀f x,yS n (λ_=>True) (kas_asc p f x)
 | 0,x=>by
   rw[kas_asc.eq_1];trivial
 | f+1,x=>by
   rw[kas_asc.eq_2];show bj (h.at S _) (h.at S _) λb=>?_
   cases b with
   | true=>trivial
   | false=>show Jj h S f (x+1)
theorem yT(S:0<n):∀f {p:Array Nat} (x q:Nat),gg n p->yS n (λr:Array Nat×Nat×Nat=>gg n r.1) (kas_desc f p x q)
 | 0,p,x,q,h=>by
   rw[kas_desc.eq_1];show h
 | f+1,p,x,q,h=>by
   rw[kas_desc.eq_2];show bj (h.at S _) (h.at S _) λb=>?_
   cases b with
   | true =>
     change yS n _ (308#(q > 0))
     by_cases Y:q > 0
     .rw[ο Y];show yT S f _ _ (qL h _ _)
     .rw[ξ Y];show yT S f _ _ h
   | false =>
     show bj (h.at S _) (h.at S _) λb=>?_
     cases b with
     | true=>show h
     | false=>show yT S f _ _ h
def LM(S:0<n)(h:gg n p)(x r:Nat):yS n (λr:Nat×Array Nat=>gg n r.2) (kas_tail3 x r p) :=
 yS.bind (Jj (qL h _ _) S _ _) λ_ _=>qL h _ _
def LN(S:0<n)(h:gg n p)(x r:Nat):yS n (λr:Nat×Array Nat=>gg n r.2) (kas_descPart x r p):=by
 show yS.bind (yT S _ _ _ h) λy X=>?_
 by_cases Y:y.2.2 > 0
 .rw[ο Y];show LM S (qL X _ _) _ _
 .rw[ξ Y];show LM S X _ _
def Qm(S:0<n)(h:gg n p)(r:Nat):yS n (λr:Nat×Array Nat=>gg n r.2) (kas_count r p):=by
 show yS.bind (Jj h S _ _) λy _=>?_
 by_cases R:(y==r)=true
 .rw[ο R];show h
 .rw[ξ R]
  by_cases W:y > 1
  .rw[ο W];show bj (h.at S _) (h.at S _) λb=>?_
   cases b with
   | true=>show h
   | false=>show LN S (qL h _ _) _ _
  .rw[ξ W];show LN S h _ _
theorem zK(S:0<n)(h:gg n p)(k:Nat):∀f x y,yS n (λ_=>True) (kas_place p k f x y)
 | 0,x,y=>by
   rw[kas_place.eq_1];trivial
 | f+1,x,y=>by
   rw[kas_place.eq_2]
   by_cases O:x ≥ y
   .rw[ο O];trivial
   .rw[ξ O];show bj (h.at S _) (h.at S _) λb=>?_
    cases b with
    | true=>show zK S h k f _ _
    | false=>show zK S h k f _ _
theorem Qn(S:0<n):∀f {p:Array Nat} (x:Nat),gg n p->yS n (gg n) (kas_bin f p x)
 | 0,p,x,h=>by
   rw[kas_bin.eq_1];show h
 | f+1,p,x,h=>by
   rw[kas_bin.eq_2];show yS.bind (zK S h _ _ _ _) λl _=>Qn S f _ (Ql h _ _)
def S2(S:0<n):yS n (gg n) (kas_sort n):=by
 unfold kas_sort;have F:gg n (31#n).toArray:=by unfold gg;simp
 show yS.bind (Qm S F n) λr P=>?_
 by_cases O:r.1<n
 .rw[ο O];show Qn S _ _ P
 .rw[ξ O];show P
def Qo(h:Heap)(v:Value):Prop:=∃a o x y t u k,v = .ref a/\138#o/\o.cls = .type "tuple"/\o.data = .seq #[.int x t,.int y u] k
def Qp{s:Shared}{G:82#0}(U:∀i,i<n->Qo s.heap (G.getD i Value.none)):∀i j C,i<n->j<n->(∀b,C b s)->kas_ask prog w A (tuples' true) G i j C s:=by
 intro i j C Y l h;unfold kas_ask;show ki (λa o x y t=>aS λu k e m _ J=>?_) (U i Y)
 show ki (λr F c p Z=>aS λd D f E _ g=>?_) (U j l)
 rw[e,f];show kat_lt m J E g ?_;change KatLex prog w A true _ C [(.int x t,.int c Z),(.int y u,.int p d)] 0 s;rw[KatLex.eq_2];show wpAny_eqBool_int ?_;cases(x==c) with
 | true =>
   rw[ο rfl,KatLex.eq_2];show wpAny_eqBool_int ?_;cases(y==p) with
   | true =>
     rw[ο rfl,KatLex.eq_1];show h _
   | false =>
     rw[ξ n!];show kat_one _ _ (lt_int (h _))
 | false =>
   rw[ξ n!];show oneLt_int (h _)
def MS{s:Shared}{G:82#0}(S:0<G.length)(U:∀v∈G,Qo s.heap v)(q:Q (tuples' true) s):60#(keyKind' G.toArray):=by
 obtain⟨N,C,Z,B⟩:∃N:82#0,N.length=G.length/\(∀v∈N,∃x t,v=Value.int x t)/\KatTups s.heap G N:=by
  clear q S
  induction G with
  | nil=>show av [] rfl (λv U=>(by cases U)) (by rw[KatTups.eq_1];trivial)
  | cons v G b =>
    show aG (λN R W M=>?_) (b λv l=>U v (sY _ l))
    show ki (λa o x y t=>aS λu k e j L J=>?_) (U v h!)
    show av (.int x t::N) (by simp[R]) (λP l=>?_) ?_
    .rcases Z'.mp l with rfl|l
     .show kZ x t rfl
     .show W P l
    .rw[KatTups.eq_2];show⟨bH a o _ k e j L J rfl,M⟩
 show kat_kind (T:=.type "int") B (by lia) (λv U=>?_) 3#0 q
 show fX (λx t L=>?_) (Z v U);subst L
 intro A Q E s _ q;show Θ q
open PySem PySem.Spec PyProof.Rows
open PySem PySem.Spec PySem.Calls PyProof.Rows PySem.W PySem.Builtin PySem.Builtin.ObjectAttr
abbrev uK:82#0:=[.type "ValueError",.type "Exception",.type "BaseException",.type "object"]
structure qM(K:Frag)(C R f:Addr)(name:Str):Prop where
 obj:∃nm q N bs hd sn sub ab col dd k0 k1 k2 k3 k5,K.lookup C=some (excClassObj nm q C N bs (.ref R::uK) hd sn sub ab col dd k0 k1 k2 k3 k5 "ValueError.__new__")
 init:findIn K (.ref C) "__init__"=86#(.ref f)
 fn:isFn K (.ref f)=true
 kp:keepIn K (.ref C)=true
 sa:findIn K (.ref C) "__setattr__"=86#(.builtin "object.__setattr__")
 tk:takerIn K C name=some none
 hd:hasDictIn K C=true
 no:findIn K (.ref C) name=some none
 rd:readsIn K R (.type "type")=true
 ri:findCls K (.ref R) (.type "type") "__init__"=some (.val (.builtin "ValueError.__init__"))
 rg:specialIn K (.ref R) "__getattribute__"=86#(.builtin "type.__getattribute__")
def u7(ea:Addr)(cls:Value)(W:129#0):HO:=.ext λh=>∃t T,h.get? ea=some { cls:=cls,dict:=W,data:=51#t,slots:=T}
def DZ{h:Heap}(q:∃t T,h.get? ea=some { cls:=cls,dict:=a,data:=51#t,slots:=T}):bL P w H h ea (u7 ea cls a) :=
 (bj q (let⟨_,_,e⟩:=q;⟨_,e⟩) (λR W=>fX λt T e k=>kZ t T (k _ e)))
def del(H:Hp)(a:Addr):Hp:=λb=>if b=a then none else H b
def zL:del H a a=none:=by unfold del;rw[ο rfl]
def lC(h:b≠a):del H a b=H b:=by unfold del;rw[ξ h]
def Qq(h:H a=some o):η H a o=H:=by
 funext b
 by_cases e:b=a
 .rw[e,aa,h]
 .rw[au e]
def Gk(O:OwnCls y R uK "ValueError.__new__" mg h):OwnTail h uK (.ref R::uK):=by
 show ki (λn N P q l=>ki λQ Z sub u a=>ki λp v m i H=>aS λk b w o f _=>?_) O.obj
 show .own w o f .base
section
variable {prog:Program}{w:World}{A:Around}{E:kj}{K:Frag}{C R f:Addr}{name:Str}
section
variable {hp:Heap}{gn:Array GenState}{dr:Drawn}{tk:Nat}{os:OsState}
def Qs{g:82#0}(X:K.In hp)(B:qM K C R f name)(T:OwnTail hp uK (.ref R::uK))(x:36#g.length)
 (G:∀h' e,Heap.MadeExcOf hp h' e (.ref C) g->wpAny 25#w A (call (.ref f) (.ref e::g)) (λr s'=>r = .none/\Q (.done (.ret (.ref e))) s') E ⟨h',gn,dr,tk,os⟩) :
 wpAny 25#w A (Builtin.«type.__call__» ⟨.ref C::g,[]⟩) Q E ⟨hp,gn,dr,tk,os⟩:=by
 have F:=m?;show ki (λP q N l J=>ki λZ sub u a p=>ki λv m i H k c=>?_) B.obj
 have j:=X _ _ c
 repeat (first | with_reducible show wpAny_madeBy_exc j ?_ | show 245#j | wp_step)
 show codeAny_call_builtin_code (Code.quiet_builtin _ F.quiet) (wpAny_check_new_subT F T j (codeAny_exc_new_subT F T j ?_ x));change wpAny _ _ _ _ _ ⟨_,_,_,_,_⟩;generalize S:(hp.push { cls:=.type "tuple",data:=.seq g.toArray}).push { cls:=.ref C,data:=51#hp.objs.size}=W;have t:∀b o,24#hp.get?->24#W.get?:=λb o e=>by rw[<-S];show W' _ (W' _ e)
 have d:K.In W:=X.keeps t;have O:=t _ _ j;have n:W.get? (hp.objs.size+1)=some { cls:=.ref C,data:=51#hp.objs.size}:=by rw[<-S];heap_get
 have h:(Value.ref C::Value.ref R::uK).contains (.ref C)=true:=by simp
 unfold isInstance
 repeat (first | show 245#n | (with_reducible show wpAny_isSubtype_exc O ?_;rw[h]) | wp_step)
 change wpAny _ _ (typeLookup (.ref C) _) _ _ ⟨_,_,_,_,_⟩;show Looks.here (s:=⟨W,gn,dr,tk,os⟩) (looks_findIn d B.init) ?_;show t! (aQ (Looks.here (s:=⟨W,gn,dr,tk,os⟩) (bind_fn d (.ref (hp.objs.size+1)) (k_.mp B.fn)) ?_));show aQ (c! (G W (hp.objs.size+1) ⟨t,adF (Q! _),hp.objs.size,n,adF (Ξ _),?_⟩) (λr s' z=>?_) λ_ _ z=>z)
 .rw[<-S];show W' _ (Heap.get?_push_at rx rx)
 .obtain⟨rfl,z⟩:=z
  wp_walk
  show z
def Qt{g:82#0}(X:K.In hp)(B:qM K C R f name)(T:OwnTail hp uK (.ref R::uK))(d:36#g.length)
 (G:∀h' e,Heap.MadeExcOf hp h' e (.ref C) g->wpAny 25#w (A.under (.builtin "type.__call__" ⟨.ref C::g,[]⟩)) (call (.ref f) (.ref e::g)) (λr s'=>r = .none/\Q (.ref e) s') E ⟨h',gn,dr,tk,os⟩) :
 wpAny 25#w A (call (.ref C) g) Q E ⟨hp,gn,dr,tk,os⟩:=by
 show ki (λP q N l J=>ki λZ sub u a p=>ki λv m i H k c=>?_) B.obj
 have b:=X _ _ c;have h:=tc_lookup;have D:=tc_bind (.ref C);have j:(⟨hp,gn,dr,tk,os⟩:Shared).TypeIs (.ref C) "type":=af _ b rfl;show wpAny_call (codeAny_of_tree ?_);change wpAny _ _ (callAny (.ref C) _) _ _ ⟨_,_,_,_,_⟩
 repeat (any_goals (first | assumption | wp_step | show 245#b))
 show 46#(codeAny_call_builtin_at (Code.quiet_builtin _ (10#0)) entry_typeCall (wpAny_check_type_call_sub b (Qs X B T d G)))
end
def Jk(B:qM K C R f name)(j:A.handled=none)
 (h:wpAny M A x (λv F=>∃e t W T,v = .ref e/\K.In F.heap/\F.heap.get? e=some { cls:=.ref C,dict:=W,data:=51#t,slots:=T}/\E (.ref e) F) E s) :
 187#(raiseStmt env (some x) none):=by
 show ki (λP q N l J=>ki λZ sub u a p=>ki λy m i H k c=>?_) B.obj
 have d:(Value.ref C::Value.ref R::uK).contains (.type "BaseException")=true:=rfl;unfold raiseStmt;show aQ (c! h (λv F g=>?_) λ_ _ z=>z)
 revert g;show fX λe t=>aS λW T L X n b=>?_;subst L
 have w:=X _ _ c;obtain⟨r,o,D,G,os⟩:=F
 repeat (first | (with_reducible show wpAny_isSubtype_exc w ?_;rw[d]) | show 245#n | show 245#w | wp_step)
 show wpAny_raiseNew_none j b
end
section
variable {X:Cx}{pq:cN}{σ:St}{H:Hp}{s:Shared}
def θ.S3(I:5#H)(h:H ea=some (.ext d))(h0:166#ea=none):5#(del H ea):=by
 have G:∀b u,H b=some u->(∀a,u≠.ext a)->b≠ea:=λb u e z y=>by
  subst y;rw[h]at e;show z d (26#e).symm
 have g:∀b,H b=none->del H ea b=none:=λb e=>by
  by_cases z:b=ea
  .rw[z];show zL
  .rw[lC z];show e
 show⟨I.ok,I.os,I.bare,⟨I.base.keep,I.base.slot,λb W e n O=>g b (I.base.free b W e n O),I.base.there,λb f e=>?_,λb W u e=>?_,λb Z e=>?_⟩,I.loc,I.cell,g _ I.free,λx c e=>g _ (I.iU x c e),λp t=>?_,λb u e=>?_,I.len⟩
 .have q:=I.base.tups b f e;rw[lC (G b _ q (λa z=>by cases z))]
  show q
 .have q:=I.base.l5 b W u e;rw[lC (G b _ q (λa z=>by cases z))]
  show q
 .obtain⟨E,q⟩:=I.base.qj b Z e;show⟨E,by rw[lC (G b _ q (λa z=>by cases z))];show q⟩
 .show dW (λD k N=>?_) (I.pin p t)
  show bj D (g _ k) N
 .have U:b≠ea:=λz=>by rw[z,zL]at e;cases e
  rw[lC U]at e;show(I.hok b u e).stay (λ_ _ _ q=>q) (λc q=>by rw[lC (G c _ q (λa z=>by cases z))];show q) λc f q=>by rw[lC (G c _ q (λa z=>by cases z))];show q
end
def S4(C:Addr)(sp:Sp)(E:XK)(t:TA):TS:=λ_ M H=>t M H λG S=>36#G.length/\∀x,S x=none->
 sp (.ref x::G) (η S x (u7 x (.ref C) none)) (λv Z=>v = .eM/\∃W,Z x=some (u7 x (.ref C) W)/\E (.ref C) W (del Z x)) λ_ _ _=>False
section
variable {X:Cx}{E:XK}{C R f:Addr}{name:Str}
def CV{k:Nat}{g:FuncData}{Z:List Str}{sp:Sp}{x y:Str}{e:Expr}{l:312#0}{i:TA}{o c p:Pos}(O:Out X E)(L:X.calm=true)(m:Gl X x)(d:X.mg x=some (.ref C))(a:qM X.K C R f name)
 (j:∀h,X.K.In h->73#X.mg->OwnCls y R uK "ValueError.__new__" X.mg h) (G:i5 X.prog X.w X.K X.mg X.base uQ k f g Z sp) (P:fF (k+1) X.A) (U:Binds X.K g Z []) (W:PA X (e::l) i)
 (n:15#(e::l)=33#e::15#l:=by rfl) (b:(backTo c (15#l)).any (·.1)=false:=by rfl) (J:198#("__debug__":Str):=by decide) :
 PS X (.Raise (some (.Call (.Name x o) (e::l) [] c)) none p) (S4 C sp E i):=by
 show 168;rw[arm_exec_Raise];show aQ (wpAny_standAt (Jk a 276#0 ?_));show aQ (c! (248#(oh I m d (_H (h₀:=X.base) I.ok.mod.Uj a.kp (eg (275#c) λg F=>aS λu S T r i q=>⟨T.qp,?_⟩) n b) J)) (λv k z=>aQ (wpAny_standAt (Θ z))) λ_ _ z=>z)
 obtain⟨b,k,h,d,os⟩:=F;show Qt T.qp a (Gk (j _ T.qp (T.mod.glob.keeps T.bk))) (by change g.length<=_;rw[<-r.length];show i) λN x c=>?_
 have Q:b.get? x=none:=c.new;have n:S x=none:=by
  cases m:S x with
  | none=>rfl
  | some z =>
    obtain⟨a,e⟩:=(T.hok x z m).thing;rw[show b.get? x=some a from e]at Q
    cases Q
 have l:166#x=none:=by
  cases m:166#x with
  | none=>rfl
  | some o =>
    obtain⟨a,e⟩:=T.base.there x o m (by rw[O.ex];simp)
    rw[show b.get? x=some a from e]at Q
    cases Q
 show aG (λt j _ _=>?_) c.there
 have i:θ X A M S ⟨N,k,h,d,os⟩:=T.kept (t':=d) c.keeps;have B:θ X A M (η S x (u7 x (.ref C) none)) ⟨N,k,h,d,os⟩:=by
  show i.Ph n l (λz=>?_) (λy c e z=>?_) (λp a z=>?_) (DZ (kZ t (#[]) j))
  .show aj (λm Y _=>?_) T.loc;obtain⟨o,_,_,j,_⟩:=Y
   rw[<-z,show b.get? x=none from Q]at j
   cases j
  .show br (λv o j _=>?_) (T.cell y c e)
   rw[z,show b.get? x=none from Q]at j
   cases j
  .have q:=(T.pin p a).1;rw[z,show b.get? x=none from Q]at q
   cases q
 have i:υ (V.ref x::u) (Value.ref x::g):=.cons rx r;have b:=q x n;have a:48#(Value.ref x::g++[])=Z.length:=by
  have e:=i.length;rw[G.len _ _ _ _ b]at e;rw[H?];show e.symm
 have o:=U ⟨N,k,h,d,os⟩ (Value.ref x::g) B.qp a;rw[H?]at o;show wpAny_call (codeAny_mono (G.run _ X.stack _ _ ⟨Value.ref x::g,[]⟩ (Value.ref x::g) _ _ _ (P.make C g []) (B.U6.make C g []) o i b) λr p z=>?_)
 cases r with
 | error e=>show 213#z
 | ok w =>
   cases w with
   | ret u =>
     show br (λv Y c=>bG λe d b a m=>?_) (B.after z)
     subst d;obtain⟨⟨g,d,j⟩,_⟩:=(show bL X.prog X.w Y p.heap x (u7 x (.ref C) b) from c.hok x _ a)
     show cJ e x (bC g b d rx c.qp j ?_);show O.Xl (c.S3 a l) j rx rx rx rx zL l 234#0 m
   | next=>show 213#z
   | brk=>show 213#z
   | cont=>show 213#z
end
def tXI(C:Addr)(t:TA):TE:=λM H Q=>t M H λG S=>∃x W k,G = .ref x::k/\36#k.length/\S x=some (u7 x (.ref C) W)/\∀Z,Z=η S x (u7 x (.ref C) W)->Q .eM Z
section
variable {X:Cx}{C R f:Addr}{name:Str}
def Gm{y z:Str}{e:Expr}{l:312#0}{t:TA}{r a j:Pos}{pl:Sem Bool}(B:qM X.K C R f name)(c:∀h,X.K.In h->73#X.mg->OwnCls z R uK "ValueError.__new__" X.mg h)(b:Gl X y)(d:X.mg y=303#0)(W:PA X (e::l) t)
 (g:15#(e::l)=33#e::15#l:=by rfl) (m:(backTo j (15#l)).any (·.1)=false:=by rfl) (J:(y==("__debug__":Str))=false:=by decide)
 (i:eval (.Call (.Attribute (.Name y r) "__init__" a) (e::l) [] j) X.env=(do
  let ov←eval (.Name y r) X.env
  standAt a.atName
  let(f,fst1)←holding [ov] (getMethod ov "__init__" pl)
  callWith j f fst1 (backTo j (15#(e::l))) (backToKw j (keywordEach [] X.env))):=by rfl) :
 PE X (.Call (.Attribute (.Name y r) "__init__" a) (e::l) [] j) (tXI C t):=by
 show 68;show PySem.W.methodCall_KW (pl:=pl) (oh I b d (method_cls I.qp B.rg (cls_value I.qp B.rd B.ri (by rfl) ?_)) J) i
 have It:θ X A M H 110#0:=I.tok _
 have Y:=W j A _ M H _ It h;rw[g]at Y ⊢;show Calls.callWith_builtin (by change(false || (backTo j (15#l)).any (·.1))=false;rw[m];rfl) (Calls.evalArgs_plain (eg Y λg d=>dX λG=>dO λZ E i x=>aS λo k a h O q=>?_))
 subst a;obtain⟨L,S,rfl,b,a⟩:∃L S,g=L::S/\χ (.ref x) L/\υ k S:=by
  cases i with
  | cons b a=>show aq _ _ rfl b a
 cases(show L=Value.ref x from b)
 have F:=m?;have T:=Gk (c _ E.qp (E.mod.glob.keeps E.bk));show ki (λP n N g J=>ki λr sub b i p=>ki λv j k l m c=>?_) B.obj
 obtain⟨⟨b,g,n⟩,_⟩:=(show bL X.prog X.w Z d.heap x (u7 x (.ref C) o) from E.hok x _ O)
 have w:=E.qp _ _ c;obtain⟨c,o,D,b,os⟩:=d;have m:36#S.length:=by rw[<-a.length];show h
 show wpAny_call (codeAny_call_builtin F.init.plain F.initEntry (wpAny_check_init_subT F T w n rfl ?_));have a:=W' (h:=c) { cls:=.type "tuple",data:=.seq S.toArray} n
 wp_walk
 show aq .eM _ ?_ rx (q _ rx);have b:c.objs.size≠x:=X! (J' n);show θ.write (e:=x) E (by rw[O];show True.intro) (.inl rx) (λb u U e=>?_) ?_ ?_
 .rw[n? _ _ (e! U)];show W' _ e
 .show⟨_,D? _ a rfl⟩
 .show DZ (kZ c.objs.size g (D? _ a rx))
end
def XE(C:Addr)(z g:TE)(f:Str):TS:=λD M H=>g M H λy S=>z M S λx Z=>∃a,x = .ref a/\Z a=some (u7 a (.ref C) none)/\∀d,Z d=none->d≠a->D.nx M (η (η Z a (u7 a (.ref C) (some d))) d (.xd [(f,y)]))
section
variable {prog:Program}{w:World}{A:Around}{E:kj}{K:Frag}{C R f:Addr}{name:Str}
def MT{s:Shared}(X:K.In s.heap)(B:qM K C R f name)
 (O:s.heap.get? x=some { cls:=.ref C,dict:=none,data:=51#t,slots:=T})
 (G:∀h' F,h'.get? x=some { cls:=.ref C,dict:=22#some,data:=51#t,slots:=T}->h'.Ns1 s.heap.objs.size (λy=>if y=name then some v else none)->
  (∀b o,b≠x->21#o->24#h'.get?)->Q () { s with heap:=h',toks:=F}):60#(setAttr (.ref x) name v):=by
 have I:InstAt s.heap x { cls:=.ref C,dict:=none,data:=51#t,slots:=T} C none:=⟨O,rfl,rfl,trivial⟩;have e:=PySem.F.store_ValueError;have g:=PySem.F.store_object;show ki (λj k N a J=>ki λZ sub u d p=>ki λc l i n q h=>?_) B.obj
 show set_plain X I B.sa ?_;have c:clsIn K C=some { name:=j,bases:=a,mro:=.ref C :: .ref R::uK,ns:=N,qualname:=k,hasDict:=J,slotNames:=Z,subclasses:=sub,abstract:=u,collection:=d,hasDel:=false}:=by
  unfold clsIn;rw[h]
 have a:J=true:=by
  have z:=B.hd;unfold hasDictIn at z;rw[c]at z;show z
 subst a;have k:=I.type (M:=model prog w);have d:Looks 25#w s.heap (mroOf (.ref C)) (.ref C :: .ref R::uK):=(looks_clsIn X c).andThen .now;have D:Looks 25#w s.heap (isInstance (.ref x) (.type "object")) true:=k.andThen (looks_mroIn X (by unfold mroIn;rw[c];rfl))
 show aj (λW S P=>?_) (Option.bind_eq_some_iff.mp B.tk)
 have Y:Looks 25#w s.heap (storeTaker? W) none:=by
  cases W with
  | none=>show .now
  | some a =>
    show aj (λb U z=>?_) (vN.mp P)
    show(looks_takesIn X U).andThen ?_;cases b with
    | true=>cases z
    | false=>show .now
 show codeAny_call_builtin g.slot.plain g.entry (@check_slot 25#w _ _ 110#0 "object.__setattr__" "object" "__setattr__" (.ref x) [.str name s.toks,v] [] _ g.kind g.split D (g.args (.ref x) (.str name s.toks) v) ?_)
 rw[osa_eq,refuse_eq];show aQ (aQ (Looks.here (s:=110#0) k (aQ (Looks.here (s:=110#0) d ?_))))
 rw[refuseLoop_ref,refuseLoop_ref,e.passes];show Θ (aQ (Looks.here (s:=110#0) k (aQ (Looks.here (s:=110#0) (looks_findIn X S) (aQ (Looks.here (s:=110#0) Y ?_))))))
 show aQ (Θ (aQ (aQ (wpAny_loadPart O (aQ (Looks.here (s:=110#0) (looks_clsIn X c) ?_))))))
 have U:(174#{ cls:=.type "dict",data:=.dict #[]}).get? x=some { cls:=.ref C,dict:=none,data:=51#t,slots:=T}:=W' _ O;have q:x≠s.heap.objs.size:=q! (J' O);show aQ (wpAny_alloc' (aQ (wpAny_update' U (Θ ?_))));generalize z:((174#{ cls:=.type "dict",data:=.dict #[]}).update x λo=>{ o with dict:=22#some})=h2
 have H:22#h2.get?=some { cls:=.type "dict",data:=.dict #[]}:=by
  rw[<-z];show(Heap.get?_update_ne _ _ _ _ q.symm).trans (Heap.get?_push_at rx rx)
 have h:h2.get? x=some { cls:=.ref C,dict:=22#some,data:=51#t,slots:=T}:=by
  rw[<-z];show D? _ U rfl
 have r:∀b o,b≠x->21#o->24#h2.get?:=λb o n e=>by
  rw[<-z];show(Heap.get?_update_ne _ _ _ _ n).trans (W' _ e)
 have c:h2.Ns s.heap.objs.size (λ_=>none):=bC _ (#[]) _ H rx (λe a=>absurd a 23#0) λ_=>rfl
 show 50#(storeInDict s.heap.objs.size (.str name s.toks) name v);show aQ (m:=newKeyGuard ..) (Θ (aQ (wpAny_nsSet1 (Heap.Ns1.of_empty c) λh' a l=>?_)))
 have c:∃o,22#h'.get?=some o/\o.data.pastItsLine=none:=by
  show bz (λo _ _ j J L=>?_) (a.count (Within.cons name v Within.nil))
  rw[y!,f_]at L;show af o j (by rw[J];show pastItsLine_dict (Ω L (by rw[sizeLine_eq];lia)))
 revert c;show aj λo j L=>?_
 show aQ (wpAny_lookBehind j L ?_);show Θ (G h' _ ((l.2 x q).trans h) a λb o n e=>?_)
 show(l.2 b (q! (J' e))).trans (r b o n e)
end
section
variable {X:Cx}{C R f:Addr}{name:Str}{o value:Expr}{pos pos' : Pos}{ta tv:TE}
def LO(w:qM X.K C R f name)(W:PE X o ta)(Y:PE X value tv)(l:swapsWith value (some (.Attribute o name pos')) pos.line X.env=pure false:=by rfl):PS X (.Assign [.Attribute o name pos'] value pos) (XE C ta tv name):=by
 show 168;show plainObj_wpAny_Assign_Attribute (eg 34#Y λu F=>aA λy S T D q=>eg (W A F M S _ T q) λL N=>fX λx Z=>cE λE B a J O P=>?_) l
 subst J;cases(show L=194#0 from B)
 obtain⟨⟨t,g,n⟩,_⟩:=(show bL X.prog X.w Z N.heap a (u7 a (.ref C) none) from E.hok a _ O)
 show MT E.qp w n λQ b d c r=>?_
 have i:211#Z=none:=E.hok.fresh (Ξ _);have G:N.heap.objs.size≠a:=X! (J' n);have k:θ X A M (η Z a (u7 a (.ref C) (211#some))) { N with heap:=Q,toks:=b} :=
  θ.write (e:=a) E (by rw[O];show True.intro) (.inl rx) (λb u U e=>r b u U e) ⟨_,d⟩ (DZ (kZ t g d))
 show aV M _ (k.Ph (ea:=N.heap.objs.size) (o:=.xd [(name,y)]) (by rw[au G];show i) ?_ ?_ ?_ ?_ (af _ c (λg=>?_))) (P _ i G)
 .cases m:166#N.heap.objs.size with
  | none=>rfl
  | some b=>show 206#(g! (J' m) E.sz)
 .show X! E.lt
 .intro p c e z;show br (λv b j _=>?_) (E.cell p c e)
  rw[z]at j;show 206#(J' j)
 .intro p b z;have q:=(E.pin p b).1;rw[z]at q;show 206#(J' q)
 .change sU (List.lookup g [(name,y)]) (if g=name then some u else none)
  by_cases z:g=name
  .have U:(g==name)=true:=k_.mpr z;rw[ο z];simp only[List.lookup,U];show D
  .have U:(g==name)=false:=172#z;rw[ξ z];simp only[List.lookup,U];show True.intro
end
section
variable {prog:Program}{w:World}{A:Around}{E:kj}{K:Frag}{C R f x d:Addr}{name:Str}{s:Shared}
def S5(X:K.In s.heap)(i:tO K C)(B:qM K C R f name)(O:s.heap.get? x=some g)(L:g.cls = .ref C)(J:g.data = .fields G)(u:g.dict=some d)
 (Z:s.heap.Ns1 d m) (U:m name=some v) (N:handedIn v=true) (q:Q v 110#0):60#(getAttr (.ref x) name b):=by
 obtain⟨t,o,D,z,os⟩:=s;show aj (λW j H=>?_) (Cp Z)
 have I:InstAt t x g C (some W):=by
  show⟨O,L,?_,?_⟩
  .unfold notCls;rw[J]
  .rw[u];show j
 have k:=I.type (M:=model prog w);have n:=looks_findIn (M:=model prog w) X i.ga;have Y:=looks_findIn (M:=model prog w) X i.gh;have e:Looks 25#w t (isInstance (.ref x) (.type "BaseException")) true:=k.andThen (looks_mroIn (M:=model prog w) X i.mb);have l:Looks 25#w t (find (.ref x) (.ref C) name) (.value v):=by
  show aj (λcd c h=>?_) (any_some B.hd)
  have p:=looks_own (M:=model prog w) (name:=name) (r:=some v) X I c (by unfold PySem.W.ownOf;rw[ο h];show(H name).trans (by rw[U]))
  have y:Looks 25#w t (ownThenClass (.ref x) name none none) (.value v):=p.andThen (Looks.tag .now);show(looks_findIn X B.no).andThen (Looks.andThen (a:=none) .now (Looks.andThen (a:=none) .now y))
 unfold getAttr getAttrBy;show aQ (wpAny_mkText (t! (aQ (k.at (aQ (n.at ?_))))));show 50#(getAttrByItsOwn (.ref x) (.str name z) (.ref C) (.builtin "BaseException.__getattribute__") true b);unfold getAttrByItsOwn;show aQ (Looks.at (show Looks 25#w t (hookBefore (.ref C)) none from Y) (296#(t! ?_)))
 unfold callGetattribute;rw[ξ (by rw[show onTheHeap (Value.builtin "BaseException.__getattribute__")=false from rfl,M_];decide)]
 unfold boundAndCalled;rw[F.attrBase_ValueError.ga.bind (.ref x)];show aQ (Θ ?_);show 50#(call (.builtin "BaseException.__getattribute__") [.ref x,.str name z]);show wpAny_call (codeAny_call_builtin F.attrBase_ValueError.ga.plain F.entry_bexc_ga (zh e ?_));show aQ (Θ (aQ (Θ (aQ (k.at (aQ (l.at (Θ ?_))))))));show 50#(handedOut v);rw[handedOut_of N];show Θ q
end
def XF(K:bY)(z:TE)(f:Str):TE:=λM H Q=>z M H λx S=>∃a C R g d N v,x = .ref a/\S a=some (qB a (.ref C) (some d))/\S d=some (.xd N)/\N.lookup f=some v/\tO K C/\qM K C R g f/\Q v S
def VI(K:Frag):81#(List V):=λf H Q=>∃x c D W u b,f=[.ref x,c]/\Vj c=some u/\H x=some (qB x (.ref D) W)/\tO K D/\kitOne K (.ref D) u=some b/\Q (.bl b) H
section
variable {X:Cx}
def LP(K:bY){e:Expr}{f:Str}{j:Pos}{z:TE}(n:PE X e z)(U:attributeBase e f X.env 152#e=eval e X.env:=by rfl)(l:X.K=K:=by rfl):PE X (.Attribute e f j) (XF K z f):=by
 subst l;show 68;show Sj U (eg 34#n λu F=>aA λx S T B=>sX λa C R g=>cK λd N v w=>dI λW J y i k q=>?_)
 subst w;cases(show u=194#0 from B)
 obtain⟨⟨L,G,p,D,t,_,c⟩,_⟩:=(show bL X.prog X.w S F.heap a (qB a (.ref C) (some d)) from T.hok a _ W)
 show aj (λm Z r=>?_) (show bL X.prog X.w S F.heap d (.xd N) from T.hok d _ J)
 show aj (λu E b=>?_) (sU.some_of (v:=v) (o:=m f) (by rw[<-y];show r f))
 show S5 T.qp i k p D t c Z E (Mn b) (aq v S (T.tok _) b q)
def nV(K:Frag)(l:X.K=K:=by rfl):fW X (.builtin "isinstance") (VI K):=by
 subst l;intro A s M H f g Q I r h
 revert h;show dX λx=>ki λc D W u b=>dI λk d U C e q=>?_;subst k
 obtain⟨L,v,rfl,J,i⟩:∃L v,g=[L,v]/\χ (.ref x) L/\χ c v:=by
  cases r with
  | cons J i =>
    cases i with
    | cons i a =>
      cases a;show aq _ _ rx J i
 cases Lq d i;cases(show L=Value.ref x from J)
 obtain⟨⟨a,G,j,m,_⟩,_⟩:=(show bL X.prog X.w H s.heap x (qB x (.ref D) W) from I.hok x _ U)
 show kia_one (Pj C) I.qp (af a j m) e 96#0 λF=>aq (.bl b) H (I.tok F) rx q
end
end L2
namespace RM
variable {N:Net}
inductive Wn(N:Net)(fM:Nat):List Nat->Nat->List Nat->Nat->Prop
 | start {t:Nat} (ht:((31#N.n).filter λk=>fM.testBit k)[0]?=some t):Wn N fM [] (N.a t) [] fM
 | next {pre ks:List Nat} {v left t:Nat} (h:239#Wn) (hv:v∉pre) (ht:(N.oN left v)[0]?=some t):Wn N fM (pre++[v]) (N.VG t v) (ks++[t]) (left^^^2^t)
section
variable {fM left v:Nat}{pre ks:List Nat}
def Qu(n:fM<2^N.n)(u:N.iO fM)(h:239#Wn):239#Way:=by
 induction h with
 | start d=>show Way.start n u (J!.mp (iu d)).2
 | next h a d E =>
   show dW (λ_ U J=>?_) (tU.mp (iu d))
   show E.go a U (Qi J)
def XG(n:fM<2^N.n)(u:N.iO fM)(h:239#Wn)(a:v∉pre):∃t,(N.oN left v)[0]?=some t:=by
 have w:=Qu n u h;show aj (λt U J=>?_) (w.on a)
 have d:t∈N.oN left v:=tU.mpr (bj (g9 w.DW U) U J);cases e:N.oN left v with
 | nil=>rw[e]at d;cases d
 | cons x r=>show⟨x,rfl⟩
end
section
variable {m left:Nat}{rs:List Nat}
def Gn{r left:Nat}(h:∀k,320#0=true->261#k=true)(k:Nat):294#(left^^^r)=(261#k && ! 320#0):=by
 rw[p!];cases J:320#0 with
 | false=>simp
 | true=>rw[h k J];rfl
end
inductive Sp(B:List Nat):Nat->Prop
 | zero:Sp B 0
 | add {x b:Nat} (h:Sp B x) (hb:b∈B):Sp B (x^^^b)
section
variable {B C:List Nat}{x y b:Nat}
def Sp.mem(h:b∈B):Sp B b:=by
 have:=Sp.add .zero h;rw[w?]at this;show this
def Sp.xor(h:Sp B x)(h' : Sp B y):Sp B (x^^^y):=by
 induction h' with
 | zero=>rw[u?];show h
 | add _ U E=>rw[<-i?];show .add E U
def Sp.mono(h:Sp B x)(L:∀b∈B,Sp C b):Sp C x:=by
 induction h with
 | zero=>show .zero
 | add _ U E=>show E.xor (L _ U)
def wo(x b:Nat):x^^^b^^^b=x:=by rw[i?,j_,u?]
def Sp.Gp:Sp (b::B) x↔Sp B x\/Sp B (x^^^b):=by
 constructor
 .intro h
  induction h with
  | zero=>show .inl .zero
  | add h L E =>
    rename_i x c
    rcases Z'.mp L with e|e
    .subst e;rcases E with E|E
     .show .inr (by rw[wo];show E)
     .show .inl E
    .rcases E with E|E
     .show .inl (.add E e)
     .show .inr (by rw[i?,ad2 c,<-i?];show .add E e)
 .rintro(h|h)
  .show h.mono λc L=>.mem (sY _ L)
  .have W:Sp (b::B) (x^^^b):=h.mono λc L=>.mem (sY _ L)
   have:=W.add (b:=b) h!;rw[wo]at this;show this
def Sp.lt(h:Sp B x)(hz:∀b∈B,b<2^n):x<2^n:=by
 induction h with
 | zero=>show I? n
 | add _ U E=>show K? E (hz _ U)
end
open Ring (xorL xorL_cons maskOf)
variable {N:Net}
def MU:N.dR.Nodup:=adJ _ List.nodup_range
def CW(L:c<N.n)(Z:N.kH c=false):N.Ring (N.ring c):=by
 show bj (λz=>?_) (se L) λq Y u=>?_
 .have h:=zq Z;rw[z]at h;simp at h
 .have b:q<2^N.n:=gG λk B=>g9 (sf L) (Y k B)
  cases j:q.testBit c with
  | true =>
    show .inr (PL b (sf L) u (se L) λd J a=>?_)
    rw[tT Z a]
    by_cases e:c=d
    .subst e;simp[j]
    .rw[fV e];cases i:q.testBit d with
     | false=>rfl
     | true =>
       have:=Y d i;rw[tT Z a,fV e]at this;cases this
  | false =>
    show .inl (kI (λk B=>?_) u)
    rcases qI (Y k B) with e|e
    .subst e;rw[j]at B;cases B
    .show e
end RM
namespace L2
open PySem PySem.Spec PyProof.Rows
theorem CY:∀{ss} {its},υ (ss.map V.str) its->∃l:176#Tok,its=strValues l/\l.map (·.1)=ss
 | [],_,.nil=>af [] rfl rfl
 | x::ss,_,.cons r rr=>by
   show 257;show aj (λl L h=>?_) (CY rr);subst L
   show af ((x,t)::l) rx (by rw[w!,h])
theorem CZ:∀l,υ ((l.map (·.1)).map V.str) (strValues l)
 | []=>.nil
 | (x,t)::l=>.cons ⟨t,rfl⟩ (CZ l)
section
variable {X:Cx}
def rJoin(K:bY):V->81#(List V):=λx G H Q=>∃b p l,x = .str b/\G=[.ref p]/\aK K H p (l.map V.str)/\PySem.JoinOk b l=true/\Q (.str (Txt.join b l)) H
def oQ(K:bY)(a:X.K=K:=by rfl):W8 X "str.join" (rJoin K):=by
 subst a;intro A s M H x f v n Q I B R h
 revert h;show bV λb p j e i Y c q=>?_;subst e i
 show 71;show aj (λu o d=>?_) (vals1 R);subst o
 cases d;show 120#(λg D P m=>?_)
 show aj (λl O C=>?_) (CY D);subst O
 show SC.join P.isList C c λZ k=>aq (.str _) H (I.tok _) ⟨Z,rfl⟩ q
def VJ:V->81#(List V):=λx G H Q=>∃z b:Str,x = .str z/\G=[.str b]/\(b.length==0)=false/\36#z.length/\36#48#(Txt.split z b)/\∀D,H D=none->Q (.ref D) (η H D 66#((Txt.split z b).map V.str))
def θ.strs{A:cN}{M:St}{l:176#Tok}(I:282#0)(hz:36#l.length):
 θ X A M (η H s.heap.objs.size (.lst ((l.map (·.1)).map V.str))) { s with toks:=k,heap:=174#{ cls:=.type "list",data:=.seq (strValues l).toArray}}:=by
 show I.laid (t':=k) (λb u e=>W' _ e) (Ξ _) (aR (by rw[Δ,Δ];show hz) (strValues l) 0 (CZ l) (v! _ rx))
def u9:W8 X "str.split" VJ:=by
 intro A s M H x f v g Q I B o h
 revert h;show fX λz b=>dI λU j i m y q=>?_;subst U j
 show 71;show aj (λu n=>dX λZ O=>?_) (vals1 o);subst n O
 have a:=270#(22#Ξ);have c:Txt.split z b=[z]->∀k,EP X A M Q (22#.ref) { s with toks:=k,heap:=174#{ cls:=.type "list",data:=.seq (strValues [(z,t)]).toArray}}:=λe k =>
  (aq (.ref _) _ (I.strs (l:=[(z,t)]) (by change 1<=sizeLine;decide)) rx (by have r:=q _ a;rw[e]at r;show r))
 by_cases R:(11#(z.length<b.length) || 11#(Builtin.Str.strKind z<Builtin.Str.strKind b))=true
 .show call_meets F.slot_str_split (typeIs_str _ _ _) F.entry_str_split (F.args_str_split_2 _ _) (meets_str_split_cannot_occur z b t Z R) (c (ο R) _)
 have R:=W_.mpr R
 by_cases W:(Builtin.Str.occurrences z b 0 z.length (z.length+1)).isEmpty=true
 .show call_meets F.slot_str_split (typeIs_str _ _ _) F.entry_str_split (F.args_str_split_2 _ _) (meets_str_split_not_found z b t Z R i W) (c ((ξ (ne_true_of_eq_false R)).trans (ο W)) _)
 have W:=W_.mpr W;have e:Txt.split z b=256#0:=(ξ (ne_true_of_eq_false R)).trans (ξ (ne_true_of_eq_false W));rw[e]at y q;show call_meets F.slot_str_split (typeIs_str _ _ _) F.entry_str_split (F.args_str_split_2 _ _) (meets_str_split_sep z b t Z R i W m y) ?_;change wants _ _ _ { s with toks:=_,heap:=174#{ cls:=.type "list",data:=.seq (strsFrom s.toks (256#0)).toArray}}
 rw[strsFrom_eq];have d:=numbered_texts s.toks (256#0);show aq (.ref _) _ (I.strs (l:=numbered s.toks _) ?_) rx ?_
 .have:=k! List.length d;rw[Δ]at this;rw[this];show y
 .rw[d];show q _ a
def tD:fW X (.type "int") (λxs H Q=>∃x n,xs=[.str x]/\PySem.intText? x=some n/\x.length<=640/\Q (.int n) H):=by
 show 290
 revert h;show aS λx n w S C q=>?_;subst w
 show 218#(λu o=>dX λt L=>?_);subst o L
 show PySem.W.KIN.call_text S C (113#(.int _))
theorem LQ:∀{bs:List Bool} {its},υ (bs.map V.bl) its->its=bs.map Value.bool
 | [],_,.nil=>rfl
 | b::bs,_,.cons r rr=>by
   cases r;rw[LQ rr];rfl
def Jl:∀bs:List Bool,((31#bs.length).all λi=>(bs[i]?).getD true)=bs.all id:=λbs=>by
 rw[T!,l?,l?]
 constructor
 .intro h b U;obtain⟨i,Y,e⟩:=List.getElem_of_mem U;have:=h i (z!.mpr Y);rw[A! Y,e]at this;show this
 .intro h i Y;have Y:=z!.mp Y;rw[A! Y];show h _ (X? Y)
def S6(K:bY)(L:X.calm=true)(l:X.K=K:=by rfl):fW X (.builtin "all") (λxs H Q=>∃(p:Addr) (bs:List Bool),xs=[.ref p]/\aK K H p (bs.map V.bl)/\Q (.bl (bs.all id)) H):=by
 subst l;intro k s M H xs w Q I r h
 revert h;show aA λp bs U Y q=>?_;subst U
 show 218#(λu f j=>?_);subst f
 cases j;show 120#(λg D P m=>?_)
 obtain rfl:=LQ D;have n:226#p:=by show aj (λ_ e _=>?_) P.isList;show J' e
 show call_all_walk (wpAny_pyIter_list P.isList (iJ _ [_,p] [_] (bH _ _ _ (λi=>(bs[i]?).getD true) rx (Walks.list (A:=X.A.in1) 276#0 _ p (q! n) _) ⟨av _ (v! _ rx) rx rfl,P.isList.push _⟩ (λi v t c a S O=>?_) λN F B=>?_)))
 .have S:(bs.map Value.bool)[i]?=some v:=by simpa using S
  rw[j!]at S;show aj (λb e y=>?_) (vN.mp S);subst y
  simp only[e,Option.getD_some]at O;show wpAny_truthy_bool O
 .have z:(bs.map Value.bool).toArray.size=bs.length:=by simp
  rw[z,Jl];show aq (.bl _) H (I.kept λb o e=>B b o (λd=>?_) (W' _ e)) rx q
  rw[a!.mp d]at e;show V! _ (J' e)
end
noncomputable def LR(x:Str)(i:Nat):V:=.str ⟨#[x.cps.getD i 0]⟩
def ZN(x:Str):It:=⟨λi _=>i<x.length,λi H v Y=>Y=H/\v=LR x i,λi _=>x.length<=i⟩
def Qv{K:bY}(x:Str)(it:Addr)(n:String)(t:Tok)(S:n="str_ascii_iterator"\/n="str_iterator"):Turn P w K tg (ZN x) [it] it (λi h=>h.IsStrIter it n x t i) where
 mem:=by simp
 obj:=λi h st b U=>by
  have e:b=it:=102#0
  subst e
  revert st;show aG λo e c d=>?_
  show af o e λv z=>by rw[d]at z;cases z
 keep:=λi h N st k=>let⟨o,ho,r⟩:=st;(af o (k it 23#0 o ho) r)
 item:=by
  intro X f j l L i A s M H E I Z st y;subst f j l;show 274#(λJ R u Q B z=>?_)
  have y:i<x.cps.size:=y;have O:x.cps[i]?=some (x.cps.getD i 0):=by simp[y]
  rcases S with rfl|rfl
  .show wpAny_pyNext_ascii_item st O λN q D=>?_
   have T:θ X A M H { s with heap:=N,toks:=s.toks+1}:=I.turned (λb o U e=>(D.2 b U).trans e) J R Q B z
   show aG (λo e c d=>?_) (id q)
   show af _ rx (Cn (s:={ s with heap:=N,toks:=s.toks+1}) e c d 3#0 (dU (LR x i) H T 234#0 ⟨rfl,rfl⟩ q (λb U=>(Z b U).1)))
  .show wpAny_pyNext_wide_item st O λN q D=>?_
   have T:θ X A M H { s with heap:=N,toks:=s.toks+1}:=I.turned (λb o U e=>(D.2 b U).trans e) J R Q B z
   show aG (λo e c d=>?_) (id q)
   show af _ rx (Cn (s:={ s with heap:=N,toks:=s.toks+1}) e c d 3#0 (dU (LR x i) H T 234#0 ⟨rfl,rfl⟩ q (λb U=>(Z b U).1)))
 done:=by
  intro X f j l L i A s M H E I Z st y;subst f j l;show 274#(λJ R u Q B z=>?_)
  have y:x.cps.size<=i:=y;have O:x.cps[i]?=none:=by simp[y]
  rcases S with rfl|rfl
  .show wpAny_pyNext_ascii_end 276#0 st O λN a=>46#(69#(a b o U e))
  .show wpAny_pyNext_wide_end 276#0 st O λN a=>46#(69#(a b o U e))
 self:=λ_ _ _ _ _ st h=>by
  rcases S with rfl|rfl
  .show wpAny_pyIter_striter_ascii st h
  .show wpAny_pyIter_striter_wide st h
section
variable {X:Cx}{tg:Expr}
def XH(U:TE):TI:=λM H R=>U M H λv S=>∃x,v = .str x/\R (ZN x) S
def VL(C:PE X l j):PI X tg l (XH j):=by
 intro A s M H R I h;show eg 34#C λv F=>aA λx S T r q=>?_
 revert q;show aj λy c q=>?_;subst c
 show 257;show wpAny_pyIter_strU ?_;have a:strIterType y="str_ascii_iterator"\/strIterType y="str_iterator":=by
  unfold strIterType
  split
  .show .inl rfl
  .show .inr rfl
 show cD F.heap.objs.size [F.heap.objs.size] _ _ S rx (T.kept (t':=F.toks) λb o e=>W' _ e) (Qv y _ _ t a) (av _ (v! _ rx) rx rx) (λb U=>?_) q
 have e:314#b:=102#0
 subst e;show T.Bh (Ξ _) (319#0)
end
def Qw{x:Str}(c:109#(List V))(h0:c 0 [] S)(C:∀i I H,i<=x.length->c i I H->19#H/\I.length<=i)(hz:36#x.length)
 (l:∀i I H,i<x.length->c i I H->g (LR x i) (83#n++s) H λP Z=>P.drop n=s/\j P Z λb w =>
  175#U)
 (J:∀I H,c x.length I H->Q H):i8 (ZN x) g j U n s D Q S:=by
 show af (λi k I H=>k=x.length-i/\i<=x.length/\c i I H) (av x.length 23#0 (r! _) h0) ?_
 intro i k I H;show dW λo a p=>?_;subst o
 obtain⟨r,W⟩:=C i I H a p;show⟨r,?_⟩
 by_cases d:i<x.length
 .show .inr (bA d (by lia) (c (i+1)) (λh Y f=>fU (x.length-(i+1)) (by lia) rx d f) (λv Y y=>?_))
  obtain⟨e,y⟩:=y;subst e y;show l i I _ d p
 .have e:i=x.length:=by lia
  subst e;show .inl ⟨Ξ _,J I H p⟩
section
variable {X:Cx}
def S7{x v:Str}{j:Pos}(y:Gl X x)(h:∃t,X.mg x=some (.str v t))(J:198#("__debug__":Str):=by decide):PE X (.Name x j) (tC (.str v)):=by
 obtain⟨t,e⟩:=h;show Dt y e ⟨t,rfl⟩ J
def Uw(_:bY):Lj X Vb:=O3
def S8(_:bY)(C:PE X l j):PI X tg l (XH j):=VL C
end
open AutoSeq1 (wpAny_loadPart')
set_option maxRecDepth 100000 in
def MV(l:Addr)(f:Array Value)(n:Nat)(i:129#0)(T:165#0)(t:Tok):
 Meets (Builtin.«enumerate.__new__» ⟨[.type "enumerate",.ref l],[(Str.ofString "start",.int 1 t)]⟩) (λ_ R s=>s.heap.get? l=some { cls:=.type "list",dict:=i,data:=.seq f n,slots:=T}/\
  R (196#(.ref 43#87#(.type "list_iterator")))
    { s with heap:=(174#87#(.type "list_iterator")).push { cls:=.type "enumerate",data:=321#(rawInt 1)}}) :=
 .of_wp λH w A R s h=>by
  obtain⟨b,g,d,F,os⟩:=s;obtain⟨C,h⟩:=h;have u:=sub_enumerate;have a:Heap.IsList (Shared.heap 197#b) l f:=af _ C (cJ rx n rx)
  wp_walk using 203#C
  show wpAny_stack_any λst=>Θ ?_
  split
  .rename_i c _ _ _ _ _
   cases(c==Value.type "enumerate")<;>(wp_walk using 203#C,wpAny_pyIter_list a)<;>show af _ rfl h
  .wp_walk using 203#C,wpAny_pyIter_list a
   show af _ rx h
def Jm(a:Value)(t:Tok):checkTypeCall "enumerate" ⟨[a],[(Str.ofString "start",.int 1 t)]⟩=pure ():=by kernel_rfl
def Jo(a:Value)(t:Tok):checkBuiltinCall "enumerate.__new__" ⟨[.type "enumerate",a],[(Str.ofString "start",.int 1 t)]⟩=pure ():=by kernel_rfl
def Jp(obj a:Value)(t:Tok):argsOk "object.__init__" ⟨[obj,a],[(Str.ofString "start",.int 1 t)]⟩:=by
 unfold argsOk
 kernel_rfl
def Jq(self a:Value)(t:Tok):Meets (Builtin.«object.__init__» ⟨[self,a],[(Str.ofString "start",.int 1 t)]⟩) (λ_ R s=>s.TypeIs self "enumerate"/\R (196#.none) s):=by
 show Meets.of_wp λH w A R s l=>?_
 obtain⟨b,Y⟩:=l;have C:=F.called_enumerate.init.lookup;have d:=F.called_enumerate.made;have y:(some "enumerate.__new__" != some "object.__new__")=true:=by decide
 show 98
 show af _ rx Y
section
variable {prog:Program}{w:World}{A:Around}{E:kj}{s:Shared}
def Jr(H:s.heap.IsList l f)
 (h:∀h',IsEnum h' (119#0) s.heap.objs.size 1 .none->h'.IsListIter s.heap.objs.size l 0->(∀b o,21#o->24#h'.get?)->Q (.ref (119#0)) 153#0) :
 60#(call (.type "enumerate") [.ref l] [(Str.ofString "start",.int 1 t)]):=by
 revert H;show dO λk C L n J=>?_;obtain⟨c,i,g,T⟩:=k
 have L:c = .type "list":=L;have J:g = .seq f n:=J;subst L J;show fX (λc j y=>?_) F.called_enumerate.mro
 have x:=F.called_enumerate.made;have u:=F.called_enumerate.sub;show wpAny_call (codeAny_of_tree ?_);show 50#(callAny (.type "enumerate") _);show Θ ⟨Code.quiet_builtin _ (10#0),217#F.entry_type_call⟩
 rw[Around.under_plain (weight_type_call_type "enumerate" [.ref l] [(Str.ofString "start",.int 1 t)]) (units_type_call_type "enumerate" [.ref l] [(Str.ofString "start",.int 1 t)])];have R:=F.called_enumerate.notType;have W:=F.called_enumerate.canCreate;have m:=Jm (.ref l) t
 show 98
 have v:43#87#(.type "list_iterator")=119#0:=s_ ..;show codeAny_mono (codeAny_call_builtin F.called_enumerate.plain F.entry_enumerate_new (wpAny_of_eq (Jo (.ref l) t) (MV l f n i T t prog w A.in1 (wants (λa O=>O.TypeIs a "enumerate"/\Q a O) E) s ⟨C,?_⟩))) λr O P=>?_
 .have d:IsEnum ((174#87#(.type "list_iterator")).push { cls:=.type "enumerate",data:=321#(rawInt 1)}) (119#0) s.heap.objs.size 1 .none:=v▸v! _ rfl;rw[v];show⟨af _ d rfl,h _ d (av _ (W' _ (v! _ rfl)) rfl rfl) λb o q=>W' _ (W' _ q)⟩
 cases r with
 | error e=>show P
 | ok G =>
   cases G with
   | ret a =>
     obtain⟨D,Y⟩:=P;have B:=F.called_enumerate.init.lookup;have z:=F.called_enumerate.init.bind a
     show 98
     show codeAny_mono (codeAny_call_builtin F.called_enumerate.init.plain F.entry_object_init (F.called_enumerate.init.check _ _ _ _ _ _ _ _ D (Jp a (.ref l) t) (Jq a (.ref l) t prog w A.in1 (wants (λr p=>r = .none/\Q a p) E) O (bj D rx Y)))) λq p d=>?_
     cases q with
     | error e=>show d
     | ok e =>
       cases e with
       | ret r =>
         obtain⟨rfl,Y⟩:=d
         show 98
       | _=>show d.elim
   | _=>show P.elim
set_option maxHeartbeats 1000000 in
def MW{Q:kj}
 (k:IsEnum s.heap e f c G) (p:s.heap.IsListIter f h i) (j:s.heap.IsList h d) (H:d[i]?=some xv) (z:e≠f)
 (r:∀h',IsEnumOut h' e f (c+1) xv s.heap.objs.size->h'.IsListIter f h (i+1)->22#h'.get?=some { cls:=.type "tuple",data:=.seq #[.int c s.toks,xv]}->h'.objs.size=119#0->
  (∀b o,b≠e->b≠f->21#o->24#h'.get?)->Q (22#.ref) { s with heap:=h',toks:=s.toks+1}) :
 wpAny 25#w A (Builtin.«enumerate.__next__» ⟨[.ref e],[]⟩) (λa s'=>∃v,a = .done (.ret v)/\Q v s') E s:=by
 obtain⟨m,g,d,F,os⟩:=s;have u:e<m.objs.size:=J' k;have a:f<m.objs.size:=by revert p;show aj λ_ q _=>?_;show J' q
 show 50#(field (.ref e) 2 >>= _);show aQ (wpAny_field k rx rx (aQ (wpAny_nextOf_list_item p j H λW O J=>?_)))
 have X:W.objs.size=m.objs.size:=J.1;have C:W.get? e=_:=(J.2 e z).trans k;show aQ (wpAny_field C rx rx ?_);show aQ (wpAny_field C rx rx ?_);show aQ (wpAny_mkInt (aQ (wpAny_setField_rec C 23#0 λY a g=>aQ (wpAny_setField_rec a 23#0 λj d S=>aQ (wpAny_newTuple ?_)))))
 have L:Heap.SameBut e W j:=Heap.SameBut.trans g S;have t:j.objs.size=m.objs.size:=L.1.trans X;have I:=W' ({ cls:=.type "tuple",data:=.seq #[.int c F,xv]}:Obj) d;unfold Builtin.SmallTypes.ownedTupleIsFree Builtin.SmallTypes.ownedTupleHandOut;show aQ (aQ (wpAny_field I rfl rfl (Θ ?_)));show aQ (wpAny_rule (aQ (wpAny_field I rfl rfl (aQ (wpAny_setField_rec I 23#0 λg Z T=>aQ (aQ (wpAny_setField_rec Z 23#0 λh a d=>wpAny_setField_rec a 23#0 λx P R=>aQ (wpAny_letGo (Θ (af _ rfl ?_))))))))))
 have D:Heap.SameBut e _ x:=(Heap.SameBut.trans T d).trans R;have a:∀b o,b≠e->24#W.get?->24#x.get?:=λb o n q=>(D.2 b n).trans (W' _ ((L.2 b n).trans q))
 have N:IsEnumOut x e f (c+1) xv j.objs.size:=P;rw[t]at N;change Q (.ref j.objs.size) _;rw[t];show r x N ?_ ?_ ?_ λb o l M q=>a b o l ((J.2 b M).trans q)
 .show aG (λy b U B=>?_) (id O)
  show av y (a f y (e! z) b) U B
 .show(D.2 _ (X! u)).trans ?_;change(j.push _).get? m.objs.size=_;rw[<-t];show v! _ rfl
 .rw[D.1];change(j.push _).objs.size=_;rw[s_,t]
def MX
 (k:IsEnum s.heap e f c G) (p:s.heap.IsListIter f h i) (l:s.heap.IsList h g) (H:g[i]?=some xv) (z:e≠f)
 (r:∀h',IsEnumOut h' e f (c+1) xv s.heap.objs.size->h'.IsListIter f h (i+1)->22#h'.get?=some { cls:=.type "tuple",data:=.seq #[.int c s.toks,xv]}->h'.objs.size=119#0->
  (∀b o,b≠e->b≠f->21#o->24#h'.get?)->Q (20#s.heap.objs.size) { s with heap:=h',toks:=s.toks+1}):60#(279#e):=by
 have U:s.TypeIs (.ref e) "enumerate":=af _ k rfl;rw[pyNext];show 296#(wpAny_callSpecial?_slot (name:=Str.ofString "__next__") U F.slot_enumerate_next (wpAny_call_entry F.slot_enumerate_next U F.entry_enumerate_next (MW k p l H z λh' d a L x j=>Θ (r h' d a L x j)) (F.args_enumerate_next_1 _)))
def Qx(N:A.handled=none)(k:IsEnum s.heap e f c G)(p:s.heap.IsListIter f h i)(l:s.heap.IsList h g)(a:g[i]?=none)
 (r:∀h',Heap.ExtBut f s.heap h'->Q none 153#0):60#(279#e):=by
 have U:s.TypeIs (.ref e) "enumerate":=af _ k rfl;rw[pyNext];show 296#(wpAny_callSpecial?_slot (name:=Str.ofString "__next__") U F.slot_enumerate_next (wpAny_call_entry F.slot_enumerate_next U F.entry_enumerate_next ?_ (F.args_enumerate_next_1 _)));show 50#(field (.ref e) 2 >>= _);show aQ (wpAny_field k rfl (x:=.ref f) rfl (aQ (wpAny_nextOf_list_end N p l a λh' q O P=>?_)))
 revert P;show aj λo j L=>?_
 show aQ (wpAny_isInstance (T:="StopIteration") (b:=true) (af o j L) isSubtype_stop (Θ (r _ O)))
end
def Qy(K:bY)(a:Addr):It :=
 ⟨λi H=>∃f x,aK K H a f/\f[i]?=some x,λi H v Y=>∃T x,v = .ref T/\H T=none/\Y=η H T (.tup [.int ((i:Int)+1),x])/\∀f,aK K H a f->f[i]?=some x,λi H=>∃f,aK K H a f/\f.length<=i⟩
def Js{K:bY}(a e it:Addr)(hne:e≠it):
 Turn P w K (.Tuple T k b) (Qy K a) [e,it] e (λi h=>(∃F,IsEnum h e it ((i:Int)+1) F)/\h.IsListIter it a i) where
 mem:=by simp
 obj:=λi h st b U=>by
  revert st;show Bf λX=>aG λo a c d=>?_;obtain⟨F,n⟩:=X
  have r:b=e\/b=it:=102#0
  rcases r with rfl|rfl
  .show af _ n 177#0
  .show af o a λv z=>by rw[d]at z;cases z
 keep:=λi h N st k=>by
  obtain⟨⟨F,n⟩,c⟩:=st;show⟨⟨F,k e 23#0 _ n⟩,c.at λo x=>k it 23#0 o x⟩
 item:=by
  show 134;subst S j l
  revert y;show br λf x Y O=>?_
  show 120#254#0
  show aj (λu G d=>?_) (D.get O)
  obtain⟨⟨F,n⟩,c⟩:=st;show MX n c p.isList (xv:=u) (by simpa using G) hne λR a k t q B=>?_
  show af _ rx (wpAny_letOwnedTupleGo_enum a λW J v=>?_)
  have Q:s.heap.objs.size≠e:=X! (J' n);have a:22#W.get?=some { cls:=.type "tuple",data:=.seq #[.int ((i:Int)+1) s.toks,u]}:=(v.2 _ Q).trans t;show dU (22#.ref) (η H s.heap.objs.size (.tup [.int ((i:Int)+1),x])) (I.yields (wr:=[e,it]) (t':=s.toks+1) (λb o U q=>?_) Z (Ξ _) ?_) rfl (bh _ x rfl I.fresh rfl (λC t=>by rw[I.nK t Y];show O)) 173#⟨u,by simpa using J⟩ λb U=>?_
  .have C:b≠e:=λz=>U (by simp[z])
   have r:b≠it:=λz=>U (by simp[z])
   show(v.2 b C).trans (B b o C r q)
  .show b8 (dl rx) [.int ((i:Int)+1) s.toks,u] (.cons 234#0 233#d) (af _ a (cJ rx _ rx))
  .show k.at λo q=>(v.2 it (e! hne)).trans q
  .rw[au]
   .show(Z b U).1
   .have r:b=e\/b=it:=102#0
    rcases r with rfl|rfl
    .show e! Q
    .revert c;show aj λo q _=>?_
     show q! (J' q)
 done:=by
  show 134;subst S j l
  revert y;show aj λf Y O=>?_
  show 120#254#0
  obtain⟨⟨F,n⟩,c⟩:=st;show 274#(λJ R u Q B z=>?_)
  have C:=D.length;show Qx 276#0 n c p.isList (by simp;lia) λN r=>46#(69#(r b o U e))
 self:=λ_ _ _ _ _ st h=>by
  obtain⟨⟨F,n⟩,_⟩:=st;show wpAny_pyIter_enum n h
section
variable {X:Cx}{elts:312#0}{n:Nat}{tp:Pos}
def VM(K:bY)(z:TA):TI:=λM H R=>z M H λG S=>∃a,G=[.ref a]/\(∃f,aK K S a f)/\R (Qy K a) S
def zM{M:Model}{A:Around}{E:kj}{s:Shared}{env:Env}{j o k:Pos}{cj}{e:Expr}{Q:kj}
 (h:wpAny M A (spliced (backTo j (starEach [e] env))) (λG F=>∀t,wpAny M A (call (.type "enumerate") G [(Str.ofString "start",.int 1 t)]) Q E { F with toks:=F.toks+1}) E s)
 (l:starEach [e] env=[(false,eval e env)]:=by rfl) :
 187#(callWith j (.type "enumerate") [] (backTo j (starEach [e] env)) (backToKw j (keywordEach [⟨some (Str.ofString "start"),.Constant (.int 1) cj o,k⟩] env))):=by
 unfold callWith;show aQ (t! (c! (Q:=λa F=>wpAny M A (call (.type "enumerate") a.pos a.kw) Q E F) ?_ (λa F R=>aQ (wpAny_standAt ?_)) λ_ _ q=>q))
 .rw[l]at h ⊢;show PyProof.Rows.evalArgs_kwB rx (c! h (λG F R=>PyProof.Rows.kws_cons (wpAny_Constant_int (PyProof.Rows.kws_nil (R _)))) λ_ _ q=>q)
 .rw[l];show aQ (Θ ?_);show aQ (c! R (λr N P=>aQ (t! (wpAny_point (Θ P)))) λ_ _ q=>q)
def Qz(K:bY){a:Expr}{w:TA}{p j o k:Pos}{cj}(y:Gl X "enumerate")(d:X.mg "enumerate"=none)(W:PA X [a] w)(l:15#([a])=[33#a]:=by rfl)(x:X.K=K:=by rfl):
 PI X (.Tuple elts n tp) (.Call (.Name "enumerate" p) [a] [⟨some (Str.ofString "start"),.Constant (.int 1) cj o,k⟩] j) (VM K w):=by
 subst x;intro A s M H R I h;show 248#(k7 I y d boot_enumerate (zM (eg (275#j) λL F=>aA λG S T J O t=>?_) l))
 revert O;show aG λa e u q=>?_;obtain⟨f,Y⟩:=u
 subst e;cases J with
 | cons r C =>
   cases C;cases r;show aG (λg D P m=>?_) (T.list Y)
   show Jr (s:={ F with toks:=F.toks+1}) P.isList λN v c B=>?_
   have E:θ X A M S { F with heap:=N,toks:=F.toks+1}:=T.kept (t':=F.toks+1) B
   show wpAny_pyIter_enum v (cD _ [F.heap.objs.size+1,F.heap.objs.size] _ _ S rx E (Js a _ _ (Z_ _)) ⟨⟨_,v⟩,c⟩ (λb U=>?_) q)
   have i:F.heap.objs.size<=b:=by
    rcases(show b=F.heap.objs.size+1\/314#b by simpa using U) with z|z
    .rw[z];show Q! _
    .rw[z];show Ξ _
   show T.Bh i (T.hok.fresh i)
end
section
variable {K:bY}{a b:Addr}{xs ys:List V}{g:TG}
def MY{Q:TS}{D:Ends}(c:109#St)(h0:c 0 M H)(C:∀i M H,i<=xs.length->c i M H->aK K H a xs)
 (l:∀i x T M H,xs[i]?=some x->c i M H->H T=none->g (.ref T) M (η H T (.tup [.int ((i:Int)+1),x])) λP Z=>Q 200#c P Z) (J:∀M H,293#M->D.nx M H) :
 ∃W:Nat->109#St,(∃m,W 0 m M H)/\∀i m M H,W i m M H->
   ((Qy K a).stop i H/\D.nx M H)\/((Qy K a).go i H/\262#(Qy K a).Mi):=by
 show 106#(λi m M H=>115#M)
 intro i m M H;show dW λF h p=>?_;subst F
 have q:=C i M H h p
 show 265
 .show .inr (b8 216#q (c (i+1)) (λk Y f=>116#f) (λv Y y=>?_))
  revert y;show aS λT x b t w y=>?_;subst b w
  show l i x T M _ (y xs q) p t
 .show 221
  subst e;show .inl ⟨af xs q (Ξ _),J M H p⟩
end
end L2
namespace Tx
open PySem
def LS{a b:Str}(h:a.cps.toList=b.cps.toList):a=b:=by
 cases a;cases b;show k! Str.mk (ad3.mp h)
def kJ(n:Nat):Str:=Str.ofString (toString (n:Int))
def wq(n:Nat):209#(kJ n)=(Nat.toDigits 10 n).map Char.toNat:=PySem.W.KIN.signs_num n
def vc(h:c∈209#(kJ n)):48<=c/\c<=57:=by
 rw[wq]at h;show aj (λa f e=>?_) (i!.mp h)
 rw[<-e];show PyProof.Rows.digit_range (Nat.isDigit_of_mem_toDigits 3#0 3#0 f)
def S9(n:Nat):1<=(kJ n).length:=by
 have h:(kJ n).length=253#(kJ n):=205#0
 rw[h,wq,Δ];show PyProof.Rows.tDigits_len_ge 10 n
def oR(B:1<=k)(h:n<10^k):(kJ n).length<=k:=by
 have e:(kJ n).length=253#(kJ n):=205#0
 rw[e,wq,Δ];show PyProof.Rows.digits10_le B h
def eU(c:Nat):List (List Nat)->List Nat
 | []=>[]
 | [x]=>x
 | x::y::r=>x++c::eU c (y::r)
theorem iP(c:Nat):∀ss:List Str,209#(Str.join ⟨#[c]⟩ ss)=eU c (ss.map (·.cps.toList))
 | []=>rfl
 | [x]=>rfl
 | x::y::r=>by
   change 209#((x++⟨#[c]⟩++Str.join ⟨#[c]⟩ (y::r)):Str)=_;rw[b_,b_,iP c (y::r)];change(x.cps.toList++[c])++_=x.cps.toList++c::_;rw[List.append_assoc];rfl
theorem zN:∀{x y r s:List Nat},c∉x->c∉y->x++c::r=y++c::s->x=y/\r=s
 | [],[],_,_,_,_,h=>46#(List.cons.inj h).2
 | [],b::y,_,_,_,hy,h=>absurd (by rw[(List.cons.inj h).1];show h!) hy
 | a::x,[],_,_,hx,_,h=>absurd (by rw[<-(List.cons.inj h).1];show h!) hx
 | a::x,b::y,_,_,hx,hy,h=>by
   obtain⟨R,W⟩:=List.cons.inj h;obtain⟨M,T⟩:=zN (λz=>hx (sY _ z)) (λz=>hy (sY _ z)) W
   show⟨by rw[R,M],T⟩
def Gq{c:Nat}(X:c∉y)(h:x++c::r=y):False:=X (by rw[<-h];show j4 _ h!)
theorem C1:∀{ps qs},ps≠[]->qs≠[]->(∀p∈ps,c∉p)->(∀q∈qs,c∉q)->eU c ps=eU c qs->ps=qs
 | [],_,h,_,_,_,_=>absurd rfl h
 | _::_,[],_,h,_,_,_=>absurd rfl h
 | [p],[q],_,_,_,_,h=>by rw[show p=q from h]
 | [p],q::q'::qs,_,_,hp,_,h=>(Gq (hp p h!) (show q++c::eU c (q'::qs)=p from h.symm)).elim
 | p::p'::ps,[q],_,_,_,hq,h=>(Gq (hq q h!) (show p++c::eU c (p'::ps)=q from h)).elim
 | p::p'::ps,q::q'::qs,_,_,hp,hq,h=>by
   obtain⟨R,W⟩:=zN (hp p h!) (hq q h!) (show p++c::eU c (p'::ps)=q++c::eU c (q'::qs) from h)
   rw[R,C1 23#0 23#0 (λx O=>hp x (sY _ O)) (λx O=>hq x (sY _ O)) W]
theorem map_inj:∀{a b:List Str},a.map (·.cps.toList)=b.map (·.cps.toList)->a=b
 | [],[],_=>rfl
 | [],_::_,h=>nomatch h
 | _::_,[],h=>nomatch h
 | x::a,y::b,h=>by
   obtain⟨R,W⟩:=List.cons.inj h;rw[LS R,map_inj W]
def oU(x y:Str):Txt.split x y≠[]:=λh=>by
 have e:=ac3 x y;unfold Txt.split at h
 split at h
 .cases h
 .split at h
  .cases h
  .unfold Builtin.Str.partsBetween at h;have z:=k! List.length h;rw[Δ,List.length_zip]at z;simp at z
def Jt(S:ss≠[])(Z:∀s∈ss,c∉s.cps.toList):Txt.split (272#(#[c])) ⟨#[c]⟩=ss:=by
 have e:272#(#[c])=Str.join ⟨#[c]⟩ ss:=_l _ ss;have h:=ac3 (272#(#[c])) ⟨#[c]⟩;have W:=k! (λs=>s.cps.toList) (h.trans e)
 simp only[iP]at W;have M:=C1 (c:=c) (by simp[oU]) (by simpa using S) (λp t=>by
  show aj (λs l L=>?_) (i!.mp t);subst L
  show PySem.StrLaws.split_free _ c s l) (λp t=>by
  show aj (λs l Y=>?_) (i!.mp t);subst Y
  show Z s l) W
 show map_inj M
end Tx
namespace L2
open PySem PySem.Spec PyProof.Rows
def fF.sq(r:fF k A):A.units+65<cLine:=by have:=r.un;lia
section
variable {X:Cx}
def ZO:V->190#0->81#(190#0):=λx lo Y H Q=>∃z:Str,x = .str z/\36#z.length/\Q (.str (Txt.slice z lo Y)) H
def Ux(_:bY):U9 X ZO:=by
 intro A s M H x v D p lo Y T Q I B b P c h
 revert h;show aG λz L m q=>?_;subst L
 show 71;show aq "str" _ F.slot_str_getitem.lookup (typeIs_str _ _ _) ?_;have a:∀Z k,EP X A M Q (.str (Txt.slice z lo Y) Z) { s with toks:=k}:=λZ k=>aq (.str _) H (I.tok _) ⟨Z,rfl⟩ q
 cases P with
 | none =>
   cases c with
   | none=>show wpAny_getItem_str_slice (l:=none) (u:=none) (st:=none) b rfl (310#0)
   | int j u=>show wpAny_getItem_str_slice (l:=none) (u:=some (j,u)) (st:=none) b rfl (310#0)
 | int i d =>
   cases c with
   | none=>show wpAny_getItem_str_slice (l:=some (i,d)) (u:=none) (st:=none) b rfl (310#0)
   | int j u=>show wpAny_getItem_str_slice (l:=some (i,d)) (u:=some (j,u)) (st:=none) b rfl (310#0)
def ZP(K:bY):R2:=λx y H Q=>∃d l,ow K H x d/\ow K H y (.tuple l)/\133#d/\133#(.tuple l)/\Q (.bl (l.any λe=>PyData.eqv e d)) H
def Ju(K:bY)(G:X.A.units+65<cLine)(e:X.K=K:=by rfl):mU X 157#.In (ZP K):=by
 subst e;show 67
 revert h;show fX λd l=>kG λR W F N q=>?_
 obtain⟨k,b⟩:=R.reads I B;obtain⟨f,a⟩:=W.reads I c;show PySem.SeqAt.in_tuple_reads a b (show 225#l=true from SeqAt.canLay_of_shaped N) (SeqAt.canLay_of_shaped F) (by have g:=SeqAt.depth_of_shaped F;have D:=Nat.min_le_right (149#l) d.depth;lia) (aq (.bl _) H I rx q)
end
end L2
namespace Tx
open PySem
def iQ(z:Int):Str:=Str.ofString (toString z)
def D0(h:0<=z):iQ z=kJ z.toNat:=by
 unfold iQ kJ;rw[adP h]
def D4(h:z<0):209#(iQ z)=45::209#(kJ (-z).toNat):=by
 obtain⟨n,rfl⟩:=Int.eq_negSucc_of_lt_zero h;have e:(-(Int.negSucc n)).toNat=n+1:=by lia
 rw[e];unfold iQ kJ;rw[Str.ofString_eq_toList,Str.ofString_eq_toList];change((("-" ++ Nat.repr (n+1)).toList).map Char.toNat)=45::((Nat.repr (n+1)).toList.map Char.toNat);rw[String.toList_append,o!];rfl
def Tc{z:Int}(h:z.natAbs<10^60):1<=(iQ z).length/\(iQ z).length<=61:=by
 by_cases m:0<=z
 .rw[D0 m];show⟨S9 _,Ω (oR (k:=60) 3#0 (by lia)) 3#0⟩
 .have e:(iQ z).length=253#(iQ z):=205#0
  have D:48#(kJ (-z).toNat)=253#(kJ (-z).toNat):=205#0
  have l:=oR (n:=(-z).toNat) (k:=60) 3#0 (by lia)
  rw[e,D4 (by lia),y!,<-D]
  lia
def int_sign(h:c∈209#(iQ z)):c=45\/(48<=c/\c<=57):=by
 by_cases m:0<=z
 .rw[D0 m]at h;show .inr (vc h)
 .rw[D4 (by lia)]at h
  rcases Z'.mp h with e|h
  .show .inl e
  .show .inr (vc h)
def QA(z:Int)(h:z<0):253#(iQ z)=253#(kJ (-z).toNat)+1:=by
 rw[D4 h,y!]
end Tx
namespace L2
open PySem PySem.Spec PyProof.Rows
def XI(K:bY)(C k:Nat)(Q:XK->TS)(th:TS):TS:=λD M H=>∃E:XK,Q E D M H/\∀R W Y,E R W Y->228#(PySem.W.exmOne K R (.ref C))/\
 ∀U,Y U=none->th { nx:=D.nx,rt:=D.rt} (83#k) (η Y U (Sw U R))
section
variable {X:Cx}
def Td{x:Str}{C:Addr}{R L:List Stmt}{b:Stmt}{r k j:Pos}{Q:XK->TS}{th:TS}(K:bY)(p:X.stack=288#0)(Z:236#0)(f:X.ex=[])
 (y:Gl X x) (i:X.mg x=some (.ref C))
 (U:∀E pn xe,Passes (Cy X.prog X.w) { X with pn:=pn,xe:=xe} E->tK { X with pn:=pn,xe:=xe} R (Q E))
 (N:∀ea pn,tK { X with A:=X.A.mark (20#ea),calm:=false,pn:=pn,xe:=52#0} (b::L) th) (l:X.K=K:=by rfl) (v:198#("__debug__":Str):=by decide) :
 PS X (.Try R [.ExceptHandler (some (.Name x r)) none (b::L) k] [] [] j) (XI K C X.N.length Q th) :=
 CB (λea g _=>Sw ea g) (fX λa G=>kG λe c d z _=>Sx (bh a G e c d z)) (tq:=λ_ D M H=>th { nx:=D.nx,rt:=D.rt} M H) (th:=λ_=>th) K p Z f y i U (λ_ e=>nomatch e) (λ_ _ _ _ _ h=>h) N l v
end
end L2
namespace Tx
open PySem
def QB(h:Txt.slice x none (some 1)=Str.ofString "-"):x.cps.toList=45::209#(Txt.slice x (some 1) none):=by
 have J:Str.ofString "-"=⟨#[45]⟩:=10#0
 rw[J]at h
 by_cases S:x.cps.toList.length=0
 .exfalso
  have e:x=⟨#[]⟩:=LS (R_.mp S);rw[e]at h;show absurd h (10#0)
 .have g:Txt.slice x none (some 1)=_:=StrLaws.sliceText_to 178#0
  have D:Txt.slice x (some 1) none=_:=StrLaws.sliceText_from 178#0
  rw[g]at h;rw[D];cases O:x.cps.toList with
  | nil=>rw[O]at S;show absurd rx S
  | cons c r =>
    rw[O]at h;have h:=k! (λs:Str=>s.cps.toList) h
    have L:c=45:=by simpa using h
    rw[L];change 45::r=45::(List.take _ r);rw[l_];rw[y!]
    lia
end Tx
namespace RM
noncomputable def lsum(L:Nat->Int)(f:247#0):Nat->Int
 | 0=>0
 | n+1=>lsum L f n+(if f n=true then L n else 0)
section
variable {L:Nat->Int}
theorem tW:∀{n},(∀k,k<n->f k=g k)->lsum L f n=lsum L g n
 | 0,_=>rfl
 | n+1,h=>by
   unfold lsum;rw[tW 169#h,h n (by lia)]
theorem sr:∀{n},(∀k,k<n->f k=false)->lsum L f n=0
 | 0,_=>rfl
 | n+1,h=>by
   unfold lsum;rw[sr 169#h,h n (by lia)]
   simp
theorem Gr:∀{n},a<n->(∀k,k<n->f k=decide (k=a))->lsum L f n=L a
 | 0,h,_=>by lia
 | n+1,W,h=>by
   unfold lsum
   by_cases e:a=n
   .subst e;rw[sr λk B=>by rw[h k (by lia)];show fV (by lia),h a (by lia),eK rfl]
    simp
   .rw[Gr (151#(a<n)) 169#h,h n (by lia),fV (by lia)]
    simp
theorem wu:∀{n},(∀k,k<n->0<=L k)->(∀k,k<n->f k=true->g k=true)->lsum L f n<=lsum L g n
 | 0,_,_=>A? _
 | n+1,Y,h=>by
   unfold lsum;have E:=wu (n:=n) (169#Y) 169#h
   have F:=Y n (by lia)
   have S:=h n (by lia)
   cases Z:f n with
   | false=>cases g n<;>simp<;>lia
   | true=>rw[S Z];simp;lia
theorem Gs:∀{n},(∀k,k<n->0<=L k)->lsum L (λk=>f k^^g k) n<=lsum L f n+lsum L g n
 | 0,_=>A? _
 | n+1,Y=>by
   unfold lsum;have E:=Gs (f:=f) (g:=g) (n:=n) 169#Y
   have F:=Y n (by lia)
   cases f n<;>cases g n<;>simp<;>lia
theorem zO:∀{n},(∀k,k<n->f k=true->g k=false)->lsum L (λk=>f k^^g k) n=lsum L f n+lsum L g n
 | 0,_=>rfl
 | n+1,h=>by
   unfold lsum;rw[zO (f:=f) (g:=g) (n:=n) 169#h]
   have S:=h n (by lia)
   cases Z:f n with
   | false=>cases g n<;>simp<;>lia
   | true=>rw[S Z];simp;lia
def Gu(h:k<n):lsum L (λj=>140#(2^k)) n=L k:=Gr h λj _=>by
 rw[D!];show q?.mpr eq_comm
end
def wz(h:m<2^n)(U:12#0=true):k<n:=by
 apply A_;intro B;rw[a_ (g! h (o? 3#0 (by lia)))]at U
 cases U
def cd(x:Nat)(s:Bool):Nat:=2*x+s.toNat
def Jn(N:Net)(k v w:Nat):Prop:=(N.a k=v/\N.b k=w)\/(N.b k=v/\N.a k=w)
def Jn.lt{N:Net}(B:k<N.n)(h:Jn N k v w):w<N.p:=by
 rcases h with⟨_,rfl⟩|⟨_,rfl⟩
 .show N.bl k B
 .show N.al k B
inductive Wl(N:Net)(L:Nat->Int)(m u:Nat):List Nat->Nat->Bool->Int->Nat->Prop
 | nil:Wl N L m u [] u false 0 0
 | go {pre:List Nat} {v w k e:Nat} {s:Bool} {z:Int} (h:Wl N L m u pre v s z e) (hk:k<N.n) (hj:Jn N k v w):Wl N L m u (pre++[cd v s]) w (s^^12#0) (z+L k) (e^^^2^k)
def Wy(N:Net)(L:Nat->Int)(m u x:Nat)(s:Bool)(z:Int):Prop:=∃o e,Wl N L m u o x s z e
section
variable {N:Net}{L:Nat->Int}{m u:Nat}
def zP(Y:∀k,k<N.n->0<=L k)(G:u<N.p)(h:Wl N L m u o v s z e):
 v<N.p/\e<2^N.n/\(∀x,N.bd e x=(decide (u=x)^^decide (v=x)))/\N.par e m=s/\lsum L (λk=>215#0) N.n<=z/\0<=z:=by
 induction h with
 | nil =>
   show⟨G,(dF (I? _) (λx=>?_) (u4 m) ?_ (A? _))⟩
   .rw[uX];cases decide (u=x)<;>rfl
   .rw[sr λk _=>_b k]
    show A? _
 | @go o v w k e s z h B J E =>
   revert E;show dI λl a b c i d=>?_
   have F:=Y k B;show⟨J.lt B,(dF (K? a (_E 3#0 B)) (λx=>?_) ?_ ?_ (by lia))⟩
   .rw[jb,b,qF B];unfold Net.inc;rcases J with⟨rfl,rfl⟩|⟨rfl,rfl⟩
    .cases decide (u=x)<;>cases 11#(N.a k=x)<;>cases 11#(N.b k=x)<;>rfl
    .cases decide (u=x)<;>cases 11#(N.a k=x)<;>cases 11#(N.b k=x)<;>rfl
   .rw[sj,c,LI B]
   .have:=Gs (L:=L) (f:=λj=>e.testBit j) (g:=λj=>140#(2^k)) Y
    rw[Gu B]at this;rw[tW (g:=λj=>e.testBit j^^140#(2^k)) λj _=>p! ..]
    lia
def VN(N:Net)(L:Nat->Int)(m u x:Nat)(s:Bool):190#0->Prop
 | none=>∀z,¬ Wy N L m u x s z
 | some d=>Wy N L m u x s d/\∀z,Wy N L m u x s z->d<=z
def VO{x k:Nat}(h:x.testBit k=true):x^^^2^k<x:=by
 have g:=Nat.div_add_mod x (2^(k+1));have D:=Nat.div_add_mod (x^^^2^k) (2^(k+1));have Y:(x^^^2^k)/2^(k+1)=x/2^(k+1):=S? λj=>by
  rw[Nat.testBit_div_two_pow,Nat.testBit_div_two_pow,p!,D!,fV (by lia),i_]
 have O:(x^^^2^k)%2^(k+1)<2^k:=Nat.lt_pow_two_of_testBit _ λj J=>by
  rw[Nat.testBit_mod_two_pow,p!,D!]
  by_cases e:k=j
  .rw[<-e,h,eK (rfl:k=k)];show M_ _
  .rw[fV (151#(¬ j<k+1)),_V]
 have X:2^k<=x%2^(k+1):=Nat.ge_two_pow_of_testBit (by rw[Nat.testBit_mod_two_pow,h,eK (K_ _)];rfl)
 rw[Y]at D
 lia
def Gv(Y:∀k,k<N.n->0<=L k)(m:Nat)(P:N.Ring r)(d:r<2^N.n):∃x,x<N.p/\Wy N L m x x (N.par r m) (lsum L (λk=>320#0) N.n):=by
 obtain⟨a,U⟩:=P_ P.1;have G:=N.al a (wz d U);have D:∀(c e v:Nat) (o:List Nat) (s:Bool),r^^^e=c->Wl N L m (N.a a) o v s (lsum L (λk=>215#0) N.n) e->(∀k,215#0=true->320#0=true)->∃o v s,Wl N L m (N.a a) o v s (lsum L (λk=>320#0) N.n) r:=by
  intro c
  induction c using Nat.strongRecOn with
  | _ c E =>
    intro e v o s i w sub
    by_cases n:e=r
    .show iJ o v s (n▸w)
    have f:=zP Y G w;obtain⟨k,B,y,J⟩:∃k,294#(r^^^e)=true/\∃y,Jn N k v y:=by
     by_cases b:N.a a=v
     .show gB a ?_ _ (.inl ⟨b,rfl⟩);rcases P.2.2 e sub (λx _=>by rw[f.2.2.1,b,Bool.xor_self]) with z|z
      .rw[z,u?];show U
      .show absurd z n
     .have O:N.bd (r^^^e) v=true:=by rw[jb,P.2.1 v f.1,f.2.2.1,fV b,eK rfl];rfl
      apply A_;intro h;unfold Net.bd at O;rw[kQ λk _=>?_]at O
      .cases O
      cases q:294#(r^^^e) with
      | false=>rfl
      | true =>
        unfold Net.inc;rw[fV λz=>h (gB k q _ (.inl ⟨z,rfl⟩)),fV λz=>h (gB k q _ (.inr ⟨z,rfl⟩))]
        rfl
    have t:k<N.n:=wz (K? d f.2.1) B;have X:215#0=false:=by
     rw[p!]at B;cases q:215#0 with
     | false=>rfl
     | true=>rw[q,sub k q]at B;cases B
    have b:320#0=true:=by rwa [p!,X,i_]at B
    have l:lsum L (λj=>140#(e^^^2^k)) N.n=lsum L (λj=>e.testBit j) N.n+L k:=by
     rw[tW (g:=λj=>e.testBit j^^140#(2^k)) λj _=>p! ..,zO,Gu t]
     intro j _ J;rw[D!];show fV λz=>by rw[z,J]at X;cases X
    have h:=w.go t J;rw[<-l]at h;show E (r^^^(e^^^2^k)) ?_ _ _ _ _ rx h λj J=>?_
    .rw[<-i,<-i?];show VO B
    .rw[p!,D!]at J
     by_cases z:k=j
     .rw[<-z];show b
     .rw[fV z,i_]at J;show sub j J
 show gZ (λo v s w=>?_) (D _ 0 _ [] false rx (by rw[sr λk _=>_b k];show .nil) λk h=>by rw[_b]at h;cases h)
 have f:=zP Y G w;have b:N.a a=v:=by
  have:=f.2.2.1 v;rw[P.2.1 v f.1,eK (rfl:v=v)]at this;cases h:11#(N.a a=v) with
  | true=>show lZ h
  | false=>rw[h]at this;cases this
 show af (N.a a) G (kZ o r ?_);rw[f.2.2.2.1];rw[<-b]at w;show w
def Jv:∀c e,207#(215#0)=c->e<2^N.n->N.iO e->N.par e m=true->∃r,N.Ring r/\(∀k,320#0=true->215#0=true)/\N.par r m=true:=by
 intro c
 induction c using Nat.strongRecOn with
 | _ c E =>
   intro e L l u t
   by_cases P:N.Ring e
   .show av e P (λ_ h=>h) t
   have F:e≠0:=λz=>by rw[z,u4]at t;cases t
   obtain⟨q,Y,b,d,i⟩:∃q,(∀k,q.testBit k=true->215#0=true)/\N.iO q/\q≠0/\q≠e:=by
    apply A_;intro h;show P (bj F u (λq Y b=>?_))
    apply A_;intro W;show h (fU q Y b (λz=>W (.inl z)) (λz=>W (.inr z)))
   have j:∀q,(∀k,q.testBit k=true->215#0=true)->q≠e->207#(q.testBit k)<c:=by
    intro q Y i;have R:=Vy (f:=λk=>q.testBit k) (g:=λk=>215#0) (n:=N.n) λk _ h=>Y k h
    have W:207#(q.testBit k)≠207#(215#0):=λh=>i (S? λk=>by
     by_cases B:k<N.n
     .have:=PV (f:=λk=>q.testBit k) (g:=λk=>215#0) (λk _ h=>Y k h) h k B
      cases M:215#0 with
      | true=>show this M
      | false=>cases T:q.testBit k with
        | false=>rfl
        | true=>rw[Y k T]at M;cases M
     .cases M:215#0 with
      | true=>show absurd (wz l M) B
      | false=>cases T:q.testBit k with
        | false=>rfl
        | true=>rw[Y k T]at M;cases M)
    lia
   have o:∀q,(∀k,q.testBit k=true->215#0=true)->q<2^N.n:=λq Y=>gG λk B=>wz l (Y k B)
   have w:∀k,294#(e^^^q)=true->215#0=true:=λk B=>by
    rw[p!]at B;cases M:215#0 with
    | true=>rfl
    | false =>
      cases T:q.testBit k with
      | false=>rw[M,T]at B;cases B
      | true=>rw[Y k T]at M;cases M
   have a:∀q,(∀k,q.testBit k=true->215#0=true)->q≠e->N.iO q->N.par q m=true->∃r,N.Ring r/\(∀k,320#0=true->215#0=true)/\N.par r m=true:=by
    intro q Y i b h;show aG (λr R W M=>?_) (E _ (j q Y i) q rx (o q Y) b h)
    show av r R (λk B=>Y k (W k B)) M
   cases h:N.par q m with
   | true=>show a q Y i b h
   | false =>
     show a (e^^^q) w (λz=>d ?_) (iO.xor u b) (by rw[sj,t,h];rfl)
     have:e^^^(e^^^q)=e^^^e:=by rw[z]
     rwa [<-i?,j_,w?]at this
end
end RM
namespace Ring
open PySem L2
def gC(ts:List ko)(k:Nat):Int:=(dY ts k).2.2
def C2(g:aJ p ts):∀k,k<g.N.n->0<=gC ts k:=λk B=>by
 have:=(g.tR _ (iW B)).l0;unfold gC
 lia
structure Jw(H0:Hp)(D:Addr)(es:183#0)(F:Nat->Bool->190#0)(H:Hp):Prop where
 same:ai H0 H
 nd:es.Nodup
 ne:D∉es
 fr:∀b∈es,H0 b=none
 Dn:H0 D=none
 lst:H D=1#(es.map V.ref)
 at_:∀i b,es[i]?=some b->H b=1#([oV (F i false),oV (F i true)])
def Jw.go{n H Y:Hp}{D:Addr}{l:183#0}{F:Nat->Bool->190#0}(h:Jw n D l F H)(s:ai H Y):Jw n D l F Y :=
 ⟨h.same.trans s,h.nd,h.ne,h.fr,h.Dn,s _ _ h.lst,λi b e=>s _ _ (h.at_ i b e)⟩
def Jw.off(h:Jw n D l F H)(Y:H L=none):L∉l:=λz=>by
 obtain⟨j,J⟩:=T? z;have:=h.at_ j L J;rw[Y]at this;cases this
def Gw(n:Hp)(D:Addr)(i:Nat)(I:List V)(H:Hp):Prop:=∃l,I=l.map V.ref/\l.length=i/\Jw n D l (λ_ _=>none) H
def Gw.start(r:n D=none):Gw n D 0 [] (61#n) :=
 (av [] rx rx ⟨ai.new r,N_,q_,λ_ h=>(q_ h).elim,r,aa,λi b e=>by cases e⟩)
def Gw.len(h:Gw n D i I H):19#H/\I.length<=i:=by
 revert h;show aG λl Y e r=>?_;subst Y
 show⟨r.lst,by rw[Δ];lia⟩
def Gw.next(h:Gw n D i I H)(U:H b=none):159#(η H b (.lst [.eM,.eM]) D)/\Gw n D (i+1) (I++[.ref b]) (η (η H b (.lst [.eM,.eM])) D 66#(I++[.ref b])):=by
 revert h;show aG λl k e r=>?_;subst k
 have f:D≠b:=λz=>by
  have:=r.lst;rw[z,U]at this;cases this
 have t:b∉l:=r.off U;have A:n b=none:=r.same.free U;show⟨by rw[au f];show r.lst,(av (l++[b]) 23#0 (by simp[e]) ⟨(r.same.put A).put r.Dn,?_,?_,λc L=>?_,r.Dn,by rw[aa];simp,λj c L=>?_⟩)⟩
 .show _M.mpr (bj r.nd 23#0 (λx O y X=>by rw[a!.mp X];show λz=>t (z▸O)))
 .intro d;show 316#d
  .show r.ne z
  .show f (a!.mp z)
 .show 316#L
  .show r.fr c z
  .rw[a!.mp z];show A
 .have g:c≠D:=λz=>by
   subst z;show 316#(iu L)
   .show r.ne z
   .show f (a!.mp z)
  rw[au g]
  by_cases d:c=b
  .rw[d,aa];rfl
  .rw[au d]
   by_cases J:j<l.length
   .rw[B? J]at L;show r.at_ j c L
   .rw[J? (by lia)]at L
    have:=iu L;show absurd (a!.mp this) d
end Ring
namespace RM
open Ring (maskOf mask_bit mask_lt)
def qN(h:a^^^b=0):a=b:=by
 have:=k! (λy=>y^^^b) h
 simp only[w?]at this
 rwa [i?,j_,u?]at this
def b!:List Nat->Nat->Nat
 | [],_=>0
 | b::B,z=>(if z.testBit 0=true then b else 0)^^^b! B (z/2)
def QC(a b c d:Nat):(a^^^b)^^^(c^^^d)=(a^^^c)^^^(b^^^d):=S? λi=>by
 simp only[p!];cases a.testBit i<;>cases b.testBit i<;>cases c.testBit i<;>cases d.testBit i<;>rfl
def QD(z y:Nat):(z^^^y)/2=z/2^^^y/2:=S? λi=>by
 rw[p!,<-_c,<-_c,<-_c,p!]
theorem zQ:∀B z y,b! B (z^^^y)=b! B z^^^b! B y
 | [],_,_=>by simp[b!]
 | b::B,z,y=>by
   unfold b!;rw[QD,zQ B,p!,QC]
   congr 1
   cases z.testBit 0<;>cases y.testBit 0<;>simp
theorem wA:∀B,b! B 0=0
 | []=>rfl
 | b::B=>by
   unfold b!;rw[_b,show 0/2=0 from rfl,wA B]
   simp
def QE(i:Nat):2^(i+1)/2=2^i:=by
 rw[Q?,Nat.mul_div_cancel _ 3#0]
theorem Gx:∀{B} {i b},B[i]?=some b->b! B (2^i)=b
 | [],i,b,h=>by simp at h
 | A::B,0,b,h=>by
   have:A=b:=by simpa using h
   subst this;unfold b!;rw[show(2^0:Nat).testBit 0=true from rfl,ο rfl,show(2^0:Nat)/2=0 from rfl,wA,u?]
 | A::B,i+1,b,h=>by
   unfold b!;have F:(2^(i+1)).testBit 0=false:=by rw[D!];simp
   rw[F,ξ 3#0,w?,QE]
   show Gx (B:=B) h
theorem su:∀B b z,b! (B++[b]) z=b! B z^^^(if z.testBit B.length=true then b else 0)
 | [],b,z=>by
   change(if z.testBit 0=true then b else 0)^^^0=0^^^_
   rw[u?,w?];rfl
 | A::B,b,z=>by
   change(if z.testBit 0=true then A else 0)^^^b! (B++[b]) (z/2)=((if z.testBit 0=true then A else 0)^^^b! B (z/2))^^^_
   rw[su B b (z/2),i?,<-_c];rfl
theorem C3:∀B {z},(∀i,i<B.length->z.testBit i=false)->b! B z=0
 | [],_,_=>rfl
 | b::B,z,h=>by
   unfold b!;rw[h 0 23#0,ξ 3#0,w?]
   show C3 B λi Y=>by rw[<-_c];show h (i+1) (by simp;lia)
def LU(B:List Nat):∀z,Sp B (b! B z):=by
 induction B with
 | nil=>intro z;show .zero
 | cons b B E =>
   intro z;have h:Sp (b::B) (b! B (z/2)):=(E (z/2)).mono λc L=>.mem (sY _ L)
   unfold b!;rw[ad2]
   by_cases e:z.testBit 0=true
   .rw[ο e];show h.add h!
   .rw[ξ e,u?];show h
def LV(h:Sp B x):∃z,z<2^B.length/\b! B z=x:=by
 induction h with
 | zero=>show af 0 (I? _) (wA B)
 | add h U E =>
   revert E;show aj λz m e=>?_
   obtain⟨i,Y⟩:=T? U;have a:=(k6.mp Y).1;show af (z^^^2^i) (K? m (_E 3#0 a)) (by rw[zQ,e,Gx Y])
def LW(B:List Nat):Prop:=∀z,z<2^B.length->b! B z=0->z=0
def QF(B:List Nat):Prop:=∀i b,B[i]?=some b->¬ Sp (B.take i) b
def Gy:LW (B++[b])↔LW B/\¬ Sp B b:=by
 have C:48#(B++[b])=B.length+1:=by simp
 constructor
 .intro h;show⟨λz m e=>h z ?_ ?_,λl=>?_⟩
  .rw[C,Q?];lia
  .rw[su,e,a_ m];simp
  .show aj (λy X e=>?_) (LV l)
   have d:2^B.length<2^(B.length+1):=_E 3#0 (by lia)
   have:=h (y^^^2^B.length) (by rw[C];show K? (by lia) d) (by
    have R:(y^^^2^B.length).testBit B.length=true:=by
     rw[p!,a_ X,Nat.testBit_two_pow_self];rfl
    have W:b! B (2^B.length)=0:=C3 B λi Y=>by
     rw[D!];show fV (by lia)
    rw[su,R,ο rfl,zQ,W,e,u?,j_])
   have M:(y^^^2^B.length).testBit B.length=false:=by rw[this,_b]
   rw[p!,a_ X,Nat.testBit_two_pow_self]at M;cases M
 .rintro⟨h,l⟩ z m e;rw[su]at e
  by_cases U:z.testBit B.length=true
  .rw[ο U]at e;have D:b! B z=b:=by
    have:=k! (λy=>y^^^b) e
    simp only[wo,w?]at this;show this
   show absurd (D▸LU B z) l
  .rw[ξ U,u?]at e;show h z ?_ e;show gG λk a=>?_
   have:=g9 m a;rw[C]at this;have:k≠B.length:=λe=>U (e▸a)
   lia
def MZ:QF (B++[b])↔QF B/\¬ Sp B b:=by
 constructor
 .intro h;show 173#(λi c L=>?_)
  .have Y:=(k6.mp L).1;have:=h i c (by rw[B? Y];show L)
   rwa [adL (j? Y)]at this
  .have:=h B.length b 23#0
   rwa [List.take_left' rfl]at this
 .rintro⟨h,l⟩ i c L
  by_cases Y:i<B.length
  .rw[B? Y]at L;rw[adL (j? Y)];show h i c L
  .have C:=(k6.mp L).1;have e:i=B.length:=by simp at C;lia
   subst e;rw[J? (Ξ _),ad1]at L;have:b=c:=by simpa using L
   subst this;rw[List.take_left' rfl];show l
def take_snoc{B:List Nat}(h:B[i]?=some b):B.take (i+1)=B.take i++[b]:=by
 rw[E!,h];rfl
def LX(B:List Nat):LW B↔QF B:=by
 have D:∀n,n<=B.length->(LW (B.take n)↔QF (B.take n)):=by
  intro n
  induction n with
  | zero=>show λ_=>⟨λ_ i b h=>by simp at h,λ_ z m _=>by simp at m;show m⟩
  | succ n E =>
    intro S;have U:B[n]?=some B[n]:=A! S;rw[take_snoc U,Gy,MZ,E (by lia)]
 have:=D B.length (Ξ _)
 rwa [I!]at this
section
variable {N:Net}
structure Base(N:Net)(rs:List Nat):Prop where
 len:rs.length=N.dR.length
 ring:∀r∈rs,N.Ring r/\r<2^N.n
 ind:LW rs
end
end RM
namespace Ring
open PySem L2
def QG{m:Nat}(h:m≠0):7#(47#(m:Int))-1=7#m.log2:=by
 rw[zl,ξ h]
 lia
end Ring
namespace RM
variable {N:Net}{S:247#0}
def nW:LW (b::B)↔LW B/\¬ Sp B b:=by
 have c:∀z,(2*z).testBit 0=false:=λz=>by rw[ad4];show fV (by lia)
 have a:∀z,(2*z+1).testBit 0=true:=λz=>by rw[ad4];show eK (by lia)
 constructor
 .intro h;show⟨λz m e=>?_,λl=>?_⟩
  .have:=h (2*z) (by rw[y!,Q?];lia) (by
    unfold b!;rw[c,ξ 3#0,w?,151#(2*z/2=z)]
    show e)
   lia
  .show aj (λy X e=>?_) (LV l)
   have:=h (2*y+1) (by rw[y!,Q?];lia) (by
    unfold b!;rw[a,ο rfl,show(2*y+1)/2=y by lia,e,j_])
   lia
 .rintro⟨h,l⟩ z m e;unfold b! at e;rw[y!,Q?]at m
  by_cases U:z.testBit 0=true
  .rw[ο U]at e;have D:=qN e;show absurd (D▸LU B (z/2)) l
  .rw[ξ U,w?]at e;have F:=h (z/2) (by lia) e
   rw[ad4,decide_eq_true_iff]at U
   lia
def Te{B C:List Nat}(h:B.Perm C)(x:Nat):Sp B x↔Sp C x :=
 ⟨λz=>z.mono λb U=>.mem (h.mem_iff.mp U),λz=>z.mono λb U=>.mem (h.mem_iff.mpr U)⟩
def QH{B C:List Nat}(h:B.Perm C):LW B↔LW C:=by
 induction h with
 | nil=>show Iff.rfl
 | cons x h E=>rw[nW,nW,E,Te h]
 | swap x y l =>
   rw[nW,nW,nW,nW,Sp.Gp,Sp.Gp,ad2 y x]
   constructor
   .rintro⟨⟨R,W⟩,M⟩;show⟨⟨R,λz=>M (.inl z)⟩,λz=>z.elim W λz=>M (.inr z)⟩
   .rintro⟨⟨R,W⟩,M⟩;show⟨⟨R,λz=>M (.inl z)⟩,λz=>z.elim W λz=>M (.inr z)⟩
 | trans _ _ F a=>show F.trans a
def Base.perm{R a:List Nat}(b:Base N R)(h:a.Perm R):Base N a :=
 ⟨by rw[h.length_eq];show b.len,λr P=>b.ring r (h.mem_iff.mp P),(QH h).mpr b.ind⟩
end RM
namespace L2
open PySem PySem.Spec PyProof.Rows
noncomputable def fC(q:Str)(j:Pos):Array Value:=#[.str q 0,rawInt j.line,rawInt j.col]
def sW(j:Pos)(c:Addr):Array Value:=#[rawInt j.line,rawInt j.col,.ref c]
def iR(H:Hp)(P c:Addr)(oc:Obj)(q:Str)(j:Pos):Hp:=η (η H c (.n9 oc (.own P))) P (.jq (fC q j++sW j c))
def given(H:Hp)(P c:Addr)(q:Str)(j:Pos):Hp:=η (η H c (.own P)) P (.jq (fC q j))
def CodeObj(oc:Obj)(q:Str):Prop:=∃G t,oc.data = .fields G/\G[1]?=some (.str q t)
def CodeObj.rec{h:Heap}(x:CodeObj oc q)(e:h.get? c=some oc):h.CodeRec (.ref c) q :=
 let⟨vs,t,e1,e2⟩:=x
 ⟨c,(bC oc vs t rx e e1 e2)⟩
def VP(x:bL P w H h a (.jq (fC q b))):
 138#(PySem.W.tabObj #[])\/∃c oc,138#(PySem.W.tabObj (sW b c))/\H c=some (.own a)/\h.get? c=some oc/\CodeObj oc q:=by
 revert x;show aj λZ e f=>?_
 rcases f with⟨_,f|⟨c,g,D,i,oc,G,d,L,j,J,U⟩⟩|⟨I,l,k,f,z⟩
 .subst f;show .inl e
 .cases L;subst g;show .inr (aq c oc e D (aR j G d J U))
 .have:=k! Array.size f;rw[Array.size_append,z]at this;show absurd this (by simp[fC])
def QI(x:bL P w H h a (.jq (fC q j++sW j c))):138#(PySem.W.tabObj (sW j c)):=by
 revert x;show aj λZ e f=>?_
 rcases f with⟨f,_⟩|⟨I,l,k,f,z⟩
 .rw[Array.size_append]at f;show absurd f (by simp[fC,sW])
 .have D:=k! (λa=>a.toList.drop 3) f
  simp only[Array.toList_append,fC,sW,List.cons_append,List.nil_append,List.drop_succ_cons,List.drop_zero]at D;have R:Z=sW j c:=by
   apply ad3.mp;show D.symm
  rw[<-R];show e
abbrev Gz(X:Cx)(h:Arguments)(R:Expr)(scope:Scope)(c:Addr)(g:Value):FuncData :=
 PySem.W.kla_fn "<lambda>" (X.env.qual ++ "<lambda>") h R scope 58#0 ((X.mg "__name__").getD .none) (.ref c) g
abbrev gA(X:Cx)(h:Arguments)(R:Expr)(scope:Scope)(c:Addr)(g:Value):Obj :=
 { cls:=.type "function",data:=.func (Gz X h R scope c g)}
section
variable {X:Cx}{pq:cN}{σ:St}{H H2:Hp}{s:Shared}{params:Arguments}{body:Expr}{scope:Scope}{pos:Pos}{own fq:List Str}{js:List Nat}{c P:Addr}
def GA
 (I:5#H) (T:156#own) (hcode:X.env.code = .ref c) (a:PySem.W.codeHdIn X.K c P=true) (S:H P=112#(fC (X.env.qual ++ "<lambda>") pos))
 (hdef:defaultsOf params X.env=([],[]))
 (h:∀f w oc g s',(H w=none\/H w=some (.own P))->w≠P->CodeObj oc (X.env.qual ++ "<lambda>")->θ X ((f,gA X params body scope w g)::pq) σ (iR H P w oc (X.env.qual ++ "<lambda>") pos) s'->Q (.ref f) s') :
 wpAny 9#0 X.A 152#(.Lambda params body scope pos) Q E s:=by
 have hx0:=VP (show bL X.prog X.w H s.heap P (.jq (fC (X.env.qual ++ "<lambda>") pos)) from I.hok P _ S)
 have C:PySem.W.CodeHd s.heap c P:=PySem.W.codeHd_of_K I.qp a;have hg:=I.mod.glob.keeps I.bk;have e:∀b o,24#X.base.get?->b≠P:=λb o q z=>by
  have:=(I.bs b o q).2;rw[z,S]at this;cases this
 have hgP:mainGlobals≠P:=by
  show cK (λo l i q _=>?_) I.mod.glob
  show e _ o q
 have U:s.heap.BuiltinsAt X.mg P:=by
  show fX (λn W=>dI λF a L x j d=>?_) I.mod.bmain
  show bh n W F a (λz=>?_) (dF (e _ _ L) (I.bk _ _ L) x j d)
  show bz (λo l i q hd _=>?_) I.mod.glob
  rw[z,q]at L;cases L;rw[hd]at d;cases d
 have hcl:=lA (gF I T);have a:∀(f w:Addr) (oc:Obj) (g:Value) (W:Heap) (F:Nat),(H w=none\/H w=some (.own P))->w≠P->(H w=none->189#w)->CodeObj oc (X.env.qual ++ "<lambda>")->(∀b o,b≠P->21#o->24#W.get?)->
  W.get? P=some (PySem.W.tabObj (sW pos w))->W.get? w=some oc->189#f->f≠w->W.get? f=some (gA X params body scope w g)->
  θ X ((f,gA X params body scope w g)::pq) σ (iR H P w oc (X.env.qual ++ "<lambda>") pos) { s with heap:=W,toks:=F}:=by
  intro f w oc g W F L R D T O x m Z hfc hft;have N:∀b,H b=none->b≠P:=λb n z=>by rw[z,S]at n;cases n
  have Y:∀b u,H b=some u->(∀y,u≠.own y)->(∀B,u≠.jq B)->iR H P w oc (X.env.qual ++ "<lambda>") pos b=some u:=λb u e l M=>by
   unfold iR;rw[au (λz=>by rw[z,S]at e;show M _ (26#e).symm),au (λz=>by
    rw[z]at e;rcases L with q|q
    .rw[q]at e;cases e
    .rw[q]at e;show l _ (26#e).symm)]
   show e
  have l:∀b,H b=none->(226#b\/b≠w)->iR H P w oc (X.env.qual ++ "<lambda>") pos b=none:=λb n U=>by
   unfold iR;rw[au (N b n),au (λz=>by
    rcases U with q|q
    .rw[z]at q n;show absurd (D n) (Nat.not_le.mpr q)
    .show q z)]
   show n
  have j:Un X.fs [] H (iR H P w oc (X.env.qual ++ "<lambda>") pos) s.heap W:=by
   show⟨λb o q n _ _=>O b o (N b n) q,λb o q n _ _=>⟨o.slots,O b o (N b n) q⟩,λb o q n _=>l b n (.inl (J' q)),λb o q _=>?_,λb t q=>Y b _ q 163#0 163#0,λb o u q=>Y b _ q 163#0 163#0,λb d q=>?_⟩
   .by_cases U:b=P
    .show⟨_,by rw[U];show x⟩
    .show⟨o,O b o U q⟩
   .by_cases U:b=P
    .subst U;rw[S]at q;cases q;show⟨sW pos w,aa⟩
    .show⟨#[],?_⟩;unfold iR;rw[au U,au (λz=>by
      rw[z]at q;rcases L with r|r<;>(rw[r]at q;cases q)),q]
     simp
  have A:qe X.prog X.w (iR H P w oc (X.env.qual ++ "<lambda>") pos) W:=λb u q=>by
   by_cases k:b=P
   .subst k;unfold iR at q;rw[aa]at q;cases q;show af _ x (.inr (bN _ _ _ rx rx))
   .by_cases J:b=w
    .subst J;unfold iR at q;rw[au k,aa]at q;cases q;show cJ m oc m
    .have p:H b=some u:=by
      unfold iR at q;rw[au k,au J]at q;show q
     have G:∀d,H d=some (.own b)->d≠P/\d≠w:=λd i=>⟨cP i S 30#0,λz=>by
      rw[z]at i;rcases L with r|r
      .rw[r]at i;cases i
      .rw[r]at i;cases i;show k rfl⟩
     show(I.hok b u p).stay (λd v hd i=>O d v ?_ i) (λd i=>?_) λd t i=>Y d _ i 163#0 163#0
     .rcases hd with rfl|hd
      .show k
      .show(G d hd).1
     .unfold iR;rw[au (G d i).1,au (G d i).2];show i
  have J:=I.un (t':=F) j A;have d:H f=none:=I.hok.fresh Z;show J.i6 λp t=>?_
  show 37
  .show dF hft (l _ d (.inr hfc)) (X! (g! I.lt Z)) (I.WQ Z) 177#0
  .show J.pin p (j4 _ t)
 show PySem.W.kla_eval hdef ?_;rcases hx0 with e|⟨w,oc,e,j,m,T⟩
 .show PySem.W.kla_makeFunction (mg:=X.mg) hcl I.ok.glob hg hcode C e trivial rx hgP U λw g N F O u d k i=>?_
  revert k;show fX λY oc=>aS λG t D m hd l=>?_
  cases D;have Z:189#N.objs.size:=Ω u (j? d);have R:w≠P:=X! (g! (J' e) u);show h _ w oc g _ (.inl (I.hok.fresh u)) R (aV G t hd l) (a _ w oc g _ F (.inl (I.hok.fresh u)) R (λ_=>u) (aV G t hd l) (λb o U q=>W' _ (O b o U q)) (W' _ i) (W' _ m) Z (X! d) (v! _ rx))
 .have Z:codeAmong pos (sW pos w).toList=some (.ref w):=codeAmong_snoc [] trivial rfl;have d:TriplesOk (sW pos w).toList:=TriplesOk_snoc pos.line pos.col (.ref w) [] trivial;show PySem.W.kla_makeFunctionHit (mg:=X.mg) hcl I.ok.glob hg hcode C e d Z U λg N F B k=>?_
  have R:w≠P:=cP j S 30#0
  have x:∀b o,21#o->24#(N.push (gA X params body scope w g)).get?:=λb o q=>W' _ (B b o q)
  show h _ w oc g _ (.inr j) R T (a _ w oc g _ F (.inr j) R (λz=>by rw[j]at z;cases z) T (λb o _ q=>x b o q) (x _ _ e) (x _ _ m) k (X! (g! (J' m) k)) (v! _ rfl))
def GB{j:St}(h:θ X v j H C)(S:H P=112#(fC q pos))(L:H c=none\/H c=some (.own P))(R:c≠P)(A:CodeObj oc q)
 (I:5#H2) (g:H2 P=112#(fC q pos++sW pos c)) (D:H2 c=some (.n9 oc (.own P))):5#(given H2 P c q pos):=by
 have i:=QI (show bL X.prog X.w H2 s.heap P (.jq (fC q pos++sW pos c)) from I.hok P _ g)
 obtain⟨m,_⟩:=(show bL X.prog X.w H2 s.heap c (.n9 oc (.own P)) from I.hok c _ D)
 have a:∀b,H2 b=none->given H2 P c q pos b=none:=λb n=>by
  unfold given;rw[au (λz=>by rw[z,g]at n;cases n),au (λz=>by rw[z,D]at n;cases n)]
  show n
 have Y:∀b u,b≠P->b≠c->H2 b=some u->given H2 P c q pos b=some u:=λb u l M e=>by
  unfold given;rw[au l,au M];show e
 show⟨I.ok,I.os,I.bare,⟨I.base.keep,I.base.slot,λb o z n O=>a b (I.base.free b o z n O),I.base.there,λb f z=>?_,λb o u z=>?_,λb Z z=>?_⟩,I.loc,I.cell,a _ I.free,λx w z=>a _ (I.iU x w z),λp t=>?_,λb u z=>?_,I.len⟩
 .have r:=I.base.tups b f z;show Y b _ (cP r g 30#0) (cP r D 30#0) r
 .have r:=I.base.l5 b o u z;show Y b _ (cP r g 30#0) (λy=>?_) r
  have B:=h.base.l5 b o u z;rw[y]at B;rcases L with L|L<;>(rw[L]at B;cases B)
 .by_cases U:b=P
  .subst U;obtain⟨E,B⟩:=h.base.qj b Z z;rw[S]at B;show⟨E,by unfold given;rw[aa];show B⟩
  .obtain⟨E,r⟩:=I.base.qj b Z z;show⟨E,Y b _ U (cP r D 30#0) r⟩
 .show dW (λd k N=>?_) (I.pin p t)
  show bj d (a _ k) N
 .by_cases k:b=P
  .subst k;unfold given at z;rw[aa]at z;cases z;show af _ i (.inl 46#(.inr (av c rx ?_ (A.rec m))));unfold given;rw[au R,aa]
  .by_cases J:b=c
   .subst J;unfold given at z;rw[au k,aa]at z;cases z;show⟨oc,m⟩
   .have y:H2 b=some u:=by
     unfold given at z;rw[au k,au J]at z;show z
    show(I.hok b u y).stay (λ_ _ _ r=>r) (λd r=>Y d _ (cP r g 30#0) (cP r D 30#0) r) λd f r=>Y d _ (cP r g 30#0) (cP r D 30#0) r
def GC(a:H P=112#(fC q pos))(L:H c=none\/H c=some (.own P))(R:c≠P)(S:ai (iR H P c oc q pos) H2):ai H (given H2 P c q pos):=λb u e=>by
 unfold given
 by_cases k:b=P
 .subst k;rw[aa,<-a];show e
 .rw[au k]
  by_cases J:b=c
  .subst J;rw[aa];rcases L with L|L
   .rw[L]at e;cases e
   .rw[<-L];show e
  .rw[au J];show S b u ?_;unfold iR;rw[au k,au J];show e
def yU(S:H P=112#(fC q pos))(L:H c=none\/H c=some (.own P))(e:H b=some u)(l:∀y,u≠.own y)(M:∀B,u≠.jq B):iR H P c oc q pos b=some u:=by
 unfold iR;rw[au (λz=>by rw[z,S]at e;show M _ (26#e).symm),au (λz=>by
  rw[z]at e;rcases L with q|q
  .rw[q]at e;cases e
  .rw[q]at e;show l _ (26#e).symm)]
 show e
def zR(X:Cx)(N:List Str)(scope:Scope)(f c:Addr)(A:Around)(s:Shared)(H:Hp):Cx where
 prog:=X.prog
 w:=X.w
 K:=X.K
 mg:=X.mg
 base:=X.base
 A:=A.deeper (286#(X.env.qual ++ "<lambda>"))
 N:=N
 s₀:=s
 H₀:=H
 env:=286#(X.env.qual ++ "<lambda>")
 outer:=X.stack
 stack:=286#(X.env.qual ++ "<lambda>")::X.stack
 ex:=[]
 fn:=λ_=>false
 calm:=X.calm
 pn:=[]
 xe:=52#0
def Tf{A:Around}{R:Heap}(I:5#H)(T:156#([x]))(O:238#76#x)
 (d:A.frames=some X.stack) (N:A.handled=X.A.handled) (r:χ v u) (F:∀b o,21#o->24#R.get?) (S:R.Ns s.heap.objs.size (λy=>[(x,u)].reverse.lookup y)) :
 θ (zR X ([x]++fq) scope f c A s H) [] (some v::iq σ js) H { s with heap:=R,toks:=t1}:=by
 have E:∀x c,(58#0).lookup x=some c->41#x:=λx c h=>by
  rcases my h with q|⟨a,P⟩
  .cases q
  .obtain⟨w,Q⟩:=gF I T x .free a rfl;rw[Q]at P;rw[Q];show k! some P
 show⟨⟨I.ok.mod,T.kind,rfl,rfl,Ξ _,λx y c a b=>I.ok.inj x y c (E x c a) (E y c b),λy M=>?_,λx c z _=>(nomatch z),λL=>N.trans 276#0,Around.frames_deeper d,.inr ⟨rfl,rfl⟩,λb U=>absurd (show b∈([]:183#0) from U) 23#0,
  λb o e=>I.bs b o e,Ω I.ok.OJ I.sz,λb o _ U=>absurd (show b∈([]:183#0) from U) 23#0,λb U=>absurd (show b∈([]:183#0) from U) 23#0,I.stack,I.r4⟩,
  rfl,I.bare,Un.kept F,af _ S λi y P g D d=>?_,λy c e=>?_,270#(Ξ _),λy c e=>I.iU y c (E y c e),λp t=>absurd (show p∈([]:cN) from t) 23#0,I.hok.kept F,?_⟩
 .have M:76#y=some .cell\/76#y=some .free:=M;rcases M with M|M
  .show absurd rx (T.DF _ (F? M))
  .show lB (.inl (F? M))
 .replace g:([x]++fq)[i]?=some y:=g
  cases i with
  | zero =>
    have g:x=y:=by simpa using g
    have D:v=P:=by simpa using D
    subst g D;show af u r (.inl ⟨O,by simp⟩)
  | succ i =>
    have g:fq[i]?=some y:=by simpa using g
    have D:(iq σ js)[i]?=some (some P):=by simpa using D
    show aj (λj J W=>?_) (ze D)
    have Z:X.N[j]?=some y:=by
     have q:=k! (λl=>l[i]?) T.at_
     simp only[j!,J,g,r_]at q;show 26#q
    have p:=T.fr y (iu g);have d:=F? p;have B:=T.free (y,.free) d rfl;show aj (λm C n=>?_) I.loc
    show aj (λa G l=>?_) (n j y P Z W (by rcases B with k | k;show .inr (.inl k);show .inr (.inr k)))
    show af a G (.inr 173#(.inr p));rcases l with⟨e,_⟩|⟨_,Y,L,t⟩
    .have e:40#y:=e;rcases B with k|k<;>(rw[e]at k;cases k)
    .obtain⟨w,Q⟩:=lB (cells:=X.env.cells) (names:=scope.names) (cs:=[]) (x:=y) (.inl d);have q:=E y w Q;rw[L]at q;cases q;show af Y Q (t.keeps F)
 .obtain⟨P,q⟩:=I.cell y c (E y c e);show⟨P,q.keeps F⟩
 .change _=48#([x]++fq);have q:=k! List.length T.at_;rw[Δ,Δ]at q;simp only[y!,U',f_];unfold iq;rw[Δ]
  lia
def GD{A:Around}(I:5#H)(T:156#([x]))(O:238#76#x)
 (q:A.frames=some X.stack) (N:A.handled=X.A.handled) (l:A.depth<recursionLimit) (t:(f,90#g)∈pq) (B:s.heap.CodeRec (.ref c) (X.env.qual ++ "<lambda>"))
 (U:bindArgs (Gz X params body scope c g) ⟨[u],[]⟩=pure [(x,u)]) (k:scope.isCoroutine=false) (a:scope.isGenerator=false)
 (n:PE (zR X ([x]++fq) scope f c A s H) body D) (r:χ v u) (h:D (some v::iq σ js) H Q) :
 wpAny 9#0 A (call (.ref f) [u]) (λd s'=>∃m Y,θ X pq σ Y s'/\χ m d/\Q m Y) E s:=by
 have Z:=I.pin _ (j4 _ t);show wpAny_call (PySem.W.kla_callFunE l Z.1 rx k a rx B ?_);rw[U];show Θ (wpAny_newFunctionEnv (λy p=>T.DF y p) (by intro y p;have:=a!.mp p;subst this;show O) (λW j i=>173#(I.nolimit.fresh _ i)) T.kind)
 change codeAny _ _ (.expr body (286#(X.env.qual ++ "<lambda>"))) _ _;have F:∀b o,21#o->24#W.get?:=λb o e=>i.extBut b o (q! (J' e)) (W' _ e)
 have J:=Tf (f:=f) (c:=c) (A:=A) (t1:=s.toks+[(x,u)].length) I T O q N r F j;show PySem.W.kla_codeExpr (c! (n [] _ _ H Q J h) (λd s' w=>?_) 258#0)
 revert w;show aA λm Y P G C=>?_
 show aq m Y (I.K3 (ch:=[]) P.os P.base P.hok P.bare (λb z=>absurd z 23#0)) G C
end
end L2
namespace HT
theorem je:∀a:List Int,lexLt a a=false
 | []=>rfl
 | x::xs=>by rw[lu,ο rfl];show je xs
theorem ye:∀{a b c},lexLt a b=true->lexLt b c=true->lexLt a c=true
 | [],[],_,h,_=>by rw[s9]at h;cases h
 | [],_::_,[],_,h=>by rw[i7]at h;cases h
 | [],_::_,_::_,_,_=>rfl
 | _::_,[],_,h,_=>by rw[i7]at h;cases h
 | _::_,_::_,[],_,h=>by rw[i7]at h;cases h
 | x::xs,y::ys,z::zs,R,W=>by
   rw[lu]at R W ⊢
   by_cases g:x=y
   .rw[ο g]at R
    by_cases D:y=z
    .rw[ο D]at W;rw[ο (g.trans D)];show ye R W
    .rw[ξ D]at W;rw[ξ (λq=>D (g.symm.trans q)),g]
     show W
   .rw[ξ g]at R;have R:=lZ R
    by_cases D:y=z
    .subst D;rw[ξ g];show eK R
    .rw[ξ D]at W;have W:=lZ W;rw[ξ (by lia)]
     show eK (by lia)
def zS(R:lexLt c b=false)(W:lexLt a b=true):lexLt c a=false:=by
 cases q:lexLt c a with
 | false=>rfl
 | true=>rw[ye q W]at R;cases R
end HT
namespace L2
open PySem PySem.Spec PyProof.Rows
def YM(h:Heap)(a:Addr)(l:Array DictEntry)(i:Nat):Prop:=∃o,138#o/\o.ExactDict/\o.data = .dict l i
def YN(o:Obj)(a:Addr)(i n b:Nat):Prop:=o.cls = .type "dict_keyiterator"/\o.data = .fields #[.ref a,.int i 0,.int n 0,.int b 0]
section
variable {P:Program}{w:World}{A:Around}{E:kj}{s:Shared}{a it:Addr}{es:Array DictEntry}{ep i:Nat}{oi:Obj}
def QJ(l:143#a)(g:YM s.heap a es ep)
 (q:Q (22#.ref) { s with heap:=174#{ cls:=.type "dict_keyiterator",data:=.fields #[.ref a,.int 0 0,.int es.size 0,.int ep 0]}}):79#(pyIter (.ref a)):=by
 revert g;show aG λo j L J=>?_
 have t:s.TypeIs (.ref a) "dict":=af o j L.1;show wpAny_pyIter_slot t PySem.F.slot_dict_iter (wpAny_call_entry PySem.F.slot_dict_iter t PySem.F.entry_dict_iter ?_ (PySem.F.args_dict_iter_1 _));unfold Builtin.«dict.__iter__» Builtin.Dict.dictSlotNone;show aQ (aQ (wpAny_notOrdered_dict t ?_));show 59#(pure (194#0));show Θ ?_;show 59#(Builtin.Dict.showsAll a >>= _);unfold Builtin.Dict.showsAll;rw[l];show aQ (Θ (aQ (wpAny_dictEntries j J (aQ (wpAny_dictEpoch j J ?_)))));show aQ (wpAny_newObj_type (Θ (af _ rfl (aq "dict_keyiterator" _ (af _ (v! _ rfl) rfl) acq.lookup q))))
def zT{Q:227#(Option Value)}(Y:s.heap.get? it=some oi)(g:YN oi a i es.size ep)(v:YM s.heap a es ep)
 (q:match (es[i]?:Option DictEntry) with
  | some e=>∀h' c,h'.get? it=some c->YN c a (i+1) es.size ep->Heap.SameBut it s.heap h'->Q (some e.key) 153#0
  | none=>A.handled=none/\∀h',Heap.ExtBut it s.heap h'->Q none 153#0):79#(279#it):=by
 obtain⟨L,J⟩:=g
 revert v;show aG λo j O h=>?_
 have t:s.TypeIs (.ref it) "dict_keyiterator":=af oi Y L;unfold pyNext;show 296#(wpAny_callSpecial?_slot (name:=Str.ofString "__next__") t acq (wpAny_call_entry acq t PySem.F.entry_dict_keyiterator_next ?_ (PySem.F.args_dict_keyiterator_next_1 _)));show aQ (Θ (aQ (aQ ?_)))
 first | show aQ (wpAny_typeNameOfWhole_keyiter t (Θ ?_)) | show aQ (wpAny_typeNameOf_keyiter t (Θ ?_))
 show aQ (wpAny_fieldsOf Y J ?_);have f:Builtin.Dict_items.ownsTuple "dict_keyiterator"=false:=by decide
 simp only[f,L?,if_false];show 59#237#(194#0==Value.none)
 rw[ξ (show ¬((194#0==Value.none)=true) from n!)]
 show aQ (Θ (aQ (wpAny_dictEntries j h ?_)));rw[ξ 23#0]
 show aQ (Θ (aQ (wpAny_dictEpoch j h ?_)));rw[ξ 23#0]
 show Θ ?_;simp only[show ¬((i:Int)<0) from by lia,if_false,l!]
 cases x:(es[i]?:Option DictEntry) with
 | some e =>
   rw[x]at q;show aQ ?_
   first | show aQ (wpAny_typeNameOfWhole_keyiter t (Θ ?_)) | show aQ (wpAny_typeNameOf_keyiter t (Θ ?_))
   show aQ (wpAny_isOneOf_keyiter t ?_);show 59#(setField (.ref it) 1 (rawInt ((i:Int)+1)) >>= _);show aQ (wpAny_setField Y J 23#0 ?_)
   have B:=o_ J (·.setIfInBounds 1 (rawInt ((i:Int)+1)));have d:=D? (Obj.mapFields (·.setIfInBounds 1 (rawInt ((i:Int)+1)))) Y (D_ B);have U:(Obj.mapFields (·.setIfInBounds 1 (rawInt ((i:Int)+1))) oi).cls = .type "dict_keyiterator":=(_K ..).trans L;show aQ (t! ?_);show aQ (wpAny_isOneOf_keyiter (s:={ s with heap:=s.heap.update it (Obj.mapFields (·.setIfInBounds 1 (rawInt ((i:Int)+1))))}) (af _ d U) ?_)
   show 50#(pure e.key);show Θ (Θ (af _ rx (Θ (q _ _ d ⟨U,by rw[B];simp[rawInt]⟩ (Y! ..)))))
 | none =>
   rw[x]at q;obtain⟨N,q⟩:=q;show aQ ?_
   first | show aQ (wpAny_typeNameOfWhole_keyiter t (Θ ?_)) | show aQ (wpAny_typeNameOf_keyiter t (Θ ?_))
   show 59#(setField (.ref it) 0 .none >>= _);show aQ (wpAny_setField Y J 23#0 ?_)
   show 50#(newExc (.type "StopIteration") [] >>= _);show aQ ?_;simp only[newExc,newTuple];show aQ (wpAny_newObj_type (aQ (m:=firstArgMember _ _) (wpAny_of_eq (a:=Value.none) (by first | rfl | (simp only[firstArgMember];rfl)) (260#0))) (by size_fits))
   simp only[raiseNew];show aQ (wpAny_handled ?_);rw[show A.in1.handled=none from N]
   show aQ (Θ (wpAny_throw ?_));show aQ (wpAny_isInstance (T:="StopIteration") (b:=true) (af _ (v! _ rfl) rfl) isSubtype_stop (Θ ?_));show q _ (((Y! ..).extBut.push _).push _)
end
section
variable {X:Cx}{pq:cN}{σ:St}{H H2:Hp}{s:Shared}
def θ.Tg(I:5#H)(e:H a=some (.dT xs))(j:s.heap.get? a=some ob):5#(η H a (.n9 ob (.dT xs))) :=
 I.swap e 164#0 164#0 164#0 (λb o u q=>cP (I.base.l5 b o u q) e 30#0) λm i=>⟨j,(I.hok a _ e).stay (λ_ _ _ q=>q) m i⟩
def θ.XJ{j:St}(h:θ X v j H g)(T:H a=some (.dT xs))(I:5#H2)(e:H2 a=some (.n9 ob (.dT xs))):5#(η H2 a (.dT xs)) :=
 I.swap e 164#0 164#0 164#0 (λb o u q=>cP (h.base.l5 b o u q) T 30#0) λm i=>(show bL X.prog X.w H2 s.heap a (.n9 ob (.dT xs)) from I.hok a _ e).2.stay (λ_ _ _ q=>q) m i
def Jx(X:Cx)(b:Addr):Prop:=167#b/\128#b/\b∉X.fs/\(∀x c,41#x->c≠b)/\∀p∈X.pn,p.1≠b
def θ.QK(I:5#H){b:Addr}(U:189#b):Jx X b :=
 let⟨_,f1,f2,_,f4,f5⟩:=I.Bh U (I.hok.fresh U)
 (dF (Ω I.sz U) f1 f2 f4 (λp t=>f5 p (R4 _ t)))
def θ.mD{h' : Heap}(I:θ X y σ H s)(U:Jx X b)(f:(b,o)∈y)(k:∀c u,c≠b->s.heap.get? c=some u->h'.get? c=some u)
 (t:∀p∈pb,(p.1=b/\144#p.2/\∀v,p.2.data≠.cell v)\/(p∈y/\p.1≠b)):θ X pb σ H { s with heap:=h',toks:=t'}:=by
 revert U;show kG λF a L x j=>?_
 have n:=(I.pin (b,o) (j4 _ f)).2.1;have J:=(I.i6 (yq:=y.filter λp=>11#(p.1≠b)) λp t=>I.pin p (j4 _ (J!.mp t).1)).turned (t':=t') k n a (.inr F) x (λp t=>by
  rcases d!.mp t with t|t
  .show j p t
  .show lZ (J!.mp t).2)
 show J.i6 λp h=>?_
 rcases t p h with⟨e,g,d⟩|⟨m,G⟩
 .show dF (by rw[e];show g) (by rw[e];show n) (by rw[e];show a) (by rw[e];show L) d
 .show J.pin p (j4 _ (J!.mpr ⟨m,eK G⟩))
end
section
variable {X:Cx}{pq:cN}{σ:St}{H2:Hp}{params:Arguments}{body:Expr}{scope:Scope}{fq:List Str}{js:List Nat}{x:Str}{te:TE}{f c a It S:Addr}{oc ob:Obj}{ctv:Value}{q:Str}{kvs:212#V}
 {es:Array DictEntry} {ep:Nat} {ka:Nat->Addr} {ks:Nat->List Int} {PZ:Addr} {R:227#Result}
structure Jy(X:Cx)(σ:St)(H2:Hp)(params:Arguments)(body:Expr)(scope:Scope)(fq:List Str)(js:List Nat)(x:Str)(te:TE)(f c a It S:Addr)(oc ob:Obj)(ctv:Value)(kvs:212#V)(es:Array DictEntry)(ep:Nat)(ka:Nat->Addr)(ks:Nat->List Int)(PZ:Addr):Prop where
 T:156#([x])
 hx:238#76#x
 hh:X.A.handled=none
 dp:X.A.in1.depth<recursionLimit
 un:X.A.in1.units<cLine
 hb:∀u,bindArgs (Gz X params body scope c ctv) ⟨[u],[]⟩=pure [(x,u)]
 co:scope.isCoroutine=false
 gen:scope.isGenerator=false
 he:∀s H,PE (zR X ([x]++fq) scope f c X.A.in1 s H) body te
 code:CodeObj oc (X.env.qual ++ "<lambda>")
 hc:H2 c=some (.n9 oc (.own PZ))
 ha:H2 a=some (.n9 ob (.dT kvs))
 hob:ob.ExactDict/\ob.data = .dict es ep
 key:∀(i:Nat) (e:DictEntry),(es[i]?:Option DictEntry)=some e->e.key = .ref (ka i)
 turn:∀i H3,i<es.size->ai H2 H3->te (20#(ka i)::iq σ js) H3 λv H4=>ai H3 H4/\∃d,v = .ref d/\aZ X.K H4 d (302#(ks i))
 oS:Jx X S
 oI:Jx X It
 SI:S≠It
 fS:f≠S
 fI:f≠It
def GF(F:Jy X σ H2 params body scope fq js x te f c a It S oc ob ctv kvs es ep ka ks PZ)(Y:i<es.size)(l:ai H2 w)(I:θ X y σ w s)
 (Z:(f,90#ctv)∈y) :
 wpAny 9#0 X.A.in1 (call (.ref f) [.ref (ka i)]) (λu s'=>∃d g,u = .ref d/\θ X y σ g s'/\ai H2 g/\ai w g/\aZ X.K g d (302#(ks i))) E s:=by
 obtain⟨m,_⟩:=(show bL X.prog X.w w s.heap c (.n9 oc (.own PZ)) from I.hok c _ (l _ _ F.hc))
 show c! (GD (v:=.ref (ka i)) I F.T F.hx I.ok.frames rx F.dp Z (F.code.rec m) (F.hb _) F.co F.gen (F.he s w) rx (F.turn i w Y l)) (λu s'=>br λv g J=>bG λr O d e P=>?_) λ_ _ z=>z
 subst e;cases r;show dU d g rx J (λb o z=>O _ _ (l _ _ z)) O P
def QL{ns z:List Int}{A:Around}(I:θ X y σ w s)(b:aZ X.K w d 264#0)(W:aZ X.K w d' (z.map V.int))(G:A.units<cLine)
 (q:Q (.bool (HT.lexLt ns z)) s):wpAny 9#0 A (richCompare .Lt (.ref d) (.ref d')) Q E s:=by
 show aG (λg J R _=>?_) (I.tuple b)
 show aG (λZ i F _=>?_) (I.tuple W)
 show(HT.IL R F (intsAre_of J) (intsAre_of i) G q:wpAny 9#0 A (compareOp .Lt (.ref d) (.ref d')) Q E s)
abbrev sy(pq:cN)(S It f:Addr)(G E lo:Obj):cN:=(S,G)::(It,E)::(f,lo)::pq
def QM(F:Jy X σ H2 params body scope fq js x te f c a It S oc ob ctv kvs es ep ka ks PZ)(Z:∀p∈pq,p.1≠It)(pS:∀p∈pq,p.1≠S)
 (D:∀i s' w,i<es.size->(∀j,j<es.size->HT.lexLt (ks j) (ks i)=false)->ai H2 w->θ X pq σ w s'->R (196#(.ref (ka i))) s') :
 ∀r j i s w d n z,es.size-j=r->j<=es.size->i<j->ai H2 w->θ X (sy pq S It f (seqObj "list" #[.ref (ka i),.ref d] n) z (90#ctv)) σ w s->YN z a j es.size ep->
   aZ X.K w d (302#(ks i))->(∀g,g<j->HT.lexLt (ks g) (ks i)=false)->codeAny 9#0 X.A (.builtin "min.loop" ⟨[.ref It,.ref f,.ref S],[]⟩) R s:=by
 have k:(toString "min" ++ toString ".loop":String)="min.loop":=by decide
 intro r
 induction r with
 | zero =>
   intro j i s w d n z P G C l I B J Y;have h:j=es.size:=by lia
   have Q:=I.pin (S,_) 64#j4;have A:=I.pin (It,z) (j4 _ 64#.tail);obtain⟨q,_⟩:=(show bL X.prog X.w w s.heap a (.n9 ob (.dT kvs)) from I.hok a _ (l _ _ F.ha))
   show 217#B_;rw[273#0];change 42#(seqItems? (.ref S));show aQ (wpAny_seqItems Q.1 rx ?_);show 295#(279#It);show aQ (O? (zT A.1 B (af ob q F.hob) ?_));rw[h,Array.getElem?_eq_none (Ξ _)];show⟨F.hh,λy o=>?_⟩
   have T:=I.mD (t':=s.toks) (h':=y) (pb:=(S,seqObj "list" #[.ref (ka i),.ref d] n)::pq) F.oI 64#List.Mem.tail (λb u U e=>o b u U e) (λp t=>by
    show 37
    .show .inr ⟨.head _,F.SI⟩
    .show .inr ⟨.tail _ (271#0),Z p t⟩)
   have m:=T.pin (S,_) 64#j4;change 42#(updateSeq S (λ_=>#[]))
   show aQ (wpAny_updateSeq m.1 rx (aQ (wpAny_letGo (Θ ?_))));have s1:=Y! y S (39#(#[]))
   show D i _ w (by lia) (λg v=>Y g (by lia)) l (T.mD (t':=s.toks) (pb:=pq) F.oS (.head _) (λb u U e=>(s1.2 b U).trans e) λp t=>.inr ⟨.tail _ t,pS p t⟩)
 | succ r E =>
   intro j i s w d n z P G C l I B J Y;have h:j<es.size:=by lia
   have Q:=I.pin (S,_) 64#j4;have A:=I.pin (It,z) (j4 _ 64#.tail);obtain⟨q,_⟩:=(show bL X.prog X.w w s.heap a (.n9 ob (.dT kvs)) from I.hok a _ (l _ _ F.ha))
   show 217#B_;rw[273#0];change 42#(seqItems? (.ref S));show aQ (wpAny_seqItems Q.1 rfl ?_);show 295#(279#It);show aQ (O? (zT A.1 B (af ob q F.hob) ?_));have W:(es[j]?:Option DictEntry)=some es[j]:=Array.getElem?_eq_getElem h;rw[W];intro y o m q r;have T:=I.mD (t':=s.toks) (h':=y) (pb:=sy pq S It f (seqObj "list" #[.ref (ka i),.ref d] n) o (90#ctv)) F.oI 64#List.Mem.tail (λb u U e=>(r.2 b U).trans e) (λp t=>by
    show 37
    .show .inr ⟨.head _,F.SI⟩
    .show 37
     .show .inl (bj rx m (λv z=>by rw[q.2]at z;cases z))
     .show 37
      .show .inr ⟨.tail _ 64#.tail,F.fI⟩
      .show .inr ⟨.tail _ (271#0),Z p t⟩)
   rw[F.key j _ W];show 295#(holding [.ref (ka j)] (call (.ref f) [.ref (ka j)]));show aQ (O? (t! (c! (GF F h l T (List.Mem.tail _ 64#.tail)) (λu N G=>?_) λ_ _ z=>z)))
   revert G;show fX λO l=>kG λL h s m H=>?_;subst L
   have r:aZ X.K l d (302#(ks i)):=m.sqT J;show 295#(holding [.ref (ka j),.ref O] (richCompare .Lt (.ref O) (.ref d) >>= _));show aQ (O? (t! (aQ (QL h H r F.un ?_))));show aQ (t! (wpAny_truthy_bool (aQ (wpAny_letGo (Θ ?_)))));have y:=h.pin (S,_) 64#j4;cases C:HT.lexLt (ks j) (ks i) with
   | true =>
     have s1:=Y! N.heap S (39#(#[.ref (ka j),.ref O]))
     obtain⟨M,m⟩:∃M,(N.heap.update S (39#(#[.ref (ka j),.ref O]))).get? S=some (seqObj "list" #[.ref (ka j),.ref O] M):=⟨_,get?_update_seq y.1 λ_=>#[.ref (ka j),.ref O]⟩
     simp only[if_true];show aQ (wpAny_updateSeq y.1 rfl (aQ (wpAny_letGo ?_)));rw[k];have w:=h.mD (t':=N.toks) (pb:=sy pq S It f (seqObj "list" #[.ref (ka j),.ref O] M) o (90#ctv)) F.oS (.head _) (λb u U e=>(s1.2 b U).trans e) (λp t=>by
      show 37
      .show .inl (bj rx m (177#0))
      .show 37
       .show .inr ⟨.tail _ (.head _),F.SI.symm⟩
       .show 37
        .show .inr ⟨.tail _ 64#.tail,F.fS⟩
        .show .inr ⟨.tail _ (271#0),pS p t⟩)
     show 307#(E (j+1) j _ l O M o (by lia) (by lia) (by lia) s w q H λg v=>?_)
     by_cases e:g=j
     .rw[e];show HT.je _
     .show HT.zS (Y g (by lia)) C
   | false =>
     simp only[L?,if_false];show aQ (wpAny_letGo ?_);rw[k];show 307#(E (j+1) i _ l d n o (by lia) (by lia) (by lia) s h q r λg v=>?_)
     by_cases e:g=j
     .rw[e];show C
     .show Y g (by lia)
end
def boot_min:bootBuiltins "min"=some (.builtin "min"):=by kernel_rfl
def XM(K:bY)(P:Addr)(q:Str)(e:Pos)(z:TA)(U:TE)(js:List Nat):TE:=λM H Q=>z M H λG S=>∃a N,∃L:Nat->List Int,G=[.ref a]/\S a=some (.dT N)/\0<N.length/\S P=112#(fC q e)/\
 (∀W w,(∀b u,S b=some u->b≠a->(∀y,u≠.own y)->(∀B,u≠.jq B)->w b=some u)->w a=some (.n9 W (.dT N))->
  ∀(i:Nat) kv b,N[i]?=some kv->w b=17#(kv.1.map kV)->U (240#0::iq M js) w λv X=>ai w X/\∃d,v = .ref d/\aZ K X d (302#(L i)))/\
 ∀(i:Nat) kv b X,N[i]?=some kv->(∀j,j<N.length->HT.lexLt (L j) (L i)=false)->ai S X->X b=17#(kv.1.map kV)->Q (.ref b) X
theorem wB:∀{e:List m} {c:List d},Paired R e c->∀{i:Nat} {a} {b},e[i]?=some a->c[i]?=some b->R a b
 | _,_,.nil,i,_,_,h,_=>by simp at h
 | _,_,.cons r t,0,_,_,f,W=>by
   simp at f W;subst f W;show r
 | _,_,.cons r t,i+1,_,_,f,W=>wB t (by simpa using f) (by simpa using W)
section
variable {X:Cx}{params:Arguments}{body e:Expr}{scope:Scope}{lp p pos kp:Pos}{fq:List Str}{js:List Nat}{x:Str}{ta:TA}{te:TE}{c0 P:Addr}{k:Nat}
def Th(l:fF (k+2) X.A)(T:156#([x]))(O:238#76#x)(a:Gl X "min")(d:X.mg "min"=none)(i:X.env.code = .ref c0)(b:PySem.W.codeHdIn X.K c0 P=true)(W:PA X [e] ta)
 (he:∀f c s H,fF k (zR X ([x]++fq) scope f c X.A.in1 s H).A->PE (zR X ([x]++fq) scope f c X.A.in1 s H) body te)
 (U:∀c ctv u,bindArgs (Gz X params body scope c ctv) ⟨[u],[]⟩=pure [(x,u)]:=by intro _ _ _;rfl) (R:scope.isCoroutine=false:=by rfl) (hgen:scope.isGenerator=false:=by rfl)
 (j:defaultsOf params X.env=([],[]):=by rfl)
 (n:259#15#([e])=33#e::259#15#([]):=by rfl) (o:(259#15#([e])).any (·.1)=false:=by rfl) :
 PE X (.Call (.Name "min" p) [e] [⟨some (Str.ofString "key"),.Lambda params body scope lp,kp⟩] pos) (XM X.K P (X.env.qual ++ "<lambda>") lp ta te js):=by
 show 68;show 248#(k7 I a d boot_min (callWith_kw (eg (275#pos) λg q m=>?_) n o rx rx))
 revert m;show aA λG S I1 n=>gZ λa d v=>dI λh g o W hturn VQ=>?_;subst h
 show aj (λu h B=>?_) (vals1 n);subst h
 cases B;show kws_cons (GA I1 T i b W j λf c q ctv N L VR hoc J=>kws_nil ?_)
 change wpAny _ X.A (call (.builtin "min") [.ref a] [(Str.ofString "key",.ref f)]) _ _ N;have hname:(toString "min" ++ toString ".loop":String)="min.loop":=by decide
 have h:=yU (oc:=q) W L g 163#0 163#0
 show bG (λm o j b=>bV λQ I r hgo hex hdat hes g=>?_) (show bL X.prog X.w (iR S P c q (X.env.qual ++ "<lambda>") lp) N.heap a (.dT d) from J.hok a _ h)
 have m:=J.Tg h hgo;have hsz:I.size=d.length:=by
  have:=k! List.length hes;rw[Δ,<-b.length]at this
  simpa using this
 have g:j.length=d.length:=b.length.symm;have hka:∀i,i<d.length->∃C y,d[i]?=some C/\j[i]?=some y/\iR S P c q (X.env.qual ++ "<lambda>") lp y.2.1=17#(C.1.map kV):=λi Y=>by
  have G:d[i]?=some d[i]:=A! Y;have D:j[i]?=some (j[i]'(by lia)):=A! _
  show aq _ _ G D ((wB b G D).2.1)
 have hPL:iR S P c q (X.env.qual ++ "<lambda>") lp P=112#(fC (X.env.qual ++ "<lambda>") lp++sW lp c):=aa;have ZQ:iR S P c q (X.env.qual ++ "<lambda>") lp c=some (.n9 q (.own P)):=by unfold iR;rw[au VR,aa]
 have ca:c≠a:=cP ZQ h 30#0
 have pa:P≠a:=cP hPL h 30#0
 generalize g:η (iR S P c q (X.env.qual ++ "<lambda>") lp) a (.n9 Q (.dT d))=Z at m;have B:∀b u,b≠a->iR S P c q (X.env.qual ++ "<lambda>") lp b=some u->Z b=some u:=λb u n e=>by rw[<-g,au n];show e
 have a2:Z a=some (.n9 Q (.dT d)):=by rw[<-g,aa]
 let g:Nat->Addr:=λi=>((j[i]?).map (·.2.1)).getD 0
 have VS:∀{i:Nat} {y:List Key×Addr×Value},j[i]?=some y->g i=y.2.1:=λ{i y} e=>by change((j[i]?).map (·.2.1)).getD 0=_;rw[e];rfl
 show kmk_tree PySem.F.kind_min PySem.F.plain_min PySem.F.entry_min (kmk_min_key _ _) ?_;change wpAny _ X.A.in1 (Builtin.Builtins.bindParams "min" ["key","default"] 0 ⟨[],[(Str.ofString "key",.ref f)]⟩ >>= _) _ _ N;show aQ (wpAny_of_eq (show Builtin.Builtins.bindParams "min" ["key","default"] 0 ⟨[],[(Str.ofString "key",.ref f)]⟩=pure [some (.ref f),none] from rfl) ?_)
 show aQ (Θ (aQ (QJ o (av Q hgo hex hdat) (aQ (wpAny_newList ?_ (r! _))))));rw[hname];show Θ 173#(plainId_quiet d? _);generalize j:({ cls:=.type "dict_keyiterator",data:=.fields #[.ref a,.int 0 0,.int I.size 0,.int r 0]}:Obj)=E;have hkI:YN E a 0 I.size r:=by rw[<-j];show⟨rfl,rfl⟩
 have S:95#E=N.heap.objs.size+1:=size_push' ..;have hk2:∀b o,24#N.heap.get?->24#((N.heap.push E).push (seqObj "list" #[] 0)).get?:=λb o e=>W' _ (W' _ e)
 have gI:211#((N.heap.push E).push (seqObj "list" #[] 0)).get?=some E:=W' _ (v! _ (by rw[<-j];rfl))
 have gS:((N.heap.push E).push (seqObj "list" #[] 0)).get? 95#E=some (seqObj "list" #[] 0):=v! _ rfl;have o:∀p∈(f,90#ctv)::A,p.1<N.heap.objs.size:=λp t=>J' (m.pin p (j4 _ t)).1
 have ZR:=m.QK (211#Ξ);have oS:=m.QK (b:=95#E) (by rw[S];show Q! _)
 have F:Jy X M Z params body scope fq js x te f c a N.heap.objs.size 95#E q Q ctv d I r g v P:=by
  show⟨T,O,l.hd,(l.in1).depth,(l.in1).IK,λu=>U c ctv u,R,hgen,λs H=>he f c s H ((l.in1).deeper _),hoc,B c _ ca ZQ,a2,⟨hex,hdat⟩,λi e Y=>?_,λi w Y v=>?_,oS,ZR,by rw[S];show Z_ _,?_,q! 64#o⟩
  .have j:i<d.length:=by rw[<-hsz];show(z_.mp Y).1
   show aA (λC y G D _=>?_) (hka i j)
   have R:=k! (λl=>l[i]?) hes
   simp only[j!,D,r_,Array.getElem?_toList]at R;rw[Y]at R;have r:=26#R;rw[r,VS D];rfl
  .show aA (λC y G D R=>?_) (hka i (by lia))
   show hturn Q w (λb u r j l n=>v _ _ (B b u j (yU W L r l n))) (v _ _ a2) i C (g i) G ?_
   rw[VS D];show v _ _ (B _ _ (cP R h 30#0) R)
  .rw[S];show q! (e_ 64#o)
 have O:∀p∈A,p.1≠N.heap.objs.size:=λp t=>q! (o p (.tail _ t))
 have T:∀p∈A,p.1≠95#E:=λp t=>by rw[S];show q! (e_ (o p (.tail _ t)))
 have l:θ X (sy A 95#E N.heap.objs.size f (seqObj "list" #[] 0) E (90#ctv)) M Z { N with heap:=(N.heap.push E).push (seqObj "list" #[] 0)}:=by
  have K:=m.kept (t':=N.toks) hk2;show K.i6 λp t=>?_
  show 37
  .show dF gS (m.hok.fresh (by rw[S];show Q! _)) oS.2.1 oS.2.2.1 177#0
  .show 37
   .show dF gI (m.hok.fresh (Ξ _)) ZR.2.1 ZR.2.2.1 λv z=>by rw[hkI.2]at z;cases z
   .show K.pin p (j4 _ t)
 have m:0<I.size:=by lia
 have s:(I[0]?:Option DictEntry)=some I[0]:=Array.getElem?_eq_getElem m;have o:=l.pin (95#E,seqObj "list" #[] 0) 64#j4;have j:=l.pin (N.heap.objs.size,E) (j4 _ 64#.tail);show 217#B_;rw[273#0];change 42#(seqItems? (.ref _));show aQ (wpAny_seqItems o.1 rfl ?_);show 295#(pyNext (211#.ref));show aQ (O? (zT j.1 hkI (av Q (hk2 _ _ hgo) hex hdat) ?_));rw[s];intro j o M H Q;have I:=l.mD (t':=N.toks) (h':=j) (pb:=sy A 95#E N.heap.objs.size f (seqObj "list" #[] 0) o (90#ctv)) F.oI 64#List.Mem.tail (λb u U e=>(Q.2 b U).trans e) (λp t=>by
  show 37
  .show .inr ⟨.head _,F.SI⟩
  .show 37
   .show .inl (bj rx M (λv z=>by rw[H.2]at z;cases z))
   .show 37
    .show .inr ⟨.tail _ 64#.tail,F.fI⟩
    .show .inr ⟨.tail _ (271#0),O p t⟩)
 rw[F.key 0 _ s];show 295#(holding [.ref (g 0)] (call (.ref f) [.ref (g 0)]));show aQ (O? (t! (c! (GF F m 186#0 I (List.Mem.tail _ 64#.tail)) (λu j S=>?_) λ_ _ z=>z)))
 revert S;show fX λl M=>kG λI s Z _ Q=>?_;subst I
 have I:=s.pin (95#E,_) 64#j4;have s1':=Y! j.heap 95#E (39#(#[.ref (g 0),.ref l]))
 obtain⟨n,S⟩:∃n,(j.heap.update 95#E (39#(#[.ref (g 0),.ref l]))).get? 95#E=some (seqObj "list" #[.ref (g 0),.ref l] n):=⟨_,get?_update_seq I.1 λ_=>#[.ref (g 0),.ref l]⟩
 change 42#(updateSeq 95#E (λ_=>#[.ref (g 0),.ref l]))
 show aQ (wpAny_updateSeq I.1 rfl ?_);rw[hname];have I:=s.mD (t':=j.toks) (pb:=sy A 95#E N.heap.objs.size f (seqObj "list" #[.ref (g 0),.ref l] n) o (90#ctv)) F.oS (.head _) (λb u U e=>(s1'.2 b U).trans e) (λp t=>by
  show 37
  .show .inl (bj rx S (177#0))
  .show 37
   .show .inr ⟨.tail _ (.head _),F.SI.symm⟩
   .show 37
    .show .inr ⟨.tail _ 64#.tail,F.fS⟩
    .show .inr ⟨.tail _ (271#0),T p t⟩)
 show 307#(QM F O T (λi A w Y s v f=>?_) _ 1 0 _ M l n o rx m (K_ _) Z I H Q λj t=>?_)
 .show aA (λC y G D R=>?_) (hka i (by lia))
  have l:=v _ _ a2;have m:=θ.XJ J h f l;have l:η w a (.dT d) P=112#(fC (X.env.qual ++ "<lambda>") lp++sW lp c):=by rw[au pa];show v _ _ (B _ _ pa hPL)
  have f:η w a (.dT d) c=some (.n9 q (.own P)):=by rw[au ca];show v _ _ (B _ _ ca ZQ)
  have n:=GB I1 W L VR hoc m l f;have m:y.2.1≠a:=cP R h 30#0
  have c:η w a (.dT d) y.2.1=17#(C.1.map kV):=by rw[au m];show v _ _ (B _ _ m R)
  show aq (.ref (g i)) _ n rx (VQ i C (g i) _ G (λj t=>s j (by lia)) (GC W L VR (oc:=q) λb u r=>?_) ?_)
  .by_cases U:b=a
   .subst U;rw[h]at r;rw[aa];show r
   .rw[au U];show v _ _ (B _ _ U r)
  .rw[VS D];unfold given;rw[au (cP c l 30#0),au (cP c f 30#0)]
   show c
 .have e:j=0:=by lia
  rw[e];show HT.je _
end
section
variable {P:Program}{w:World}{A:Around}{E:kj}{s:Shared}{a:Addr}{es:Array DictEntry}{ep:Nat}
def VT(J:143#a):MeetsIn P w (Builtin.«dict.__len__» ⟨[.ref a],[]⟩) (λ_ R s=>∃es ep,YM s.heap a es ep/\R (196#(.int es.size s.toks)) 110#0) :=
 .of_wp λA R s ⟨es,ep,⟨o,j,_,b⟩,h⟩=>by
  show 59#(dictSize a >>= _);unfold dictSize;show aQ (aQ (wpAny_dictEntries j b (Θ ?_)));show 59#(Builtin.Dict.pendingCount a >>= _);show aQ (wpAny_pendingCount_other J (wpAny_ret_mkInt ?_));rw[Nat.add_zero];show h
def M0(J:143#a)(g:YM s.heap a es ep)(b:(es.size:Int)<2^63)(h:Q (.int es.size (s.toks+1)) { s with toks:=s.toks+1+1}):
 79#(call (.builtin "len") [.ref a]):=by
 have t:s.TypeIs (.ref a) "dict":=let⟨o,ho,hc,_⟩:=g;(af o ho hc.1);show Calls.call_function_entry kind_len plain_len entry_len (args_len1 _) ?_;unfold Builtin.«len»;show aQ (m:=oneArg "len" _) (Θ ?_);show aQ (m:=callSpecial? (.ref a) (Str.ofString "__len__")) (wpAny_callSpecial?_slot (name:=Str.ofString "__len__") t PySem.F.slot_dict_len
  (call_meetsIn PySem.F.slot_dict_len t PySem.F.entry_dict_len (PySem.F.args_dict_len_1 _) (VT J) (aV es ep g ?_)))
 change wpAny _ _ _ _ _ 110#0
 show aQ (t! (Θ (aQ (wpAny_letGo ?_))));show 50#(308#(7#es.size<0))
 rw[ξ (by lia)]
 show 50#(308#(7#es.size ≥ 2^63))
 rw[ξ (by lia)]
 show aQ (wpAny_mkInt (Θ (af _ rx h)))
end
theorem erase_filter{K m:Type}[DecidableEq K]{k:K}{p:m}:∀{xs:List (K×m)} {j},(xs.map (·.1)).Nodup->xs[j]?=some (k,p)->xs.eraseIdx j=xs.filter λx=>11#(x.1≠k)
 | [],j,_,h=>by simp at h
 | x::r,0,nd,h=>by
   simp at h;subst h;rw[w!,U!]at nd;rw[List.eraseIdx_cons_zero,P!,ξ 23#0]
   show(List.filter_eq_self.mpr λy X=>?_).symm
   have z:y.1≠k:=λz=>nd.1 (i!.mpr (af y X z))
   simp[z]
 | x::r,j+1,nd,h=>by
   rw[w!,U!]at nd;have h:r[j]?=some (k,p):=by simpa using h
   have O:x.1≠k:=λz=>nd.1 (by rw[z];show V_ (f:=(·.1)) (iu h))
   rw[ac7,P!,ο (eK O),erase_filter nd.2 h]
theorem tE{m d:Type}(f:m->d):∀(l:List m) i,(l.map f).eraseIdx i=(l.eraseIdx i).map f
 | [],_=>rfl
 | _::_,0=>rfl
 | x::r,i+1=>by rw[w!,ac7,ac7,w!,tE f r i]
def KT.drop(r:KT H N xs)(k:List Key):KT H (gf N k) (xs.filter λx=>11#(x.1≠k)):=by
 unfold gf
 induction r with
 | nil=>show .nil
 | @cons p q Z B h t E =>
   rw[P!,P!]
   by_cases e:p.1=k
   .rw[ξ (by simp[e]),ξ (by simp[h.1.symm.trans e])];show E
   .have f : ¬ q.1=k:=λz=>e (h.1.trans z)
    rw[ο (by simp[e]),ο (by simp[f])];show .cons h E
section
variable {P:Program}{w:World}{A:Around}{E:kj}{s:Shared}{K:Type}[DecidableEq K]{knd:HeapKind P w K}{d b:Addr}{xs:List (K×Addr×Value)}{k:K}{j:Nat}{p:Addr×Value}
def VU(G:knd.room A)(u:knd.is s.heap k b)(t:s.heap.DictOfH knd d xs)(q:xs[j]?=some (k,p))(hsz:36#xs.length)
 (h:∀e h' F W B,e.val=p.2->h'.get? d=some F->F.ExactDict->F.data = .dict W B->W.toList=(xs.eraseIdx j).map (entryOfKey knd)->Heap.SameBut d s.heap h'->Q (some e) { s with heap:=h',toks:=s.toks+knd.draws k}) :
 79#(Builtin.Dict.takeOut d (.ref b)):=by
 revert t;show gZ λo r i=>dI λm L J n a S=>?_
 unfold Builtin.Dict.takeOut
 try with_reducible show t! ?_
 show aQ (knd.pyHash G u (aQ (wpAny_dictFind_heap (s:={ s with toks:=s.toks+knd.draws k}) G u m J n a S (λx=>absurd q (x j p)) λg f v=>?_)))
 have c:g=j:=idxH_unique S v q;subst c;show aQ (wpAny_dictEntries (s:={ s with toks:=s.toks+knd.draws k}) m J ?_)
 rw[entry_at n g,q];show aQ (wpAny_updateDictKeys (hz:=by have e:=size_of_entries n;lia) (s:={ s with toks:=s.toks+knd.draws k}) m J (Θ (h _ _ _ _ (i+1) rx (D? _ m (Obj.isFreed_of_dict (Obj.data_mapDictKeys J _))) (L.mapDictKeys _) (Obj.data_mapDictKeys J _) ?_ (Y! ..))))
 rw[<-tE,<-n];obtain⟨l⟩:=r;simp
def XN(G:knd.room A.in1)(u:knd.is s.heap k b)(m:s.heap.DictOfH knd d xs)(q:xs[j]?=some (k,p))(hsz:36#xs.length)
 (h:∀h' F W B,h'.get? d=some F->F.ExactDict->F.data = .dict W B->W.toList=(xs.eraseIdx j).map (entryOfKey knd)->Heap.SameBut d s.heap h'->Q p.2 { s with heap:=h',toks:=s.toks+knd.draws k}) :
 79#(call (.builtin "dict.pop") [.ref d,.ref b]):=by
 have t:=m.typeIs;show wpAny_call_entry PySem.F.slot_dict_pop t PySem.F.entry_dict_pop ?_ (PySem.F.args_dict_pop_2 _ _);unfold Builtin.«dict.pop» Builtin.Dict.keyAndDefault;show aQ (aQ (wpAny_notOrdered_dict t ?_));show 59#(pure (d,Value.ref b,(none:Option Value)));show Θ ?_;show gZ (λo l i=>dI λx L J n a S=>?_) (id m)
 have y:l.isEmpty=false:=by
  have e:=size_of_entries n;have C:=(k6.mp q).1;rw[Array.isEmpty_eq_false_iff_exists_mem];show⟨l[j]'(by lia),Array.getElem_mem _⟩
 have f:(keyPart (Value.ref b)).isSome=false:=rfl;simp only[f,L?,if_false];show aQ (wpAny_dictEntries x J (aQ (Θ ?_)));rw[y];simp only[L?,if_false];show aQ (VU G u m q hsz λe h' F W B g D R r c v=>?_)
 simp only[Option.isNone_some,L?,if_false];show aQ (wpAny_letGo (Θ (af e.val rx ?_)));rw[g];show h h' F W B D R r c v
end
section
variable {X:Cx}{pq:cN}{σ:St}{H:Hp}{s:Shared}
def ZS:fW X (.builtin "len") (λxs H Q=>∃a N,xs=[.ref a]/\Rd H a (.dT N)/\287#N.length):=by
 intro pq s σ H xs g Q I r h
 revert h;show aA λa N L e q=>?_;subst L
 show 218#(λu Y B=>?_);subst Y
 cases B;show bG (λz j o y=>bV λW l i d hex b f c=>?_) (show bL X.prog X.w H s.heap a (.dT N) from e.ok I.hok)
 have k:l.size=N.length:=by
  have:=k! List.length f;rw[Δ,<-y.length]at this
  simpa using this
 show M0 j (av W d hex b) (by rw[k];rw[sizeLine_eq]at z;lia) ?_
 rw[k];show 113#(.int N.length)
def VV(c ty:TE):TE:=λσ H Q=>c σ H λx S=>∃a,x = .ref a/\ZM S a/\ty σ S λy Z=>∃N k b v,Z a=some (.dT N)/\y = .ref b/\Z b=17#(k.map kV)/\gH N k=some v/\Q v (η Z a (.dT (gf N k)))
def VW{A:Around}{k:List Key}(G:A.units+1<cLine)(I:5#H)(e:H a=some (.dT N))(r:H b=17#(k.map kV))(l:gH N k=some v)
 (h:∀L s',θ X pq σ (η H a (.dT (gf N k))) s'->χ v L->Q L s'):wpAny 9#0 A (call (.builtin "dict.pop") [.ref a,.ref b]) Q E s:=by
 show bG (λz J f n t=>?_) (P5 I.hok e)
 have U:=n.val k;rw[l]at U;show aj (λL w C=>?_) (sU.some_of U)
 show aj (λp m S=>?_) (vN.mp w)
 obtain⟨j,i⟩:∃j,f[j]?=some (k,p):=by
  unfold atKey at m;show aj (λy c g=>?_) (vN.mp m)
  have B:=List.find?_some c;have d:=acY c;obtain⟨j,i⟩:=T? d;have x:y.1=k:=lZ B;show⟨j,by rw[i,<-x,<-g]⟩
 have c:(f.map (·.1)).Nodup:=let⟨_,_,_,_,_,_,_,_,hn⟩:=t;hn;show XN (tupleKind_room_in1 G) (wj I.hok r) t i (by rw[<-n.length];show z) λM F W B d x u g D=>?_
 rw[S];show h L _ ?_ C;have y:∀b o,H b=some (.tup o)->η H a (.dT (gf N k)) b=some (.tup o):=λb o q=>162#(cP q e 30#0)
 rw[erase_filter c i]at g;show u5 I (by rw[e];show True.intro) D ⟨F,d⟩ (bA (Ω (P4 N k) z) J _ ((n.drop k).keeps y) (cF F W B d x u g ?_))
 show c.sublist (List.filter_sublist.map _)
variable {o e:Expr}{apos cpos:Pos}{td ty:TE}
def QN(G:X.A.units+1<cLine)(j:PE X o td)(n:PE X e ty)(m:M1 X o "pop" apos e cpos):PE X (.Call (.Attribute o "pop" apos) [e] [] cpos) (VV td ty):=by
 intro pq s σ H Q I h;show wpAny_Call_method m.base m.few m.line PySem.F.plainAttrs_dict PySem.F.slot_dict_pop PySem.F.type_dict_pop (eg (j pq s σ H _ I h) λu F=>fX λx S=>cE λT B a q d O=>?_)
 subst q;obtain rfl:u=194#0:=B;show dW (λi C _=>?_) (P9 T d)
 show bj i C ?_;rw[m.trees];show Calls.callWith_builtin rx (Calls.evalArgs_plain (Calls.spliced_cons (eg (n pq F σ S _ T O) λg N=>dX λy=>dO λZ E c p=>bV λk b v U w r l P=>?_)))
 show Calls.spliced_nil ?_;subst w;obtain rfl:g=Value.ref b:=c;show VW G E U r l λL t f D=>aq v _ f D P
def VX(F g:TE):TE:=λσ H Q=>∀p,H p=none->F σ (η H p (.dT [])) λy S=>g σ S λv Z=>∃b k,y = .ref b/\Z b=17#(k.map kV)/\Z p=some (.dT [])/\Q (.ref p) (η Z p (.dT [(k,v)]))
end
section
variable {X:Cx}{k v:Expr}{pos:Pos}{tk tv:TE}
def QO(G:X.A.units+1<cLine)(B:PE X k tk)(hv:PE X v tv):PE X (.Dict [some k] [v] pos) (VX tk tv):=by
 intro A s M H Q I q;have hn:=270#(22#Ξ);have T:=I.laid (a:=s.heap.objs.size) (o:=.dT []) (h':=174#{ cls:=.type "dict",data:=.dict #[]}) (t':=s.toks) (λ_ _ q=>W' _ q) (Ξ _) (P8 s.heap I.big)
 rw[arm_eval_Dict,zip_pairTrees [some k] [v] X.env pos rx rfl,dictDisplay_pairs (pairTrees [some k] [v] X.env pos) 30#0 (show 1<17 by decide)]
 show aQ (wpAny_standAt (aQ ?_));unfold subDict;show aQ (wpAny_alloc (aQ (t! ?_)));rw[ο (show 48#(pairTrees [some k] [v] X.env pos)<=15 from(show 1<=15 by decide))]
 show aQ (pairTrees_cons_walk (eg (B A _ M _ _ T (q _ hn)) λu F=>aA λy S E c O=>?_))
 show eg (hv A F M S _ E O) λu2 N=>aA λe Z m D=>aS λb L w r i P=>?_
 show pairTrees_nil_walk ?_;subst w;obtain rfl:u=Value.ref b:=c;show bG (λz J f n p=>?_) (P5 m.hok i)
 cases n;show t! (aQ ?_);rw[List.forIn_cons];show aQ (aQ (wpAny_dictSet_heap (hsz:=r! _) (show X.A.units<cLine from adX G) (wj m.hok r) p λC t l=>Θ ?_))
 show 50#(forIn [] PUnit.unit _);rw[List.forIn_nil];show Θ (Θ (Θ (Θ ?_)))
 revert t;show gZ λR W Y=>dI λd x j g g5 h=>?_
 have U:η Z s.heap.objs.size (.dT [(L,e)]) b=17#(L.map kV):=by
  rw[au (cP r i 30#0)]
  show r
 have new:bL X.prog X.w (η Z s.heap.objs.size (.dT [(L,e)])) C s.heap.objs.size (.dT [(L,e)]):=bA (show 1<=sizeLine by decide) J [(L,b,u2)] 233#(bj rx U D) (cF R W Y d x j g h)
 show aq (22#.ref) _ (u5 m (by rw[i];show True.intro) l ⟨R,d⟩ new) rx P
end
end L2
namespace HT
open PySem PyProof.Rows
def Ti(a b c d:Int):Bool:=if a=c then(if b=d then true else decide (b<=d)) else decide (a<=c)
def D5(a b c d:Int):Ti a b c d=true↔a<c\/(a=c/\b<=d):=by
 unfold Ti
 by_cases h:a=c
 .rw[ο h]
  by_cases W:b=d
  .rw[ο W];simp[h,W]
  .rw[ξ W];simp only[decide_eq_true_eq];lia
 .rw[ξ h];simp only[decide_eq_true_eq];lia
def QS(A:Around)(s:Shared)(a:Int)(t:Tok)(c:Int)(u:Tok)(prog:Program)(w:World)(E:kj)(Q:kj)(h:Q (.bool (decide (a<=c))) s):
 60#(richCompare .LtE (.int a t) (.int c u)) :=
 (PyProof.Rows.le_int h:60#(compareOp .LtE (.int a t) (.int c u)))
section
open PySem.SeqAt
open PySem.AutoSeq1 (wpAny_loadPart')
open PySem.MeetsSeq PySem.MeetsSeq2 PySem.MeetsSeq3
def M3(l b:Addr)(f B:Array Value)(n M:Nat)(dd I:129#0)(T a:165#0)(z S j r:Int)(t1 v Z i:Tok)(Y:f.toList=[.int z t1,.int S v])(J:B.toList=[.int j Z,.int r i]):
 Meets (Builtin.«tuple.__le__» ⟨[.ref l,.ref b],[]⟩)
  (λ_ R s=>s.heap.get? l=some { cls:=.type "tuple",dict:=dd,data:=.seq f n,slots:=T}/\21#{ cls:=.type "tuple",dict:=I,data:=.seq B M,slots:=a}/\
   R (196#(.bool (Ti z S j r))) s) :=
 .of_wp λH w A R s h=>by
  obtain⟨E,g,d,F,os⟩:=s;revert h;show dW λC U h=>?_
  have a:=AutoSeq1.sub_tuple_tuple;have l:f.size=2:=by rw[<-G_,Y];rfl
  have f:B.size=2:=by rw[<-G_,J];rfl
  wp_walk using 203#C,203#U,wpAny_forIn_list _ (λG b p=>b.1=none/\p=197#E/\
   ((G=[((Value.int z t1:Value),(Value.int j Z:Value)),(.int S v,.int r i)]/\R (196#(.bool (Ti z S j r))) 197#E)\/
    (G=[((Value.int S v:Value),(Value.int r i:Value))]/\R (196#(.bool (if S=r then true else decide (S<=r)))) 197#E)\/(G=[]/\R (196#(.bool true)) 197#E))) _
  case turn =>
   intro L G b p;show dW λQ a N=>?_;obtain⟨y,x⟩:=L;subst a
   obtain⟨a,c,t,u,k,X,O,D,o⟩:∃(a c:Int) (t u:Tok) (k:Bool),y = .int a t/\x = .int c u/\R (196#(.bool (if a=c then k else decide (a<=c)))) 197#E/\
    (R (196#(.bool k)) 197#E->(G=[((Value.int S v:Value),(Value.int r i:Value))]/\R (196#(.bool (if S=r then true else decide (S<=r)))) 197#E)\/(G=[]/\R (196#(.bool true)) 197#E)):=by
    rcases N with⟨m,D⟩|⟨m,D⟩|⟨m,_⟩
    .injection m with W P
     obtain⟨X,O⟩:=Prod.mk.inj W;show kZ z j (bC t1 Z _ X O D λe=>.inl ⟨P,e⟩)
    .injection m with W P
     obtain⟨X,O⟩:=Prod.mk.inj W;show kZ S r (bC v i true X O D λe=>.inr ⟨P,e⟩)
    .cases m
   subst X O;show aj (λe m P=>?_) (FI A.in1 197#E a t c u)
   show 135#(m H w _ _ ?_);cases e with
   | true =>
     rw[ο (P.mp rx)]at D
     wp_walk
     show bj rx rx (.inr (o D))
   | false =>
     rw[ξ (λq=>absurd (P.mpr q) n!)]at D
     have W:=QS A.in1 197#E a t c u H w
     wp_walk using W
     show af _ rx (by simpa using D)
  case fin =>
   intro k p;show dW λQ o N=>?_;obtain⟨c,a⟩:=k;subst o
   simp only at Q;subst Q;rcases N with⟨m,_⟩|⟨m,_⟩|⟨_,D⟩
   .cases m
   .cases m
   .wp_walk
    show af _ rx ?_
    simpa[Builtin.Tuple.tupleCompareSizes,l,f]using D
  case h =>
   show bj rx rx (.inl ⟨?_,h⟩);rw[Y,J];rfl
end
section
variable {prog:Program}{w:World}{A:Around}{E:kj}{s:Shared}
def QT(C:IsTup s.heap l f)(U:IsTup s.heap b B)(Y:IntsAre f.toList [z,S])(P:IntsAre B.toList [k,m])
 (X:A.units<cLine) (h:Q (.bool (Ti z S k m)) s):60#(compareOp .LtE (.ref l) (.ref b)):=by
 show dO (λO j L n J=>?_) (id C);obtain⟨R,p,W,T⟩:=O
 show dO (λa d y M H=>?_) (id U);obtain⟨F,I,data2,N⟩:=a
 simp only at L J y H;subst L J y H;have e:∀{G:82#0} {a c:Int},IntsAre G [a,c]->∃t u,G=[.int a t,.int c u]:=λ{G a c} q=>by
  cases q with
  | cons n t r=>cases r with
    | cons i Z g=>cases g;show kZ t Z rfl
 show fX (λo v g=>?_) (e Y)
 show fX (λr i D=>?_) (e P)
 show richCompare_meets_room (op:=.LtE) (af _ j rx) (af _ d rx) PySem.F.slot_tuple_le PySem.F.entry_tuple_le (PySem.F.args_tuple_le_2 _ _) (M3 l b f B n M p I T N z S k m o v r i g D)
  (bj j d (show Value.bool (Ti z S k m)≠Value.notImplemented/\Q (.bool (Ti z S k m)) s from⟨(λx=>nomatch x),h⟩)) X
end
end HT
namespace L2
open PySem PySem.Spec PyProof.Rows
section
variable {X:Cx}
def ZT(K:bY):R2:=λx y H Q=>∃a b z S j r,x = .ref a/\y = .ref b/\aZ K H a [.int z,.int S]/\aZ K H b [.int j,.int r]/\Q (.bl (HT.Ti z S j r)) H
def VY(G:X.A.units<cLine):mU X 157#.LtE (ZT X.K):=by
 show 67
 revert h;show gZ λa b z=>bV λS j r t n W U q=>?_;subst t n
 cases B;cases c;show aG (λg J R _=>?_) (I.tuple W)
 show aG (λZ i F _=>?_) (I.tuple U)
 show HT.QT R F (intsAre_of (ns:=[z,S]) J) (intsAre_of (ns:=[j,r]) i) G (aq (.bl (HT.Ti z S j r)) H I rx q)
end
abbrev Jz:=List (Addr×Str×Pos)
structure TabsOk(K:bY)(h:Heap)(tb:Jz):Prop where
 nd:(tb.map (·.1)).Nodup
 mt:∀p∈tb,h.get? p.1=some (PySem.W.tabObj #[])
 code:∀p∈tb,∃c,PySem.W.CodeHd h c p.1
 out:∀p∈tb,K.lookup p.1=none
def TabsAt(Q:Jz)(H:Hp):Prop:=∀p∈Q,H p.1=112#(fC p.2.1 p.2.2)
def GG(Q:Jz):Hp:=λb=>(Q.find? λp=>p.1==b).map λp=>.jq (fC p.2.1 p.2.2)
def sA(e:GG Q b=some u):∃p∈Q,p.1=b/\u = .jq (fC p.2.1 p.2.2):=by
 unfold GG at e;show aj (λp R W=>?_) (vN.mp e)
 have M:(p.1==b)=true:=List.find?_some (p:=λp:Addr×Str×Pos=>p.1==b) R
 show av p (acY R) (eq_of_beq M) W.symm
theorem D6:∀{tb},(tb.map (·.1)).Nodup->TabsAt tb (GG tb)
 | [],_=>λp t=>nomatch t
 | q::r,nd=>λp t=>by
   rw[w!,U!]at nd;show 37
   .unfold GG;rw[List.find?_cons_of_pos 23#0];rfl
   .have G:(q.1==p.1)=false:=172#(λz=>nd.1 (by rw[z];show V_ t))
    unfold GG;rw[List.find?_cons_of_neg (by rw[G];show n!)]
    show D6 nd.2 p t
def M4{K:bY}{O:Shared}{G:82#0}
 (KX:K.In O.heap) (N:TabsOk K O.heap Q) (j:O.heap.Ns mainGlobals mg) (U:O.heap.Ns builtinsNs h) (I:∀x:Str,x≠"__name__"->h x=bootBuiltins x) (T:O.heap.NoLimit)
 (L:∃bm ob,mg "__builtins__"=20#bm/\bm≠builtinsNs/\O.heap.get? bm=some ob/\ob.cls = .type "module"/\ob.dict=some builtinsNs/\ob.data = .plain) (y:O.gens = #[])
 (W:O.heap.get? a=some { cls:=.type "list",data:=.seq G.toArray}) (b:IntsAre G ns) (C:36#ns.length) (X:fF k callerA)
 (F:∀base:Heap,K.In base->base.Ns mainGlobals mg->i5 P w K mg base CX k E c [x] sp) (J:∀s u,BindsTo s c ⟨[u],[]⟩ [(x,u)])
 (Y:∀H:Hp,TabsAt Q H->aK K H a 264#0->sp [.ref a] H (λv _=>v = .bl true) λ_ _ _=>False)
 (D:∀H e s',CX [] H O (λ_ _ _=>False) e s'->False) :
 codeAny (model P w) callerA (.call (.ref E) ⟨[.ref a],[]⟩) (λr s'=>r = 196#(.bool true)/\OldK O.heap s'.heap/\s'.os=O.os/\AllBare s'.gens) O:=by
 have x:=Cv b;have ZU:=b.length;have aT:∀p∈Q,p.1≠a:=λp t z=>by
  have:=N.mt p t;rw[z,W]at this;cases this
 let fz:HO:=.n9 { cls:=.type "list",data:=.seq G.toArray} 66#(ns.map V.int)
 have s:∀H:Hp,aK K H a 264#0->TabsAt Q H->qe P w H O.heap->(∀b u,H b=some u->(b=a/\K.lookup a=none/\u=fz)\/∃p∈Q,p.1=b/\u = .jq (fC p.2.1 p.2.2))->
  codeAny (model P w) callerA (.call (.ref E) ⟨[.ref a],[]⟩) (λr s'=>r = 196#(.bool true)/\OldK O.heap s'.heap/\s'.os=O.os/\AllBare s'.gens) O:=by
  intro H R E A c;have g:∀{b:Addr} {o:Obj},24#O.heap.get?->(∀f n,o.data≠.seq f n)->(∀f,o.data≠.fields f)->H b=none:=λ{b o} e d M=>by
   cases q:H b with
   | none=>rfl
   | some u =>
     rcases c b u q with⟨z,_⟩|⟨p,t,z,_⟩
     .rw[z,W]at e;cases e;show absurd rx (d _ _)
     .rw[<-z,N.mt p t]at e;cases e;show absurd rx (M _)
  have B:∀{b:Addr} {m:Bg},O.heap.Ns b m->(FD O.heap H).Ns b m:=λ{b m}=>bz λo l i e d r=>cC o l i (yY e (g e (by intro _ _ z;rw[d]at z;cases z) (by intro _ z;rw[d]at z;cases z))) d r
  have S:K.In (FD O.heap H):=λb o e=>yY (KX b o e) (by
   cases q:H b with
   | none=>rfl
   | some u =>
     rcases c b u q with⟨z,n,_⟩|⟨p,t,z,_⟩
     .rw[z,n]at e;cases e
     .rw[<-z,N.out p t]at e;cases e)
  have d:Mod K mg (FD O.heap H):=⟨S,B j,af h (B U) I,(let⟨mc,h1,h2⟩:=T;(af mc (B h1) h2)),
   let⟨bm,ob,b1,b2,b3,b4,b5,b6⟩:=L;(aV bm ob b1 (dF b2 (yY b3 (g b3 (by intro _ _ z;rw[b6]at z;cases z) (by intro _ z;rw[b6]at z;cases z))) b4 b5 b6))⟩
  have T:Dv P w K mg (FD O.heap H) callerA [] O H:=⟨rfl,d,λb o e=>Se e,v_ (Mf _ _),trivial,λb U=>absurd (show b∈([]:183#0) from U) 23#0,A,.of_eq y⟩
  show codeAny_mono ((F _ S (B j)).run callerA [] O H ⟨[.ref a],[]⟩ [.ref a] [.ref a] _ _ X T (J O (.ref a)) 233#rx (Y H E R)) λr s' h=>?_
  cases r with
  | error e=>show(D H e s' h).elim
  | ok d =>
    cases d with
    | next=>show 213#h
    | brk=>show 213#h
    | cont=>show 213#h
    | ret u =>
      revert h;show fX λv Y=>dI λos J j d f q=>?_
      have I:v = .bl true:=q;subst I;obtain rfl:u=Value.bool true:=f;have all:∀b o,24#O.heap.get?->24#s'.heap.get?\/∃p∈Q,p.1=b/\∃Z,s'.heap.get? b=some (PySem.W.tabObj Z):=λb o e=>by
       cases q:H b with
       | none=>show .inl (j.keep b o e q (by intro z;show absurd (show b∈([]:183#0) from z) 23#0) 23#0)
       | some u =>
         rcases c b u q with⟨z,_,X⟩|⟨p,t,z,X⟩
         .rw[X]at q;obtain⟨g,_⟩:=A b _ q;obtain⟨D,_⟩:=d b _ (j.l5 b _ _ q);rw[e]at g;cases g;show .inl D
         .rw[X]at q;obtain⟨g,c⟩:=j.qj b _ q;show aj (λZ D _=>?_) (d b _ c)
          show .inr (af p t (cJ z Z D))
      show iI rx ⟨λb o e=>?_,λb o e=>?_⟩ os J
      .rcases all b o e with z|⟨p,t,z,Z,D⟩
       .show .inl z
       .obtain⟨c,L⟩:=N.code p t;have g:=N.mt p t;subst z;rw[e]at g;cases g;show .inr (.inl ⟨(L.tab e).isCodeTable,(aR rx (#[]) Z rx (by rw[D,Array.empty_append]))⟩)
      .rcases all b o e with z|⟨p,t,z,Z,D⟩
       .show⟨o,z⟩
       .show⟨_,D⟩
 have c:∀{H:Hp} {b:Addr} {p},p∈Q->p.1=b->bL P w H O.heap b (.jq (fC p.2.1 p.2.2)):=λ{H b p} t z=>af (#[]) (by rw[<-z];show N.mt p t) (.inl 46#(.inl rfl))
 cases B:K.lookup a with
 | some o =>
   have e:=KX a o B;rw[W]at e;cases e;show s (GG Q) (.inr (bN _ G.toArray _ B (dF rx rx rx (by rw[u!,ZU];show C) (by simpa using x)))) (D6 N.nd) (λb u e=>?_) λb u e=>.inr (sA e)
   show aG (λp t z L=>?_) (sA e);subst L
   show c t z
 | none =>
   show s (λb=>if b=a then some fz else GG Q b) (.inl (.inr ⟨{ cls:=.type "list",data:=.seq G.toArray},ο rfl⟩)) (λp t=>?_) (λb u e=>?_) λb u e=>?_
   .change(if p.1=a then some fz else GG Q p.1)=_
    rw[ξ (aT p t)];show D6 N.nd p t
   .by_cases U:b=a
    .have z:=(ο U).symm.trans e;cases z;subst U;show⟨W,(aR (by rw[Δ];show C) G _ x W)⟩
    .have z:=(ξ U).symm.trans e;show aG (λp t X Y=>?_) (sA z);subst Y
     show c t X
   .by_cases U:b=a
    .have z:=(ο U).symm.trans e;show .inl (bj U B ((26#z).symm))
    .show .inr (sA ((ξ U).symm.trans e))
def QU{l:PySem.W.OpenLaw}{d:DefRec}{K:Params->bY}{CX:World->Sk}{sp:World->Jz->Sp}{ts:183#0}
 (S:l.most=some n) (hn2:n<=sizeLine) (D:d.params.defaults=[]) (hr:fF k callerA)
 (T:∀w h,A w h->(289#0).In h/\∀P∈ts,h.get? P=some (PySem.W.tabObj #[]))
 (F:∀w mg E h,(289#0).In h->73#mg->mg d.name=some (.ref E)->
  ∃g Q,((Q.map (·.1)).Nodup/\PySem.W.noTabs 289#0=true/\∀p∈Q,p.1∈ts/\∃c,PySem.W.codeHdIn 289#0 c p.1=true)/\(∀s u,BindsTo s g ⟨[u],[]⟩ [(x,u)])/\
    ∀base:Heap,(289#0).In base->base.Ns mainGlobals mg->i5 l.prog w 289#0 mg base (CX w) k E g [x] (sp w Q))
 (b:∀w H a (ns:List Int) Q,ns.length<=n->TabsAt Q H->aK 289#0 H a 264#0->sp w Q [.ref a] H (λv _=>v = .bl true) λ_ _ _=>False)
 (M:∀w H s e s',CX w [] H s (λ_ _ _=>False) e s'->False) :
 PySem.W.WalkO q I X A l.row.toRowW d [] (λf r=>PySem.call f r):=by
 show Att.FL S D λw f O mg C E o d cd m a r ns G Y j J B s u l i y=>?_
 obtain⟨L,f⟩:=T w _ Y;show aA (λg Q j U h=>?_) (F w mg E _ L G.T.g s);obtain⟨Z,r,d⟩:=j
 have N:TabsOk 289#0 O.heap Q:=⟨Z,λp t=>f _ (d p t).1,λp t=>let⟨_,c,e⟩:=d p t;⟨c,PySem.W.codeHd_of_K L e⟩,λp t=>by
  cases e:(289#0).lookup p.1 with
  | none=>rfl
  | some W =>
    have g:=L _ _ e;rw[f _ (d p t).1]at g;cases g;have z:=l?.mp r (p.1,PySem.W.tabObj #[]) (PySem.W.mem_of_lookupK e);show absurd (show false=true from z) n!⟩
 show M4 L N G.T.g G.T.b G.T.builtins G.T.nolimit G.T.bmain y u l (Ω i hn2) hr h U (λH g R=>b w H a ns Q i g R) λH e s'=>M w H O e s'
def kK(f:Str):Str:=f ++ ".<locals>." ++ "<lambda>"
structure JA(K:bY)(x qual:Str)(st:Stmt)(f:Addr)(fd:FuncData)(c0 P:Addr):Prop where
 ex:∃(oc:Value) (od:129#0) (kV doc pm:Value) (an:129#0) (ct:Value) (osl:165#0),
  fd=PySem.W.fnOf x qual (eZ st) (cQ st) (aU st) .none kV doc pm an (.ref c0) ct/\283#⟨oc,od,.func fd,osl⟩/\PySem.W.codeIn K (.ref c0) qual=true
 kp:78#K
 hd:PySem.W.codeHdIn K c0 P=true
section
variable {P:Program}{w:World}{K:bY}{mg:Bg}{base:Heap}{x qual:Str}{st:Stmt}{f c0 p0:Addr}{fd:FuncData}
def JA.ok(F:JA K x qual st f fd c0 p0)(S:g6 N Z (aU st))(len:125#Z.length)
 (O:∀A outer s H G Q E,fF k (A.deeper (envOfC qual (aU st) s.heap.objs.size f (.ref c0)))->sp G H Q E->
  89#(tK (tM uQ P w K mg base N qual (aU st) f (.ref c0) A outer s H E).Ft (cQ st) t)):i5 P w K mg base uQ (k+1) f fd Z sp:=by
 show ki (λd W kV m z=>bz λM l o L c B=>?_) F.ex;subst L
 show Le c B S len λA outer s H G Q E a b=>?_
 show aj (λt h q=>?_) (O A outer s H G Q E a b)
 show af t h.Ft q
def JA.binds{Z:List Str}(F:JA K x qual st f fd c0 p0)
 (h:∀kV m z M i ct g,g.length=Z.length->bindArgs 101#qual ⟨g,[]⟩=pure (Z.zip g)):Binds K fd Z []:=by
 show ki (λq W kV m z=>bz λM ct o Y c B=>?_) F.ex;subst Y
 show .all (h kV m z M (.ref c0) ct)
def Tj{kV m z ct:Value}(l:283#⟨oc,W,.func (PySem.W.fnOf x qual (eZ st) (cQ st) (aU st) .none kV m z M (.ref c0) ct),o⟩)
 (c:PySem.W.codeIn K (.ref c0) qual=true) (k:78#K) (J:PySem.W.codeHdIn K c0 p0=true):JA K x qual st f (PySem.W.fnOf x qual (eZ st) (cQ st) (aU st) .none kV m z M (.ref c0) ct) c0 p0 :=
 ⟨⟨oc,(vM W kV m z (cC M ct o rx l c))⟩,k,J⟩
end
end L2
namespace RM
abbrev OW:=Nat->Bool->Option (Int×Nat)
noncomputable def qO(F:OW)(x:Nat)(s:Bool)(d:Int×Nat):OW:=λy t=>if y=x/\t=s then some d else F y t
noncomputable def JB(F:OW)(x:Nat)(s:Bool):OW:=λy t=>if y=x/\t=s then none else F y t
def fZ(F:OW)(x:Nat)(s:Bool)(d:Int×Nat):qO F x s d x s=some d:=ο ⟨rfl,rfl⟩
def eF(h : ¬(y=x/\t=s)):qO F x s d y t=F y t:=ξ h
def D7(F:OW)(x:Nat)(s:Bool):JB F x s x s=none:=ο ⟨rfl,rfl⟩
def yV(h : ¬(y=x/\t=s)):JB F x s y t=F y t:=ξ h
def Wz(N:Net)(L:Nat->Int)(m u v:Nat)(s:Bool)(z:Int)(e:Nat):Prop:=∃o,Wl N L m u o v s z e
structure Dj(N:Net)(L:Nat->Int)(m u:Nat)(F W:OW)(now:Option (Nat×Bool))(done:Nat->Nat->Prop):Prop where
 fw:∀x s d,F x s=some d->Wz N L m u x s d.1 d.2
 ww:∀x s d,W x s=some d->Wz N L m u x s d.1 d.2
 dj:∀x s d,W x s=some d->F x s=none
 le:∀x s d y t d',F x s=some d->W y t=some d'->d.1<=d'.1
 mx:∀x s d y t d',now=some (x,s)->F x s=some d->F y t=some d'->d'.1<=d.1
 cl:∀x s d k y,F x s=some d->k<N.n->Jn N k x y->(now=some (x,s)->done k y)->∃d',(F y (s^^12#0)=some d'\/W y (s^^12#0)=some d')/\d'.1<=d.1+L k
 st:∃d,(F u false=some d\/W u false=some d)/\d.1<=0
section
variable {N:Net}{L:Nat->Int}{m u:Nat}{F W:OW}
def Dj.start:Dj N L m u (λ_ _=>none) (qO (λ_ _=>none) u false (0,0)) none (52#0):=by
 show⟨λ_ _ _ h=>(nomatch h),λx s d h=>?_,λ_ _ _ _=>rfl,λ_ _ _ _ _ _ h=>(nomatch h),λ_ _ _ _ _ _ h=>(nomatch h),λ_ _ _ _ _ h=>(nomatch h),af (0,0) (.inr (fZ _ _ _ _)) (A? _)⟩
 by_cases e:x=u/\s=false
 .obtain⟨rfl,rfl⟩:=e;rw[fZ]at h;cases h;show⟨[],.nil⟩
 .rw[eF e]at h;cases h
def Dj.pop(h:Dj N L m u F W none (52#0))(e:W x s=some d)(l:∀y t d',W y t=some d'->d.1<=d'.1):Dj N L m u (qO F x s d) (JB W x s) (some (x,s)) (52#0):=by
 have U:=h.dj x s d e;have a:∀y t d',qO F x s d y t=some d'->(y=x/\t=s/\d' = d)\/F y t=some d':=λy t d' q=>by
  by_cases z:y=x/\t=s
  .obtain⟨rfl,rfl⟩:=z;rw[fZ]at q;show .inl (bj rx rx ((26#q).symm))
  .rw[eF z]at q;show .inr q
 have G:∀y t d',JB W x s y t=some d'->¬(y=x/\t=s)/\W y t=some d':=λy t d' q=>by
  by_cases z:y=x/\t=s
  .obtain⟨rfl,rfl⟩:=z;rw[D7]at q;cases q
  .rw[yV z]at q;show⟨z,q⟩
 have f:∀y t d',F y t=some d'\/W y t=some d'->qO F x s d y t=some d'\/JB W x s y t=some d':=λy t d' q=>by
  by_cases z:y=x/\t=s
  .obtain⟨rfl,rfl⟩:=z;rcases q with q|q
   .rw[U]at q;cases q
   .rw[e]at q;cases q;show .inl (fZ _ _ _ _)
  .rw[eF z,yV z];show q
 show⟨λy t d' q=>?_,λy t d' q=>h.ww y t d' (G y t d' q).2,λy t d' q=>?_,λy t d' r C O q P=>?_,λy t d' r C O S q P=>?_,λy t d' k r q B b J=>?_,?_⟩
 .rcases a y t d' q with⟨rfl,rfl,rfl⟩|q
  .show h.ww _ _ _ e
  .show h.fw y t d' q
 .obtain⟨z,q⟩:=G y t d' q;rw[eF z];show h.dj y t d' q
 .obtain⟨_,P⟩:=G r C O P;rcases a y t d' q with⟨_,_,rfl⟩|q
  .show l _ _ _ P
  .show h.le _ _ _ _ _ _ q P
 .cases S;rw[fZ]at q;cases q;rcases a r C O P with⟨_,_,rfl⟩|P
  .show A? _
  .show h.le _ _ _ _ _ _ P e
 .rcases a y t d' q with⟨rfl,rfl,rfl⟩|q
  .show(J rx).elim
  .show aj (λO P j=>?_) (h.cl y t d' k r q B b 96#0)
   show af O (f _ _ _ P) j
 .show aj (λO P j=>?_) h.st
  show af O (f _ _ _ P) j
def Dj.put(h:Dj N L m u F W (some (x,s)) done)(e:F x s=some d)(B:k<N.n)(Y:0<=L k)(A:Jn N k x y)(U:F y (s^^12#0)=none)
 (c:∀d',W y (s^^12#0)=some d'->d.1+L k<=d'.1):Dj N L m u F (qO W y (s^^12#0) (d.1+L k,d.2^^^2^k)) (some (x,s)) (λD p=>done D p\/(D=k/\p=y)):=by
 have G:∀v t d',qO W y (s^^12#0) (d.1+L k,d.2^^^2^k) v t=some d'->(v=y/\t=(s^^12#0)/\d' = (d.1+L k,d.2^^^2^k))\/W v t=some d':=λv t d' q=>by
  by_cases z:v=y/\t=(s^^12#0)
  .obtain⟨rfl,rfl⟩:=z;rw[fZ]at q;show .inl (bj rx rx ((26#q).symm))
  .rw[eF z]at q;show .inr q
 have f:∀v t d',F v t=some d'\/W v t=some d'->∃O,(F v t=some O\/qO W y (s^^12#0) (d.1+L k,d.2^^^2^k) v t=some O)/\O.1<=d'.1:=λv t d' q=>by
  rcases q with q|q
  .show af d' (.inl q) (A? _)
  .by_cases z:v=y/\t=(s^^12#0)
   .obtain⟨rfl,rfl⟩:=z;show af _ (.inr (fZ _ _ _ _)) (c d' q)
   .show af d' (.inr (by rw[eF z];show q)) (A? _)
 show⟨h.fw,λv t d' q=>?_,λv t d' q=>?_,λv t d' E C O q P=>?_,h.mx,λv t d' i r q a b J=>?_,?_⟩
 .rcases G v t d' q with⟨rfl,rfl,rfl⟩|q
  .obtain⟨o,w⟩:=h.fw x s d e;show⟨_,w.go B A⟩
  .show h.ww v t d' q
 .rcases G v t d' q with⟨rfl,rfl,rfl⟩|q
  .show U
  .show h.dj v t d' q
 .rcases G E C O P with⟨rfl,rfl,rfl⟩|P
  .have:=h.mx x s d v t d' rx e q;change d'.1<=d.1+L k
   lia
  .show h.le _ _ _ _ _ _ q P
 .by_cases H:some (x,s)=some (v,t)->done i r
  .show aj (λO P j=>?_) (h.cl v t d' i r q a b H)
   show aj (λl g n=>?_) (f _ _ _ P)
   show af l g (_j n j)
  .have S:some (x,s)=some (v,t):=A_ λz=>H λX=>absurd X z
   rcases J S with z|⟨rfl,rfl⟩
   .show absurd (λ_=>z) H
   .cases S;rw[e]at q;cases q;show af _ (.inr (fZ _ _ _ _)) (A? _)
 .show aj (λO P j=>?_) h.st
  show aj (λl g n=>?_) (f _ _ _ P)
  show af l g (_j n j)
def Dj.skip(h:Dj N L m u F W (some (x,s)) done)(e:F x s=some d)(Y:0<=L k)(P:F y (s^^12#0)=some O\/(W y (s^^12#0)=some O/\O.1<=d.1+L k)):
 Dj N L m u F W (some (x,s)) (λD p=>done D p\/(D=k/\p=y)):=by
 show⟨h.fw,h.ww,h.dj,h.le,h.mx,λv t E i r q a b J=>?_,h.st⟩
 by_cases H:some (x,s)=some (v,t)->done i r
 .show h.cl v t E i r q a b H
 .have S:some (x,s)=some (v,t):=A_ λz=>H λX=>absurd X z
  rcases J S with z|⟨rfl,rfl⟩
  .show absurd (λ_=>z) H
  .cases S;rw[e]at q;cases q;rcases P with P|⟨P,j⟩
   .have:=h.mx x s d _ _ O rx e P;show af O (.inl P) (by lia)
   .show af O (.inr P) j
def Dj.all(h:Dj N L m u F W (some (x,s)) done)(a:∀k y,k<N.n->Jn N k x y->done k y):Dj N L m u F W none (52#0) :=
 ⟨h.fw,h.ww,h.dj,h.le,λ_ _ _ _ _ _ z=>(nomatch z),λv t d k y q B J _=>h.cl v t d k y q B J λz=>by cases z;show a k y B J,h.st⟩
def Dj.best(h:Dj N L m u F W none (52#0))(c:∀x s,W x s=none)(x:Nat)(s:Bool):VN N L m u x s ((F x s).map (·.1)):=by
 have a:∀{o:List Nat} {v e:Nat} {t:Bool} {z:Int},Wl N L m u o v t z e->∃d,F v t=some d/\d.1<=z:=λ{o v e t z} w=>by
  induction w with
  | nil =>
    show aj (λd q l=>?_) h.st
    rcases q with q|q
    .show af d q l
    .rw[c]at q;cases q
  | @go o v w k e s z _ B J E =>
    revert E;show aj λd q l=>?_
    show aj (λO P j=>?_) (h.cl _ _ d k _ q B J 96#0)
    rcases P with P|P
    .show af O P (by lia)
    .rw[c]at P;cases P
 cases q:F x s with
 | none =>
   intro z ⟨_,_,w⟩;show aj (λd P _=>?_) (a w)
   rw[q]at P;cases P
 | some d =>
   obtain⟨o,w⟩:=h.fw x s d q;show⟨kZ _ _ w,λz=>fX λ_ _ k=>?_⟩
   show aj (λO P j=>?_) (a k)
   rw[q]at P;cases P;show j
end
end RM
namespace L2
open PySem Ring
abbrev ky(x:Nat)(s:Bool):List Key:=[.inl (x:Int),.inl (s.toNat:Int)]
def JC(h:ky x s=ky y t):x=y/\s=t:=by
 injection h with R W
 injection W with W _
 injection R with R
 injection W with W
 show⟨by lia,?_⟩
 cases s<;>cases t<;>first | rfl | (simp at W)
def wV(H:Hp):Option (Int×Nat)->V->Prop
 | none,v=>v = .eM
 | some d,v=>∃c,v = .ref c/\H c=17#([.int d.1,65#d.2])
def wV.tups(h:wV H o v)(s:fT H Y):wV Y o v:=by
 cases o with
 | none=>show h
 | some d=>revert h;show aj λc e q=>?_;show af c e (s _ _ q)
structure zU(p:Nat)(H0:Hp)(D wd:Addr)(es:183#0)(kvs:212#V)(F W:RM.OW)(H:Hp):Prop where
 same:ai H0 H
 nd:es.Nodup
 ne:D∉es
 fr:∀b∈es,H0 b=none
 Dn:H0 D=none
 wn:H0 wd=none
 wD:wd≠D
 wE:wd∉es
 lst:H D=1#(es.map V.ref)
 at_:∀i b,es[i]?=some b->∃v0 v1,H b=1#([v0,v1])/\wV H (F i false) v0/\wV H (F i true) v1
 dt:H wd=some (.dT kvs)
 kn:(kvs.map (·.1)).Nodup
 keys:∀kv∈kvs,∃x s,x<p/\kv.1=ky x s
 out:∀x s d,W x s=some d->x<p
 val:∀x s,(W x s=none/\gH kvs (ky x s)=none)\/∃d c,W x s=some d/\gH kvs (ky x s)=some (.ref c)/\H c=17#([.int d.1,65#d.2])
section
variable {p:Nat}{H0 H H' : Hp}{D wd:Addr}{es:183#0}{kvs:212#V}{F W:RM.OW}
def zU.go(h:zU p H0 D wd es kvs F W H)(s:ai H H'):zU p H0 D wd es kvs F W H' :=
 ⟨h.same.trans s,h.nd,h.ne,h.fr,h.Dn,h.wn,h.wD,h.wE,s _ _ h.lst,λi b e=>let⟨v0,v1,a,b1,c⟩:=h.at_ i b e;(aq v0 v1 (s _ _ a) (b1.tups s.tups) (c.tups s.tups)),s _ _ h.dt,h.kn,h.keys,h.out,
  λx t=>(h.val x t).imp (λz=>z) <| aA λd c a b e=>aq d c a b (s _ _ e)⟩
def zU.len(h:zU p H0 D wd es kvs F W H):kvs.length<=2*p:=by
 have S:=h.kn;have B:=h.keys
 let code:List Key->Nat:=λk=>match k with | [.inl x,.inl s]=>2*x.toNat+s.toNat | _=>0
 have f:∀a∈kvs.map (·.1),∀b∈kvs.map (·.1),code a=code b->a=b:=λa i b U e=>by
  show aj (λu G L=>?_) (i!.mp i);subst L
  show aj (λv j Y=>?_) (i!.mp U);subst Y
  show br (λx s _ q=>?_) (B u G)
  show br (λy t _ w=>?_) (B v j)
  rw[q,w]at e ⊢;have e:2*((x:Int)).toNat+((s.toNat:Int)).toNat=2*((y:Int)).toNat+((t.toNat:Int)).toNat:=e;rw[l!,l!,l!,l!]at e;have l:s.toNat<2:=by cases s<;>decide
  have d:t.toNat<2:=by cases t<;>decide
  have g:x=y:=by lia
  have c:s.toNat=t.toNat:=by lia
  have R:s=t:=by cases s<;>cases t<;>first | rfl | (simp at c)
  rw[g,R]
 have Z:((kvs.map (·.1)).map code).Nodup:=by
  revert f
  generalize kvs.map (·.1)=l at S;intro f
  induction S with
  | nil=>show N_
  | @cons a l R c E =>
    rw[w!,U!];show⟨λd=>?_,E λa i b U e=>f a (sY _ i) b (sY _ U) e⟩
    show aj (λb U e=>?_) (i!.mp d)
    show R b U (f a h! b (sY _ U) e.symm)
 have sub:∀c∈(kvs.map (·.1)).map code,c∈List.range (2*p):=λc L=>by
  show aj (λa i d=>?_) (i!.mp L);subst d
  show aj (λu G o=>?_) (i!.mp i);subst o
  show br (λx s O q=>?_) (B u G)
  rw[q,z!];change 2*((x:Int)).toNat+((s.toNat:Int)).toNat<2*p;rw[l!,l!];have l:s.toNat<2:=by cases s<;>decide
  lia
 have:=Z.length_le_of_subset sub
 simpa using this
def zU.row(h:zU p H0 D wd es kvs F W H)(Y:i<es.length):∃b J B,(es.map V.ref)[i]?=240#0/\es[i]?=some b/\H b=1#([J,B])/\wV H (F i false) J/\wV H (F i true) B:=by
 have e:es[i]?=some es[i]:=A! Y;show aA (λJ B a b c=>?_) (h.at_ i _ e)
 show cF (es[i]) J B (by rw[j!,e];rfl) e a b c
theorem wC [DecidableEq a](k j:a):∀kvs:List (a×V),gH (gf kvs k) j=if j=k then none else gH kvs j
 | []=>by rw[show gf ([]:List (a×V)) k=[] from rfl,zF];split<;>rfl
 | q::r=>by
   by_cases e:q.1=k
   .rw[CQ e,wC k j r]
    by_cases D:j=k
    .rw[ο D,ο D]
    .rw[ξ D,ξ D,ez (λz=>D (z.symm.trans e))]
   .rw[CS e]
    by_cases R:q.1=j
    .rw[eT R,ξ (λz=>e (R.trans z)),eT R]
    .rw[ez R,wC k j r,ez R]
def zU.take(h:zU p H0 D wd es kvs F W H)(e:W x s=some d)(L:H c=17#([.int d.1,65#d.2]))(U:es[x]?=some b)(v:H b=1#([J,B])):
 zU p H0 D wd es (gf kvs (ky x s)) (RM.qO F x s d) (RM.JB W x s) (η (η H wd (.dT (gf kvs (ky x s)))) b 66#(([J,B]:List V).set s.toNat (.ref c))):=by
 have n:=iu U;have f:b≠wd:=λz=>h.wE (z▸n)
 have m:D≠b:=λz=>h.ne (z▸n)
 have k:fT H (η (η H wd (.dT (gf kvs (ky x s)))) b 66#(([J,B]:List V).set s.toNat (.ref c))):=λa o q=>by
  rw[au (cP q v 30#0),au (cP q h.dt 30#0)]
  show q
 show⟨(h.same.put h.wn).put (h.fr b n),h.nd,h.ne,h.fr,h.Dn,h.wn,h.wD,h.wE,by rw[au m,au (e! h.wD)];show h.lst,λi A r=>?_,by rw[au (e! f),aa],zG h.kn,λC j=>h.keys C (CT j),λy t E q=>?_,λy t=>?_⟩
 .by_cases l:i=x
  .subst l;rw[U]at r;cases r;show aA (λX u O P g=>?_) (h.at_ _ _ U)
   rw[v]at O;cases O;cases s with
   | false=>show aq (.ref c) B aa (by rw[RM.fZ];show af c rx (k _ _ L)) (by rw[RM.eF (λz=>by cases z.2)];show g.tups k)
   | true=>show aq J (.ref c) aa (by rw[RM.eF (λz=>by cases z.2)];show P.tups k) (by rw[RM.fZ];show af c rx (k _ _ L))
  .have bb:A≠b:=λz=>by
    subst z;obtain⟨R,g⟩:=k6.mp r;obtain⟨M,T⟩:=k6.mp U;show l ((_O h.nd).mp (g.trans T.symm))
   show aA (λX u O P g=>?_) (h.at_ _ _ r)
   show aq X u (by rw[au bb,au (show A≠wd from λz=>h.wE (z▸iu r))];show O) (by rw[RM.eF (λz=>l z.1)];show P.tups k) (by rw[RM.eF (λz=>l z.1)];show g.tups k)
 .by_cases z:y=x/\t=s
  .obtain⟨rfl,rfl⟩:=z;rw[RM.D7]at q;cases q
  .rw[RM.yV z]at q;show h.out y t E q
 .rw[wC]
  by_cases z:y=x/\t=s
  .obtain⟨rfl,rfl⟩:=z;show .inl ⟨RM.D7 _ _ _,ο rfl⟩
  .rw[RM.yV z,ξ (λq=>z (JC q))]
   rcases h.val y t with q|⟨E,w,O,P,g⟩
   .show .inl q
   .show .inr (aq E w O P (k _ _ g))
def zU.wait(h:zU p H0 D wd es kvs F W H){d:Int×Nat}(O:x<p)(L:H c=17#([.int d.1,65#d.2])):
 zU p H0 D wd es (putK kvs (ky x s) (.ref c)) F (RM.qO W x s d) (η H wd (.dT (putK kvs (ky x s) (.ref c)))):=by
 have k:fT H (η H wd (.dT (putK kvs (ky x s) (.ref c)))):=λa o q=>by
  rw[au (cP q h.dt 30#0)]
  show q
 have l:(∀C∈putK kvs (ky x s) (.ref c),∃x s,x<p/\C.1=ky x s)/\((putK kvs (ky x s) (.ref c)).map (·.1)).Nodup:=by
  cases q:gH kvs (ky x s) with
  | none =>
    show⟨λC j=>?_,SY _ h.kn q⟩
    rw[F8 _ q]at j;show 316#j
    .show h.keys C z
    .rw[a!.mp z];show aV x s O rfl
  | some v =>
    have b:(kvs.any λC=>11#(C.1=ky x s))=true:=by rw[j7,q];rfl
    have e:putK kvs (ky x s) (.ref c)=kvs.map λC=>if C.1=ky x s then(C.1,.ref c) else C:=by unfold putK;rw[ο b]
    have X:(putK kvs (ky x s) (.ref c)).map (·.1)=kvs.map (·.1):=by
     rw[e,z?];show List.map_congr_left λC _=>?_
     change(if C.1=ky x s then(C.1,V.ref c) else C).1=C.1
     split<;>rfl
    show⟨λC j=>?_,by rw[X];show h.kn⟩
    have i:C.1∈kvs.map (·.1):=by rw[<-X];show V_ j
    show aj (λf R g=>?_) (i!.mp i)
    rw[<-g];show h.keys f R
 show⟨h.same.put h.wn,h.nd,h.ne,h.fr,h.Dn,h.wn,h.wD,h.wE,by rw[au (e! h.wD)];show h.lst,λi b U=>?_,aa,l.2,l.1,λy t E q=>?_,λy t=>?_⟩
 .show aA (λX u e P g=>?_) (h.at_ _ _ U)
  show aq X u (by rw[au (show b≠wd from λz=>h.wE (z▸iu U))];show e) (P.tups k) (g.tups k)
 .by_cases z:y=x/\t=s
  .rw[z.1];show O
  .rw[RM.eF z]at q;show h.out y t E q
 .rw[P1]
  by_cases z:y=x/\t=s
  .obtain⟨rfl,rfl⟩:=z;show .inr (aq d c (RM.fZ _ _ _ _) (ο rx) (k _ _ L))
  .rw[RM.eF z,ξ (λq=>z (JC q))]
   rcases h.val y t with q|⟨E,w,e,P,g⟩
   .show .inl q
   .show .inr (aq E w e P (k _ _ g))
end
abbrev lD(m:Nat)(H:Hp)(c:Addr)(a:Nat×Nat):Prop:=H c=17#([65#a.1,65#a.2,65#(m.testBit a.1).toNat])
structure M5(m:Nat)(H0:Hp)(D:Addr)(es:183#0)(S:Nat->List (Nat×Nat))(H:Hp):Prop where
 same:ai H0 H
 nd:es.Nodup
 ne:D∉es
 fr:∀b∈es,H0 b=none
 Dn:H0 D=none
 lst:H D=1#(es.map V.ref)
 at_:∀i b,es[i]?=some b->∃cs,H b=1#(cs.map V.ref)/\Paired (lD m H) cs (S i)
section
variable {m:Nat}{H0 H H' : Hp}{D b:Addr}{es:183#0}{S:Nat->List (Nat×Nat)}{i:Nat}
def M5.go(h:M5 m H0 D es S H)(s:ai H H'):M5 m H0 D es S H' :=
 ⟨h.same.trans s,h.nd,h.ne,h.fr,h.Dn,s _ _ h.lst,λi b e=>let⟨cs,a,q⟩:=h.at_ i b e;(af cs (s _ _ a) (Paired.FA q λ_ _ z=>s _ _ z))⟩
noncomputable def zV(S:Nat->List (Nat×Nat))(x:Nat)(a:Nat×Nat):Nat->List (Nat×Nat):=λi=>if i=x then S i++[a] else S i
def M5.get(h:M5 m H0 D es S H)(Y:i<es.length):∃b cs,(es.map V.ref)[i]?=240#0/\es[i]?=some b/\H b=1#(cs.map V.ref)/\Paired (lD m H) cs (S i):=by
 have e:es[i]?=some es[i]:=A! Y;show aj (λcs a q=>?_) (h.at_ i _ e)
 show bh (es[i]) cs (by rw[j!,e];rfl) e a q
def M5.put(h:M5 m H0 D es S H){cs:183#0}(U:es[i]?=some b)(u:H b=1#(cs.map V.ref))(q:Paired (lD m H) cs (S i))(L:lD m H c a):
 M5 m H0 D es (zV S i a) (η H b 66#(cs.map V.ref++[.ref c])):=by
 have d:=iu U;have y:D≠b:=λz=>h.ne (z▸d)
 have k:∀c a,lD m H c a->lD m (η H b 66#(cs.map V.ref++[.ref c])) c a:=λc a z=>by
  change η H b _ c=_;rw[au (cP z u 30#0)]
  show z
 have g:∀x a,lD m H x a->lD m (η H b 66#(cs.map V.ref++[.ref c])) x a:=λx a z=>by
  change η H b _ x=_;rw[au (cP z u 30#0)]
  show z
 show⟨h.same.put (h.fr b d),h.nd,h.ne,h.fr,h.Dn,by rw[au y];show h.lst,λj A r=>?_⟩
 by_cases e:j=i
 .subst e;rw[U]at r;cases r;show af (cs++[c]) (by rw[aa];simp) ?_
  unfold zV;rw[ο rfl];show Paired.snoc (Paired.FA q λ_ _ z=>g _ _ z) (g _ _ L)
 .have bb:A≠b:=λz=>by
   subst z;obtain⟨R,W⟩:=k6.mp r;obtain⟨M,T⟩:=k6.mp U;show e ((_O h.nd).mp (W.trans T.symm))
  show aj (λf O P=>?_) (h.at_ j A r)
  show af f (by rw[au bb];show O) ?_
  unfold zV;rw[ξ e];show Paired.FA P λ_ _ z=>g _ _ z
def M5.off(h:M5 m H0 D es S H)(Y:H L=none):L∉es:=λz=>by
 obtain⟨j,J⟩:=T? z;show aj (λ_ q _=>?_) (h.at_ j L J)
 rw[Y]at q;cases q
def Uy(m:Nat)(H0:Hp)(D:Addr)(i:Nat)(I:List V)(H:Hp):Prop:=∃es,I=es.map V.ref/\es.length=i/\M5 m H0 D es (λ_=>[]) H
def Uy.start(r:H0 D=none):Uy m H0 D 0 [] (61#H0) :=
 (av [] rx rx ⟨ai.new r,N_,q_,λ_ h=>(q_ h).elim,r,aa,λi b e=>by cases e⟩)
def Uy.len(h:Uy m H0 D i I H):19#H/\I.length<=i:=by
 revert h;show aG λes L e r=>?_;subst L
 show⟨r.lst,by rw[Δ];lia⟩
def Uy.next(h:Uy m H0 D i I H)(U:H b=none):159#(η H b 185#0 D)/\Uy m H0 D (i+1) (I++[.ref b]) (η (η H b 185#0) D 66#(I++[.ref b])):=by
 revert h;show aG λes Y e r=>?_;subst Y
 have f:D≠b:=λz=>by
  have:=r.lst;rw[z,U]at this;cases this
 have t:b∉es:=r.off U;have A:H0 b=none:=r.same.free U;show⟨by rw[au f];show r.lst,(av (es++[b]) 23#0 (by simp[e]) ⟨(r.same.put A).put r.Dn,?_,?_,λc L=>?_,r.Dn,by rw[aa];simp,λj c L=>?_⟩)⟩
 .show _M.mpr (bj r.nd 23#0 (λx O y X=>by rw[a!.mp X];show λz=>t (z▸O)))
 .intro d;show 316#d
  .show r.ne z
  .show f (a!.mp z)
 .show 316#L
  .show r.fr c z
  .rw[a!.mp z];show A
 .have g:c≠D:=λz=>by
   subst z;show 316#(iu L)
   .show r.ne z
   .show f (a!.mp z)
  show af [] ?_ .nil;rw[au g]
  by_cases d:c=b
  .rw[d,aa];rfl
  .rw[au d]
   by_cases J:j<es.length
   .rw[B? J]at L;show aj (λa O P=>?_) (r.at_ j c L)
    cases P;show O
   .rw[J? (by lia)]at L
    have:=iu L;show absurd (a!.mp this) d
end
structure Uz(N:RM.Net)(k:Nat)(S:Nat->List (Nat×Nat)):Prop where
 mem:∀i kw,kw∈S i↔(kw.1<k/\RM.Jn N kw.1 i kw.2)
 len:∀i,(S i).length<=2*k
def Uz.start:Uz N 0 (λ_=>[]):=⟨λi a=>⟨λh=>(nomatch h),λh=>absurd h.1 (r? _)⟩,λ_=>r! _⟩
def Uz.next(h:Uz N k S):Uz N (k+1) (zV (zV S (N.a k) (k,N.b k)) (N.b k) (k,N.a k)):=by
 show⟨λi a=>?_,λi=>?_⟩
 .have c:∀(S:Nat->List (Nat×Nat)) (x:Nat) (q:Nat×Nat),a∈zV S x q i↔a∈S i\/(i=x/\a=q):=λS x q=>by
   unfold zV
   by_cases e:i=x
   .rw[ο e,d!,a!];simp[e]
   .rw[ξ e];simp[e]
  rw[c,c,h.mem];obtain⟨D,w⟩:=a
  constructor
  .rintro((⟨R,W⟩|⟨rfl,W⟩) | ⟨rfl,W⟩)
   .show⟨e_ R,W⟩
   .cases W;show⟨K_ _,.inl ⟨rfl,rfl⟩⟩
   .cases W;show⟨K_ _,.inr ⟨rfl,rfl⟩⟩
  .rintro⟨R,W⟩
   by_cases e:D<k
   .show .inl (.inl ⟨e,W⟩)
   .have e:D=k:=by have:D<k+1:=R;lia
    subst e;rcases W with⟨M,T⟩|⟨M,T⟩
    .show .inl (.inr ⟨M.symm,by have T:N.b D=w:=T;rw[T]⟩)
    .show .inr ⟨M.symm,by have T:N.a D=w:=T;rw[T]⟩
 .have c:∀(S:Nat->List (Nat×Nat)) (x:Nat) (q:Nat×Nat),48#(zV S x q i)<=(S i).length+1:=λS x q=>by
   unfold zV
   split
   .simp
   .lia
  have R:=c (zV S (N.a k) (k,N.b k)) (N.b k) (k,N.a k);have W:=c S (N.a k) (k,N.b k);have M:=h.len i
  lia
end L2
namespace RM
noncomputable def left(F:OW):Nat->Nat
 | 0=>0
 | p+1=>left F p+(if(F p false).isNone then 1 else 0)+(if(F p true).isNone then 1 else 0)
theorem C4:∀{p},(∀x,x<p->∀s,F x s=G x s)->left F p=left G p
 | 0,_=>rfl
 | p+1,h=>by
   unfold left;rw[C4 λx O=>h x (by lia),h p (by lia),h p (by lia)]
theorem GH(S:F x s=none):∀{p},x<p->left (qO F x s d) p<left F p
 | 0,h=>absurd h (r? _)
 | p+1,h=>by
   unfold left
   by_cases e:x=p
   .subst e;rw[C4 (F:=qO F x s d) (G:=F) λy X t=>eF λz=>by lia]
    cases s with
    | false=>rw[fZ,eF (λz=>by cases z.2),S];simp
    | true=>rw[fZ,eF (λz=>by cases z.2),S];simp
   .have E:=GH (F:=F) (x:=x) (s:=s) (d:=d) S (p:=p) (by lia)
    rw[eF (λz=>e z.1.symm),eF (λz=>e z.1.symm)]
    lia
end RM
namespace L2
open PySem Ring
noncomputable def YO(W:RM.OW)(k:List Key):List Int:=match k with
 | [.inl x,.inl s]=>(match W x.toNat (decide (s=1)) with | some d=>[d.1,(d.2:Int)] | none=>[])
 | _=>[]
def QV(h:W x s=some d):YO W (ky x s)=[d.1,(d.2:Int)]:=by
 have e:(decide (7#s.toNat=1))=s:=by cases s<;>rfl
 change(match W ((x:Int)).toNat (decide (7#s.toNat=1)) with | some d=>[d.1,(d.2:Int)] | none=>[])=_
 rw[l!,e,h]
def QW(W:RM.OW)(N:212#V)(i:Nat):List Int:=YO W ((N[i]?.map (·.1)).getD [])
def D8(h:HT.lexLt [a,b] [c,d]=false):c<=a:=by
 rw[HT.lu]at h
 by_cases e:a=c
 .lia
 .rw[ξ e]at h;have:=of_decide_eq_false h
  lia
theorem C5 [DecidableEq a]:∀{kvs} {k:a} {v:V},(kvs.map (·.1)).Nodup->(k,v)∈kvs->gH kvs k=some v
 | [],_,_,_,h=>nomatch h
 | q::r,k,v,nd,h=>by
   rw[w!,U!]at nd;rcases Z'.mp h with e|h
   .subst e;show eT rfl
   .have G : ¬ q.1=k:=λz=>nd.1 (by rw[z];show V_ (f:=(·.1)) h)
    rw[ez G];show C5 nd.2 h
def zU.entry(h:zU p n D S l N F W H)(e:N[i]?=some C):
 ∃x s d c,x<p/\C.1=ky x s/\W x s=some d/\gH N (ky x s)=some (.ref c)/\C.2 = .ref c/\H c=17#([.int d.1,65#d.2])/\QW W N i=[d.1,(d.2:Int)]:=by
 have b:=iu e;show br (λx s O X=>?_) (h.keys C b)
 have U:gH N (ky x s)=some C.2:=C5 h.kn (by rw[<-X];show b)
 rcases h.val x s with⟨_,z⟩|⟨d,c,R,a,M⟩
 .rw[U]at z;cases z
 .rw[U]at a;show bH x s d c O X R (U.trans a) (bj (26#a) M ?_);unfold QW;rw[e];change YO W C.1=_;rw[X];show QV R
def zU.find(h:zU p n D S l N F W H)(e:W x s=some d):∃i C,N[i]?=some C/\C.1=ky x s/\QW W N i=[d.1,(d.2:Int)]:=by
 rcases h.val x s with⟨z,_⟩|⟨E,c,R,a,M⟩
 .rw[e]at z;cases z
 .have b:=SX a;show aj (λC j X=>?_) (i!.mp b)
  obtain⟨i,Y⟩:=T? j;show aq i C Y X ?_;unfold QW;rw[Y];change YO W C.1=_;rw[X];show QV e
def zU.start(f:Jw n D l (λ_ _=>none) H)(G:u<p)(k:H S=some (.dT []))(h0:n S=none)(L:H c=17#([.int 0,.int 0])):
 zU p n D S l [(ky u false,.ref c)] (λ_ _=>none) (RM.qO (λ_ _=>none) u false (0,0)) (η H S (.dT [(ky u false,.ref c)])):=by
 have a:S≠D:=λz=>by rw[z,f.lst]at k;cases k
 have h:S∉l:=λz=>by
  obtain⟨j,J⟩:=T? z;have:=f.at_ j S J;rw[k]at this;cases this
 show⟨f.same.put h0,f.nd,f.ne,f.fr,f.Dn,h0,a,h,by rw[au (e! a)];show f.lst,λi b U=>?_,aa,by simp,λC j=>?_,λx s d e=>?_,λx s=>?_⟩
 .have m:b≠S:=λz=>h (z▸iu U)
  show aq .eM .eM (by rw[au m];show f.at_ i b U) rx rfl
 .rw[a!.mp j];show aV u false G rfl
 .by_cases z:x=u/\s=false
  .rw[z.1];show G
  .rw[RM.eF z]at e;cases e
 .by_cases z:x=u/\s=false
  .obtain⟨rfl,rfl⟩:=z;show .inr (aq (0,0) c (RM.fZ _ _ _ _) (eT rx) (by rw[au (cP L k 30#0)];show L))
  .show .inl 173#(RM.eF z);rw[ez (λq=>z ?_),zF]
   obtain⟨g,m⟩:=JC q;show⟨g.symm,m.symm⟩
open PySem PySem.Spec PyProof.Rows
section
variable {P:Program}{w:World}{A:Around}{E:kj}{s:Shared}
def QX(N:A.handled=none)(C:s.heap.IsList l #[L,v])
 (O:∀h' F,(∀b o,21#o->24#h'.get?)->Q [L,v] { s with heap:=h',toks:=F}):79#(unpackItems (.ref l) 2 none):=by
 show dO (λD d c X a=>?_) (id C)
 have t:s.TypeIs (.ref l) "list":=af D d c;have J:l≠s.heap.objs.size:=q! (J' d);unfold unpackItems;show aQ ?_;unfold notIterableAtAll;show aQ (wpAny_specialOf t PySem.F.slot_list_iter.lookup (Θ ?_));simp only[L?,if_false];show aQ (t! (wpAny_pyIter_list C ?_));have W:=Walks.list (prog:=P) (w:=w) (A:=A) N s.heap.objs.size l J #[L,v];generalize y:174#87#(.type "list_iterator")=h;have j:∀b o,21#o->24#h.get?:=λb o e=>by rw[<-y];show W' _ e
 have p:h.IsListIter s.heap.objs.size l 0:=by rw[<-y];show av _ (v! _ rx) rx rfl
 have q:h.IsList l #[L,v]:=by rw[<-y];show af D (W' _ d) (cJ c X a)
 have g:∀b o,21#o->b∉[s.heap.objs.size]:=λb o e z=>q! (J' e) (a!.mp z)
 show aQ (t! ?_);show 50#(pyNext (22#.ref) >>= _);show aQ (W.item 0 _ _ _ 23#0 ⟨p,q⟩ λB R G x f m=>?_)
 obtain rfl:L=B:=by simpa using x
 show aQ (t! ?_);show 50#(pyNext (22#.ref) >>= _);show aQ (W.item 1 _ _ _ 23#0 f λu S I k r i=>?_)
 obtain rfl:v=u:=91#0
 show aQ (t! ?_);show 50#(pure []);show Θ (Θ (Θ ?_));rw[ξ 23#0]
 show aQ (t! (W.done _ _ _ r λM n H=>?_))
 simp only[Option.isSome_none,L?,if_false];show Θ (O M n λb o e=>H b o (g b o e) (i b o (g b o e) (m b o (g b o e) (j b o e))))
def QY{x1}(N:A.handled=none)(C:s.heap.IsList l #[L,v])
 (S:48#(assignEach T env)=2) (a:(assignEach T env).findIdx? (·.1)=none)
 (h:∀h' F,(∀b o,21#o->24#h'.get?)->wpAny (model P w) A (assignInOrder ((assignEach T env).map (·.2)) [L,v]) Q E { s with heap:=h',toks:=F}) :
 79#(assign (.Tuple T x1 j) env (.ref l)):=by
 rw[arm_assign_Tuple];show aQ (wpAny_standAt ?_);unfold unpack;rw[S,a];show aQ (t! (QX N C h))
end
section
variable {X:Cx}{es:312#0}{pos:Pos}
def XO(K:bY)(t:R5):TG:=λv M H Q=>∃a x y,v = .ref a/\aK K H a [x,y]/\t [x,y] M H Q
def ZV(K:bY){k:Nat}{t:R5}(L:X.calm=true)(h:WD X es t)
 (S:48#(235#es)=2:=by rfl) (p:(235#es).findIdx? (·.1)=none:=by rfl) (l:X.K=K:=by rfl):PG X (.Tuple es k pos) (XO K t):=by
 subst l;intro A s M H v u Q I r j
 revert j;show bz λa x y c Y j=>?_
 subst c;cases r;show 120#(λg D d m=>?_)
 cases D with
 | cons J C=>cases C with
   | cons i b =>
     cases b;show QY 276#0 d.isList S p λN F O=>?_
     show h A _ M H [x,y] _ Q (I.kept (t':=F) O) (.cons J 233#i) j
end
end L2
namespace RM
section
variable {N:Net}{L:Nat->Int}{m u:Nat}
theorem yf:∀{n},(∀k,k<n->0<L k)->(∀k,k<n->f k=true->g k=true)->∀k,k<n->f k=false->g k=true->lsum L f n<lsum L g n
 | 0,_,_,k,B,_,_=>absurd B (r? _)
 | n+1,Y,h,k,B,Z,y=>by
   unfold lsum;have S:=h n (by lia)
   have F:=Y n (by lia)
   by_cases e:k=n
   .subst e;have:=wu (L:=L) (f:=f) (g:=g) (n:=k) (λj J=>Int.le_of_lt (Y j (by lia))) λj J=>h j (by lia)
    rw[Z,y];simp only[L?,if_false,if_true]
    lia
   .have E:=yf (n:=n) (λj J=>Y j (by lia)) (λj J=>h j (by lia)) k (by lia) Z y
    cases N:f n with
    | false=>cases g n<;>simp<;>lia
    | true=>rw[S N];simp;lia
def JD(Y:∀k,k<N.n->0<L k)(G:u<N.p)(h:Wz N L m u u true z e)(l:∀x y,x<N.p->Wy N L m x x true y->z<=y):
 N.Ring e/\e<2^N.n/\N.par e m=true/\lsum L (λk=>215#0) N.n=z:=by
 have d:∀k,k<N.n->0<=L k:=λk B=>Int.le_of_lt (Y k B)
 obtain⟨o,h⟩:=h;show dI (λ_ W M T b _=>?_) (zP d G h)
 show aG (λr J i a=>?_) (Jv _ e rx W (λx _=>by rw[M,Bool.xor_self]) T)
 have p:r<2^N.n:=gG λk B=>wz W (i k B)
 show aj (λx O j=>?_) (Gv d m J p)
 rw[a]at j;have q:=l x _ O j;have F:=wu (L:=L) (f:=λk=>320#0) (g:=λk=>215#0) d λk _ B=>i k B
 have c:e=r:=S? λk=>by
  cases P:320#0 with
  | true=>show i k P
  | false =>
    cases n:215#0 with
    | false=>rfl
    | true =>
      have:=yf (L:=L) (f:=λk=>320#0) (g:=λk=>215#0) Y (λk _ B=>i k B) k (wz W n) P n
      lia
 rw[c];show iI J p a (by lia)
end
end RM
namespace L2
open PySem PySem.Spec PyProof.Rows
section
variable {X:Cx}{pq:cN}{σ:St}{H:Hp}{l It S:Addr}{cs:183#0}{ks:Nat->List Int}{R:227#Result}
def oW(I:θ X y σ H s)(C:aK X.K H l (cs.map V.ref)):s.heap.IsList l 145#cs.map:=by
 show aG 254#0 (I.list C)
 have e:g=cs.map Value.ref:=by
  clear C p m
  induction cs generalizing g with
  | nil=>cases D;rfl
  | cons c r E =>
    rw[w!]at D;cases D with
    | cons h t=>cases h;rw[E _ t];rfl
 rw[e]at p;show p.isList
def M6(a:X.A.handled=none)(M:X.A.in1.units<cLine)(C:aK X.K H l (cs.map V.ref))(B:∀(i:Nat) c,cs[i]?=some c->aZ X.K H c (302#(ks i)))(G:Jx X S)(d:Jx X It)(SI:S≠It)(b:l≠It)
 (Z:∀p∈pq,p.1≠It) (O:∀p∈pq,p.1≠S)
 (D:∀(i:Nat) c s',cs[i]?=some c->(∀j,j<cs.length->HT.lexLt (ks j) (ks i)=false)->θ X pq σ H s'->R (196#(.ref c)) s') :
 ∀r j i c s n o,cs.length-j=r->j<=cs.length->i<j->cs[i]?=some c->θ X ((S,seqObj "list" #[.ref c,.ref c] n)::(It,o)::pq) σ H s->s.heap.IsListIter It l j->
   (∀g,g<j->HT.lexLt (ks g) (ks i)=false)->codeAny 9#0 X.A (.builtin "min.loop" ⟨[.ref It,.none,.ref S],[]⟩) R s:=by
 have hname:(toString "min" ++ toString ".loop":String)="min.loop":=by decide
 have W:=Walks.list (prog:=X.prog) (w:=X.w) (A:=X.A.in1) a It l b 145#cs.map;have k:(cs.map Value.ref).toArray.size=cs.length:=by simp
 intro r
 induction r with
 | zero =>
   intro j i c s n o P J f L I a Y;have h:j=cs.length:=by lia
   have Q:=I.pin (S,_) 64#j4;show 217#B_;rw[273#0];change 42#(seqItems? (.ref S));show aQ (wpAny_seqItems Q.1 rx ?_);show 295#(279#It);show aQ (O? (W.done _ _ _ ⟨by rw[k,<-h];show a,oW I C⟩ λN tk' x=>?_))
   have T:=I.mD (t':=tk') (h':=N) (pb:=(S,seqObj "list" #[.ref c,.ref c] n)::pq) d 64#List.Mem.tail (λb u U e=>x b u (102#0) e) (λp t=>by
    show 37
    .show .inr ⟨.head _,SI⟩
    .show .inr ⟨271#0,Z p t⟩)
   have m:=T.pin (S,_) 64#j4;change 42#(updateSeq S (λ_=>#[]))
   show aQ (wpAny_updateSeq m.1 rx (aQ (wpAny_letGo (Θ ?_))));have F:=Y! N S (39#(#[]))
   show D i c _ L (λg z=>Y g (by lia)) (T.mD (t':=tk') (pb:=pq) G (.head _) (λb u U e=>(F.2 b U).trans e) λp t=>.inr ⟨.tail _ t,O p t⟩)
 | succ r E =>
   intro j i c s n o P J f L I a Y;have h:j<cs.length:=by lia
   have Q:=I.pin (S,_) 64#j4;show 217#B_;rw[273#0];change 42#(seqItems? (.ref S));show aQ (wpAny_seqItems Q.1 rx ?_);show 295#(279#It);show aQ (O? (W.item j _ _ _ (by rw[k];show h) ⟨a,oW I C⟩ λv N tk' f q x=>?_))
   have k:cs[j]?=some cs[j]:=A! h;obtain rfl:v = .ref cs[j]:=by
    have:(cs.map Value.ref)[j]?=some v:=by simpa using f
    rw[j!,k]at this;show(26#this).symm
   show aG (λa h f o=>?_) (id q.1)
   have T:=I.mD (t':=tk') (h':=N) (pb:=(S,seqObj "list" #[.ref c,.ref c] n)::(It,a)::pq) d 64#List.Mem.tail (λb u U e=>x b u (102#0) e) (λp t=>by
    show 37
    .show .inr ⟨.head _,SI⟩
    .show 37
     .show .inl (bj rx h (λv z=>by rw[o]at z;cases z))
     .show .inr ⟨271#0,Z p t⟩)
   have y:=T.pin (S,_) 64#j4;show 295#(holding [.ref cs[j],.ref cs[j]] (richCompare .Lt (.ref cs[j]) (.ref c) >>= _));show aQ (O? (t! (aQ (QL T (B j _ k) (B i c L) M ?_))));show aQ (t! (wpAny_truthy_bool (aQ (wpAny_letGo (Θ ?_)))));cases d:HT.lexLt (ks j) (ks i) with
   | true =>
     have F:=Y! N S (39#(#[.ref cs[j],.ref cs[j]]))
     obtain⟨M,m⟩:∃M,(N.update S (39#(#[.ref cs[j],.ref cs[j]]))).get? S=some (seqObj "list" #[.ref cs[j],.ref cs[j]] M):=⟨_,get?_update_seq y.1 λ_=>#[.ref cs[j],.ref cs[j]]⟩
     simp only[if_true];show aQ (wpAny_updateSeq y.1 rfl (aQ (wpAny_letGo ?_)));rw[hname];have r:=T.mD (t':=tk') (pb:=(S,seqObj "list" #[.ref cs[j],.ref cs[j]] M)::(It,a)::pq) G (.head _) (λb u U e=>(F.2 b U).trans e) (λp t=>by
      show 37
      .show .inl (bj rx m (177#0))
      .show 37
       .show .inr ⟨.tail _ (.head _),SI.symm⟩
       .show .inr ⟨271#0,O p t⟩)
     show 307#(E (j+1) j cs[j] _ M a (by lia) (by lia) (by lia) k r (av a ((F.2 It SI.symm).trans h) f o) λg z=>?_)
     by_cases e:g=j
     .rw[e];show HT.je _
     .show HT.zS (Y g (by lia)) d
   | false =>
     simp only[L?,if_false];show aQ (wpAny_letGo ?_);rw[hname];show 307#(E (j+1) i c _ n a (by lia) (by lia) (by lia) L T q.1 λg z=>?_)
     by_cases e:g=j
     .rw[e];show d
     .show Y g (by lia)
def ZW(P:X.A.handled=none)(un:X.A.in1.units<cLine):fW X (.builtin "min") (λxs H Q=>∃(l:Addr) (cs:183#0) (ks:Nat->List Int),xs=[.ref l]/\aK X.K H l (cs.map V.ref)/\0<cs.length/\(∀(i:Nat) c,cs[i]?=some c->aZ X.K H c (302#(ks i)))/\
 ∀(i:Nat) c,cs[i]?=some c->(∀j,j<cs.length->HT.lexLt (ks j) (ks i)=false)->Q (.ref c) H):=by
 intro pq s σ H xs g Q I r h
 revert h;show bV λl cs ks a C y B q=>?_;subst a
 show 218#(λu Y a=>?_);subst Y
 cases a;have k:(toString "min" ++ toString ".loop":String)="min.loop":=by decide
 have a:=oW I C;show aj (λd b _=>?_) (id a)
 have m:226#l:=J' b;show call_function_tree PySem.F.kind_min PySem.F.plain_min PySem.F.entry_min (PySem.F.args_min1 _) ?_;change wpAny _ X.A.in1 (Builtin.Builtins.bindParams "min" ["key","default"] 0 ⟨[],[]⟩ >>= _) _ _ s;show aQ (wpAny_of_eq (show Builtin.Builtins.bindParams "min" ["key","default"] 0 ⟨[],[]⟩=pure [none,none] from rfl) ?_)
 show aQ (Θ (aQ (wpAny_pyIter_list a (aQ (wpAny_newList ?_ (r! _))))));rw[k];show Θ 173#(plainId_quiet d? _);generalize a:(87#(.type "list_iterator"):Obj)=E;have R:43#E=119#0:=size_push' ..;have h:∀b o,21#o->24#((s.heap.push E).push (seqObj "list" #[] 0)).get?:=λb o e=>W' _ (W' _ e)
 have f:22#((s.heap.push E).push (seqObj "list" #[] 0)).get?=some E:=W' _ (v! _ (by rw[<-a];rfl))
 have g:((s.heap.push E).push (seqObj "list" #[] 0)).get? 43#E=some (seqObj "list" #[] 0):=v! _ rfl;have d:∀p∈pq,226#p.1:=λp t=>J' (I.pin p (j4 _ t)).1
 have D:=I.QK (22#Ξ);have G:=I.QK (b:=43#E) (by rw[R];show Q! _)
 have n:43#E≠s.heap.objs.size:=by rw[R];show Z_ _
 have o:l≠s.heap.objs.size:=q! m;have Z:∀p∈pq,p.1≠s.heap.objs.size:=λp t=>q! (d p t)
 have O:∀p∈pq,p.1≠43#E:=λp t=>by rw[R];show q! (e_ (d p t))
 have J:θ X ((43#E,seqObj "list" #[] 0)::(s.heap.objs.size,E)::pq) σ H { s with heap:=(s.heap.push E).push (seqObj "list" #[] 0)}:=by
  have K:=I.kept (t':=s.toks) h;show K.i6 λp t=>?_
  show 37
  .show dF g (270#(by rw[R];show Q! _)) G.2.1 G.2.2.1 177#0
  .show 37
   .show dF f (270#(Ξ _)) D.2.1 D.2.2.1 λv z=>by rw[<-a]at z;cases z
   .show K.pin p (j4 _ t)
 have W:=Walks.list (prog:=X.prog) (w:=X.w) (A:=X.A.in1) P s.heap.objs.size l o 145#cs.map;have d:=J.pin (43#E,seqObj "list" #[] 0) 64#j4;show 217#B_;rw[273#0];change 42#(seqItems? (.ref _));show aQ (wpAny_seqItems d.1 rfl ?_);show 295#(pyNext (22#.ref));show aQ (O? (W.item 0 _ _ _ (by simpa using y) ⟨av E f (by rw[<-a]) (by rw[<-a];rfl),oW J C⟩ λv N S g m x=>?_))
 have d:cs[0]?=some cs[0]:=A! y;obtain rfl:v = .ref cs[0]:=by
  have:(cs.map Value.ref)[0]?=some v:=by simpa using g
  rw[j!,d]at this;show(26#this).symm
 show aG (λa g f h=>?_) (id m.1)
 have T:=J.mD (t':=S) (h':=N) (pb:=(43#E,seqObj "list" #[] 0)::(s.heap.objs.size,a)::pq) D 64#List.Mem.tail (λb u U e=>x b u (102#0) e) (λp t=>by
  show 37
  .show .inr ⟨.head _,n⟩
  .show 37
   .show .inl (bj rx g (λv z=>by rw[h]at z;cases z))
   .show .inr ⟨271#0,Z p t⟩)
 have r:=T.pin (43#E,_) 64#j4;have F:=Y! N 43#E (39#(#[.ref cs[0],.ref cs[0]]))
 obtain⟨M,m⟩:∃M,(N.update 43#E (39#(#[.ref cs[0],.ref cs[0]]))).get? 43#E=some (seqObj "list" #[.ref cs[0],.ref cs[0]] M):=⟨_,get?_update_seq r.1 λ_=>#[.ref cs[0],.ref cs[0]]⟩
 change 42#(updateSeq 43#E (λ_=>#[.ref cs[0],.ref cs[0]]))
 show aQ (wpAny_updateSeq r.1 rfl ?_);rw[k];have k:=T.mD (t':=S) (pb:=(43#E,seqObj "list" #[.ref cs[0],.ref cs[0]] M)::(s.heap.objs.size,a)::pq) G (.head _) (λb u U e=>(F.2 b U).trans e) (λp t=>by
  show 37
  .show .inl (bj rx m (177#0))
  .show 37
   .show .inr ⟨.tail _ (.head _),n.symm⟩
   .show .inr ⟨271#0,O p t⟩)
 show 307#(M6 P un C B G D n o Z O (λi c p L z b=>aq (.ref c) H b rx (q i c L z)) _ 1 0 cs[0] _ M a rx y (K_ _) d k (av a ((F.2 _ n.symm).trans g) f h) λj m=>?_)
 have e:j=0:=by lia
 rw[e];show HT.je _
end
section
variable {K:bY}{mg:Bg}{x:Str}{st:Stmt}{f c0 p0:Addr}{fd:FuncData}{ps:List Str}{h:Heap}
structure Dc(K:bY)(mg:Bg)(x:Str)(f:Addr)(fd:FuncData)(ps:List Str):Prop where
 m:mg x=some (.ref f)
 k:78#K
 b:Binds K fd ps []
structure Dk(K:bY)(x:Str)(st:Stmt)(f:Addr)(fd:FuncData):Prop where
 F:IT K x x st f fd
 n:250#0=86#(.ref f)
structure VZ(K:bY)(x:Str)(st:Stmt)(f:Addr)(fd:FuncData)(c0 p0:Addr):Prop where
 F:JA K x x st f fd c0 p0
 n:250#0=86#(.ref f)
structure Dn(K:bY)(mg:Bg)(x:Str)(st:Stmt)(f:Addr)(fd:FuncData)(ps:List Str):Prop where
 F:IT K x x st f fd
 c:Dc K mg x f fd ps
structure UA(K:bY)(mg:Bg)(x:Str)(st:Stmt)(f:Addr)(fd:FuncData)(ps:List Str)(c0 p0:Addr):Prop where
 F:JA K x x st f fd c0 p0
 c:Dc K mg x f fd ps
def dk{kV m z i ct:Value}(a:250#0=86#(.ref f))
 (l:283#⟨oc,W,.func 101#x,o⟩) (c:PySem.W.codeIn K i x=true) (k:78#K) :
 Dk K x st f 101#x:=⟨IU l c k,a⟩
def dkL{kV m z ct:Value}(a:250#0=86#(.ref f))
 (l:283#⟨oc,W,.func (PySem.W.fnOf x x (eZ st) (cQ st) (aU st) .none kV m z M (.ref c0) ct),o⟩) (c:PySem.W.codeIn K (.ref c0) x=true) (k:78#K) (d:PySem.W.codeHdIn K c0 p0=true) :
 VZ K x st f (PySem.W.fnOf x x (eZ st) (cQ st) (aU st) .none kV m z M (.ref c0) ct) c0 p0:=⟨Tj l c k d,a⟩
structure Ng(K:bY)(x:Str):Prop where
 n:250#0=some none
def Bn(x:Str)(st:Stmt)(ps:List Str)(g:82#0):Prop:=∀kV m z M i l,bindArgs (PySem.W.fnOf x x (eZ st) (cQ st) (aU st) .none kV m z M i l) ⟨g,[]⟩=pure (ps.zip g)
def UB(h:∀g:82#0,g.length=ps.length->Bn x st ps g)(kV m z:Value)(M:129#0)(i ct:Value)(g:82#0)(C:g.length=ps.length):
 bindArgs 101#x ⟨g,[]⟩=pure (ps.zip g):=h g C kV m z M i ct
def Dk.dn(X:K.In h)(G:73#mg)(D:Dk K x st f fd)(U:∀g:82#0,g.length=ps.length->Bn x st ps g):Dn K mg x st f fd ps:=⟨D.F,PySem.W.mg_of X G D.n,D.F.kp,D.F.binds (UB U)⟩
def VZ.dn(X:K.In h)(G:73#mg)(D:VZ K x st f fd c0 p0)(U:∀g:82#0,g.length=ps.length->Bn x st ps g):UA K mg x st f fd ps c0 p0:=⟨D.F,PySem.W.mg_of X G D.n,D.F.kp,D.F.binds (UB U)⟩
def bn1(h:∀a,Bn x st [y] [a])(g:82#0)(C:g.length=[y].length):Bn x st [y] g:=by obtain⟨_,rfl⟩:=ZD g C;show h _
def bn2(h:∀a b,Bn x st [y,z] [a,b])(g:82#0)(C:g.length=[y,z].length):Bn x st [y,z] g:=by show fX (λ_ _ L=>?_) (ZE g C);subst L;show h _ _
def bn3(h:∀a b c,Bn x st [y,z,u] [a,b,c])(g:82#0)(C:g.length=[y,z,u].length):Bn x st [y,z,u] g:=by show gZ (λ_ _ _ Y=>?_) (Pp g C);subst Y;show h _ _ _
def bn4(h:∀a b c d,Bn x st [y,z,u,v] [a,b,c,d])(g:82#0)(C:g.length=[y,z,u,v].length):Bn x st [y,z,u,v] g:=by show sX (λ_ _ _ _ k=>?_) (ZF g C);subst k;show h _ _ _ _
def yg{y:Str}(X:K.In h)(G:73#mg)(D:Dk K x st f fd)(e:∀a,Bn x st [y] [a]:=by intros;show λ_ _ _ _ _ _=>rfl):Dn K mg x st f fd [y]:=D.dn X G (bn1 e)
def j8{y z:Str}(X:K.In h)(G:73#mg)(D:Dk K x st f fd)(e:∀a b,Bn x st [y,z] [a,b]:=by intros;show λ_ _ _ _ _ _=>rfl):Dn K mg x st f fd [y,z]:=D.dn X G (bn2 e)
def UC{y z u:Str}(X:K.In h)(G:73#mg)(D:Dk K x st f fd)(e:∀a b c,Bn x st [y,z,u] [a,b,c]:=by intros;show λ_ _ _ _ _ _=>rfl):Dn K mg x st f fd [y,z,u]:=D.dn X G (bn3 e)
def dn4{y z u v:Str}(X:K.In h)(G:73#mg)(D:Dk K x st f fd)(e:∀a b c d,Bn x st [y,z,u,v] [a,b,c,d]:=by intros;show λ_ _ _ _ _ _=>rfl):Dn K mg x st f fd [y,z,u,v]:=D.dn X G (bn4 e)
def dl2{y z:Str}(X:K.In h)(G:73#mg)(D:VZ K x st f fd c0 p0)(e:∀a b,Bn x st [y,z] [a,b]:=by intros;show λ_ _ _ _ _ _=>rfl):UA K mg x st f fd [y,z] c0 p0:=D.dn X G (bn2 e)
def dl3{y z u:Str}(X:K.In h)(G:73#mg)(D:VZ K x st f fd c0 p0)(e:∀a b c,Bn x st [y,z,u] [a,b,c]:=by intros;show λ_ _ _ _ _ _=>rfl):UA K mg x st f fd [y,z,u] c0 p0:=D.dn X G (bn3 e)
def Dn.ok{P:Program}{w:World}{base:Heap}{N:List Str}{k:Nat}{sp:Sp}(D:Dn K mg x st f fd ps)(S:g6 N ps (aU st))
 (O:∀(i:Value) (A:Around) (outer:List Env) (s:Shared) (H:Hp) (G:List V) (Q:VK) (E:XK),fF k (139#x)->sp G H Q E->
  89#(tK (tM uQ P w K mg base N x (aU st) f i A outer s H E).Ft (cQ st) t))
 (len:125#ps.length:=by intro G H Q E h;repeat first | (obtain⟨rfl,_⟩:=h;show rfl) | obtain⟨_,h⟩:=h):i5 P w K mg base uQ (k+1) f fd ps sp:=D.F.ok S len O
def UA.ok{P:Program}{w:World}{base:Heap}{N:List Str}{k:Nat}{sp:Sp}(D:UA K mg x st f fd ps c0 p0)(S:g6 N ps (aU st))
 (O:∀(A:Around) (outer:List Env) (s:Shared) (H:Hp) (G:List V) (Q:VK) (E:XK),fF k (A.deeper (envOfC x (aU st) s.heap.objs.size f (.ref c0)))->sp G H Q E->
  89#(tK (tM uQ P w K mg base N x (aU st) f (.ref c0) A outer s H E).Ft (cQ st) t))
 (len:125#ps.length:=by intro G H Q E h;repeat first | (obtain⟨rfl,_⟩:=h;show rfl) | obtain⟨_,h⟩:=h):i5 P w K mg base uQ (k+1) f fd ps sp:=D.F.ok S len O
def Dn.Cz{P:Program}{w:World}{base:Heap}{N:List Str}{k:Nat}{sp:Sp}(D:Dn K mg x st f fd ps)(S:g6 N ps (aU st))
 (O:∀(i:Value) (A:Around) (outer:List Env) (s:Shared) (H:Hp) (G:List V) (Q:VK) (E:XK),fF k (139#x)->sp G H Q E->
  89#(tK (tM (Cy P w) P w K mg base N x (aU st) f i A outer s H E) (cQ st) t))
 (len:125#ps.length:=by intro G H Q E h;repeat first | (obtain⟨rfl,_⟩:=h;show rfl) | obtain⟨_,h⟩:=h):i5 P w K mg base (Cy P w) (k+1) f fd ps sp:=D.F.Cz S len O
def V0{y:Str}(D:Dk K x st f fd)(e:∀a,Bn x st [y] [a]:=by intros;show λ_ _ _ _ _ _=>rfl)(s:Shared)(v:Value):BindsTo s fd ⟨[v],[]⟩ [(y,v)]:=by
 show dX (λq=>ki λW kV m z M=>bz λi l o O c B=>?_) D.F.ex;subst O
 show .of_eq (e v kV m z M i l)
end
section
variable {X:Cx}
def aF{CX:Sk}{k r:Nat}{f:Addr}{a:FuncData}{Z:List Str}{sp:Sp}{x:Str}{E:XK}{e:Expr}{l:312#0}{t:TA}{p j:Pos}
 (F:i5 X.prog X.w X.K X.mg X.base CX k f a Z sp) (P:fF r X.A) (D:Dc X.K X.mg x f a Z) (O:Passes CX X E) (W:PA X (e::l) t) (B:k<=r:=by decide) (y:Gl X x:=by rfl)
 (v:198#("__debug__":Str):=by decide) (n:15#(e::l)=33#e::15#l:=by rfl) (b:(backTo j (15#l)).any (·.1)=false:=by rfl) :
 PE X (.Call (.Name x p) (e::l) [] j) (OV sp [] E t):=Ld F (P.mono B) y D.m D.k D.b .nil O W v n b
def jn(l:List Str)(h:l.Nodup:=by decide +kernel):l.Nodup:=h
def cA{p j:Pos}{e:Expr}{l:312#0}{t:TA}(K:bY)(d:X.mg "len"=none)(W:PA X (e::l) t)(a:X.K=K:=by rfl)(y:Gl X "len":=by rfl)
 (n:15#(e::l)=33#e::15#l:=by rfl) (b:(backTo j (15#l)).any (·.1)=false:=by rfl):PE X (.Call (.Name "len" p) (e::l) [] j) (Zr (Xi K) t) :=
 bI (Zy K a) y d _d W 3#0 3#0 n b
def bR{a b:Expr}{z Q:TE}{j:Pos}{r:R2}(P:Lj X r)(W:PE X a z)(U:PE X b Q)(l:Li b:=by show λ_ _=>rfl):PE X (.Subscript a b j) (UZ r z Q):=W9 P W U l
def bq{x:Str}{j:Pos}(i:Nat)(o:X.N.Nodup)(Y:278#x:=by show rfl)(O:277#Loc:=by show Or.inl rx)(Z:X.fn x=true\/40#x:=by show 121):PG X (.Name x j) (K4 i):=yJ o Y O Z
end
abbrev e8(N:List Str)(k:Nat)(s:Stmt):=g6 N (N.take k) (aU s)
section
variable {X:Cx}{e e' : Expr}{te te' : TE}
def bB(W:PE X e te)(l:15#([e])=33#e::15#([]):=by rfl):PA X [e] (Lc te U5):=aN W bS l
def bW(W:PE X e te)(U:PE X e' te')(l:15#([e,e'])=33#e::15#([e']):=by rfl)(d:15#([e'])=33#e'::15#([]):=by rfl):PA X [e,e'] (Lc te (Lc te' U5)):=aN W (aN U bS d) l
def ee{i j pos q}(K:bY)(W:PE X e te)(h:X.K=K:=by rfl):PE X (.Subscript e (.Constant (.int i) j q) pos) (UZ (Sn K) te (tC (.int i))):=bR (Mu K h) W ao
def D9{i j pos q}(K:bY)(W:PE X e te)(h:X.K=K:=by rfl):PE X (.Subscript e (.Constant (.int i) j q) pos) (UZ (Sm K) te (tC (.int i))):=bR (g7 K h) W ao
def bF{x:Str}{j a:Pos}(i:Nat)(o:X.N.Nodup)(n:PE X e te)(Y:278#x:=by show rfl)(O:277#Loc:=by show Or.inl rx)(l:swapsWith e (some (.Name x a)) j.line X.env=pure false:=by rfl)(Z:X.fn x=true\/40#x:=by show 121):
 PS X (.Assign [.Name x a] e j) (UY te (K4 i)):=dB o Y O n l Z
def fb{scope g:Scope}{own fq N Z:List Str}{js:List Nat}(S:g6 N Z g)(R:X.env.scope=g:=by rfl)(W:X.N=N:=by rfl)(h:zg scope g N fq js=true:=by decide +kernel):156#own:=qA g N R W h
end
def gJ:vW (a::l) 0=some a:=aE (j:=0) rfl
def ir:vW (a::b::l) 1=some b:=aE (j:=1) rfl
section
variable {X:Cx}
def Ea:isSubtype (.type "str") (.type "str")=pure true:=by rw[isSubtype_type];kernel_rfl
def Eb:fW X (.type "str") (λxs H Q=>∃x,xs=[.str x]/\Q (.str x) H):=by
 intro b s M H xs g Q I r h
 revert h;show aj λx L q=>?_;subst L
 show 218#(λu Y=>dX λt k=>?_);subst Y k
 show callType_newIn F.called_str 3#0 (F.typeCall_str_1 _) (F.newCall_str_1 _) (λa=>F.args_object_init_2 a _) F.entry_str_new (S:=λA R s=>R (196#(.str x t)) s) (.of_wp λA R s h=>?_) 46#(aq (.str x) _ I 234#0 q)
 have U:=Ea;unfold Builtin.«str.__new__»
 show 98
 show af _ rx h
def vd:fW X (.type "str") (λxs H Q=>(∃i,xs=[.int i]/\i.natAbs.log2<1920/\Q (.str (toString i)) H)\/∃x,xs=[.str x]/\Q (.str x) H):=by
 show 290;rcases h with h|h
 .show eA A s M H xs g Q I r h
 .show Eb A s M H xs g Q I r h
end
def QZ(P:Program)(w:World)(K:bY)(d:Addr)(N:176#Addr):Prop :=
 ∃o i,K.lookup d=some o/\PySem.W.KdkAt (strKind P w) o (N.map λp=>(p.1,Value.ref p.2)) i
theorem ve(x:Str)(f:Addr):∀N:176#Addr,N.lookup x=some f->valueAt (N.map λp=>(p.1,Value.ref p.2)) x=some (Value.ref f)
 | (k,g)::r,h=>by
   unfold valueAt;rw[w!,Y?]
   by_cases e:k=x
   .subst e;rw[_y]at h;cases h;simp
   .have D:(x==k)=false:=beq_false_of_ne λz=>e z.symm
    rw[R!,D]at h;simp only[e,decide_false];show ve x f r h
def Q0{w:World}{K:bY}{l:176#(Tok×Addr)}(h:K.lookup d=some ⟨.type "dict",none,.dict (l.map λp=>⟨PyData.keyHash w.params p.1,.str p.1 p.2.1,.ref p.2.2⟩).toArray i,#[]⟩)(Z:(l.map (·.1)).Nodup):
 QZ P w K d (l.map λp=>(p.1,p.2.2)):=by
 show aV _ i h (j3 _ (bj rx rx rx) rx (λe n=>?_) ?_ ?_)
 .simp only[List.mem_toArray,i!]at n
  revert n;show aj λp _ L=>?_;subst L
  show af p.1 (show Value.isStrOf p.1 (.str p.1 p.2.1)=true by simp[Value.isStrOf]) rfl
 .clear h Z
  induction l with
  | nil=>show .nil
  | cons p r E=>show .cons (show Value.isStrOf p.1 (.str p.1 p.2.1)=true by simp[Value.isStrOf]) rfl E
 .rw[z?,z?];show Z
def XQ(N:176#Addr)(ty:TE):TE:=λM H Q=>ty M H λy S=>∃x f,y = .str x/\N.lookup x=some f/\Q (.ref f) S
def V1(C:Addr->Sp->Prop)(E:XK)(b:TE)(t:TA):TE:=λM H Q=>b M H λy S=>∃f a,y = .ref f/\C f a/\t M S λG Z=>a G Z Q E
section
variable {X:Cx}{d:Addr}{kvs:176#Addr}{a b e:Expr}{es:312#0}{ty tf:TE}{t:TA}{pos p:Pos}{C:Addr->Sp->Prop}{E:XK}
def V2(J:QZ X.prog X.w X.K d kvs)(W:PE X a (tC (.ref d)))(U:PE X b ty)(l:SS b:=by show λ_ _=>rfl):PE X (.Subscript a b pos) (XQ kvs ty):=by
 show 68;show DX acX.lookup l (eg (W A s M H (λx S=>x = .ref d/\XQ kvs ty M S Q) I ⟨rfl,h⟩) λu F=>aS λx S T B q O=>?_)
 show eg (U A F M S _ T O) λj N=>aA λy Z E c=>aA λz f w e P=>?_
 subst q w;obtain rfl:u=Value.ref d:=B;obtain⟨g,rfl⟩:=c
 revert J;show br λo i C t=>?_
 have p:=(t.dictAt (E.qp d o C)).dictOf;show⟨p.typeIs,wpAny_getItem_of (knd:=strKind X.prog X.w) (k:=z) (show Value.isStrOf z (.str z g)=true by simp[Value.isStrOf]) p.mapOf (ve z f kvs e) (aq (.ref f) Z (E.tok _) rx P)⟩
def Q2{r:Nat}(P:fF r X.A)(o:∀f sp,C f sp->∃k i j,k<=r/\i5 X.prog X.w X.K X.mg X.base uQ k f i j sp/\78#X.K/\Binds X.K i j [])(O:Passes uQ X E)
 (v:PE X (.Subscript a b p) tf) (W:PA X (e::es) t) (n:15#(e::es)=33#e::15#es:=by rfl) (x:(259#15#es).any (·.1)=false:=by rfl) :
 PE X (.Call (.Subscript a b p) (e::es) [] pos) (V1 C E tf t):=by
 show 68;show 50#(eval (.Subscript a b p) X.env >>= λf=>callWith pos f [] (259#15#(e::es)) (backToKw pos (keywordEach [] X.env)))
 show aQ (eg 34#v λu D=>aA λy S T c=>aA λf sp m w z=>?_)
 subst m;obtain rfl:u=Value.ref f:=c;show dX (λk=>aS λi j d F B U=>?_) (o f sp w)
 show _H (h₀:=X.base) T.ok.mod.Uj B (eg (W pos A D M S _ T z) λg N=>aA λG Z l r q=>⟨l.qp,?_⟩) n x
 show OY F (P.mono d) U .nil O l r (by rw[H?];show q)
end
section
variable {P:Program}{w:World}
def qP(P:Program)(w:World)(h:Heap)(k:Str×List Int)(a:Addr):Prop :=
 ∃o n t b,138#o/\o.cls = .type "tuple"/\o.data = .seq #[.str k.1 t,.ref b] n/\305#k.1/\IsTupleKey (intKind P w) h k.2 b
def Tn(O:qP P w h x a)(X:qP P w h y a):x=y:=by
 revert O;show dX λo=>bV λn t b g _ d _ i=>?_
 revert X;show dX λF=>bV λC Z A q _ E _ l=>?_
 rw[g]at q;cases q;rw[d]at E;injection E with E _
 simp only[Array.mk.injEq,List.cons.injEq,Value.str.injEq,Value.ref.injEq,and_true]at E;obtain⟨⟨e,_⟩,rfl⟩:=E;show Prod.ext e ((tupleKind (intKind P w)).inj i l)
def M7(B:qP P w h k a)(g:h.get? d=some o)(J:o.data = .dict l e)(D:Heap.SameBut d h h'):qP P w h' k a:=by
 revert B;show dX λF=>bV λn t b q c E C i=>?_
 show bH F n t b ?_ c E C ((tupleKind (intKind P w)).keeps i g J D);have G:a≠d:=λz=>by rw[z,g]at q;cases q;rw[J]at E;cases E
 show(D.2 a G).trans q
def C6{s:Shared}(g:s.heap.get? a=some o)(c:o.cls = .type "tuple")(d:o.data = .seq f m)
 (h:∀y∈f.toList,∀Q:227#Bool,Q true s->79#(eqIsQuiet n y)) (q:Q true s):79#(eqIsQuiet (n+1) (.ref a)):=by
 have U:s.TypeIs (.ref a) "tuple":=af o g c;unfold eqIsQuiet;show aQ (wpAny_specialOf U PySem.F.slot_tuple_eq.lookup ?_);show 50#(isInstance (.ref a) (.type "tuple") >>= _);show aQ (wpAny_isInstance U sub_tuple_self ?_);show 50#(seqItems? (.ref a) >>= _);show aQ (wpAny_seqItems g d ?_);show aQ (wpAny_forIn_array' _ (λi b p=>p=s/\b=(none,())/\∀y∈i,y∈f.toList) _ (λy i b p J=>?_) (λb p J=>?_) _ _ (bj rfl rfl (λy X=>X)))
 .revert J;show dW λL Y e=>?_;subst L Y
  show aQ (h y (e y (.head _)) _ (Θ (bj rx rx (λz j=>e z (.tail _ j)))))
 .revert J;show dW λk e _=>?_;subst k e
  show Θ q
def C7(h:carriedByValue v=true)(q:Q true s):79#(eqIsQuiet n v):=by
 rw[eqIsQuiet_byValue _ h];show Θ q
def M8{s:Shared}(B:qP P w s.heap k a)(q:Q true s):79#(eqIsQuiet 8 (.ref a)):=by
 revert B;show dX λo=>bV λn t b g c d _ i=>?_
 show C6 (n:=7) g c d (λy X Q q=>?_) q
 rcases Z'.mp X with rfl|X
 .show C7 rx q
 obtain rfl:=a!.mp X
 revert i;show dX λj=>aS λp m x Y O e=>?_
 show C6 (n:=6) x Y O (λy X Q q=>?_) q
 clear O;generalize p.toList=l at e X;generalize k.2=L at e
 induction e with
 | nil=>cases X
 | cons h _ f =>
   rcases Z'.mp X with rfl|X
   .show C7 ((intKind P w).byValue _ _ h) q
   .show f X
def Q3{A:Around}{s:Shared}(G:A.units+1<cLine)(B:qP P w s.heap k a)
 (q:Q (reduceHash (Builtin.Tuple.tupleHashOf [hashStr w k.1,tupleKeyHash (intKind P w) k.2])) { s with toks:=s.toks+(1+(k.2.length+1)+1)}):79#(pyHash (.ref a)):=by
 rw[151#(s.toks+(1+(k.2.length+1)+1)=s.toks+1+(k.2.length+1)+1)]at q
 revert B;show dX λo=>bV λn t b g c d _ i=>?_
 have U:s.TypeIs (.ref a) "tuple":=af o g c;unfold pyHash;show 50#(pyHashByItsType (.ref a));unfold pyHashByItsType;show aQ (wpAny_cRoomFor (by lia) ?_)
 show aQ (wpAny_specialOf U _r.lookup ?_);rw[ξ 3#0]
 show aQ (wpAny_specialOf U _r.lookup ?_);rw[ξ 3#0]
 show aQ (wpAny_callSpecialIfBoundUnlessNone?_slot U _r (call_meetsIn (S:=λA R F=>A.units+1<cLine/\F=s/\R (196#(.int (Builtin.Tuple.tupleHashOf [hashStr w k.1,tupleKeyHash (intKind P w) k.2]) (s.toks+1+(k.2.length+1)))) { s with toks:=s.toks+1+(k.2.length+1)+1}) _r U PySem.F.entry_tuple_hash (PySem.F.args_tuple_hash_1 _) (.of_wp λA R F h=>?_) (bj G rx ?_)))
 .revert h;show dW λf O h=>?_;subst O
  unfold Builtin.«tuple.__hash__»
  show 98
  rw[d];show Θ (Θ (aQ (wpAny_forIn_array' _ (λL l p=>(L=[.str k.1 t,.ref b]/\l = #[]/\p=F)\/(L=[.ref b]/\l = #[hashStr w k.1]/\p={ F with toks:=F.toks+1})\/
   (L=[]/\l = #[hashStr w k.1,tupleKeyHash (intKind P w) k.2]/\p={ F with toks:=F.toks+1+(k.2.length+1)})) _ (λy L l p J=>?_) (λl p J=>?_) _ _ (.inl (bj rx rx rx)))))
  .rcases J with⟨e,rfl,rfl⟩|⟨e,rfl,rfl⟩|⟨e,_⟩
   .cases e;show aQ ((strKind P w).pyHash (k:=k.1) (show Value.isStrOf k.1 (.str k.1 t)=true by simp[Value.isStrOf]) (Θ (.inr (.inl (bj rx rx rx)))))
   .cases e;show aQ (wpAny_pyHash_tuple (by change A.units+1<cLine;show f) i (Θ (.inr (.inr (bj rx rx rx)))))
   .cases e
  .rcases J with⟨e,_⟩|⟨e,_⟩|⟨_,rfl,rfl⟩
   .cases e
   .cases e
   .show wpAny_ret_mkInt h
 .show 50#(pyHashByItsType.reduced _);unfold pyHashByItsType.reduced;unfold reduceHash at q
  split
  .rename_i c
   rw[ο c]at q;show Θ q
  .rename_i c
   rw[ξ c]at q
   show 98
theorem zW:∀{ks} {vs},ItemsAre (intKind P w) ks vs->∃as,ReadsAll h vs (ks.map .int) as
 | _,_,.nil=>⟨_,.nil⟩
 | k::_,v::_,.cons hv t=>by
   obtain⟨as,r⟩:=zW (h:=h) t;cases v with
   | int i F =>
     obtain rfl:i=k:=by
      have:Value.isInt k (.int i F)=true:=hv
      simpa[Value.isInt]using this
     show⟨_,.cons (.int _ _) r⟩
   | _=>show absurd hv (by simp[intKind,Value.isInt])
def C8(B:qP P w h k a):∃as,Reads h (.ref a) (.tuple [.str k.1,.tuple (k.2.map .int)]) as:=by
 revert B;show dX λo=>bV λn t b g c d _=>dX λj=>aS λf m x Y O e=>?_
 obtain⟨as,r⟩:=zW (h:=h) e;show⟨_,.tuple g c d (.cons (.str _ _) 233#(.tuple x Y O r))⟩
theorem GI:∀ns z:List Int,PyData.eqvAll (ns.map .int) (z.map .int)=decide (ns=z)
 | [],[]=>rfl
 | [],_::_=>rfl
 | _::_,[]=>rfl
 | x::ns,y::z=>by
   rw[w!,w!];change((x==y)&&PyData.eqvAll (ns.map .int) (z.map .int))=11#(x::ns=y::z);rw[GI ns z,T!];simp
def LY{k:Str×List Int}(C:305#k.1):(PyData.tuple [.str k.1,.tuple (k.2.map .int)]).canLay0=true/\(PyData.tuple [.str k.1,.tuple (k.2.map .int)]).depth<=2:=by
 have h:225#(k.2.map .int)=true/\149#(k.2.map .int)=0:=by
  induction k.2 with
  | nil=>show⟨rfl,rfl⟩
  | cons x r E=>simp[PyData.canLayAll0,PyData.depthAll,PyData.canLay0,PyData.depth,E]
 simp[PyData.canLay0,PyData.canLayAll0,PyData.depth,PyData.depthAll,h,C]
def V3{A:Around}{s:Shared}(G:A.units+2<cLine)(O:qP P w s.heap x a)(X:qP P w s.heap y b)(q:Q (decide (x=y)) s):
 79#(eqBool (.ref a) (.ref b)):=by
 obtain⟨k,B⟩:=C8 O;obtain⟨l,c⟩:=C8 X;obtain⟨p,j⟩:=LY (let⟨_,_,_,_,_,_,_,ok,_⟩:=O;ok);show SeqAt.eqBoolOverData P w A E s _ _ _ _ _ _ Q B c p (LY (let⟨_,_,_,_,_,_,_,ok,_⟩:=X;ok)).1 (by lia) ?_
 rw[show PyData.eqv (.tuple [.str x.1,.tuple (x.2.map .int)]) (.tuple [.str y.1,.tuple (y.2.map .int)])=((x.1==y.1)&&(PyData.eqvAll (x.2.map .int) (y.2.map .int)&&true)) from rfl,GI,t_]
 rwa [show((x.1==y.1)&&11#(x.2=y.2))=decide (x=y) by rw[T!];simp[Prod.ext_iff]]
noncomputable def vf(P:Program)(w:World):HeapKind P w (Str×List Int) where
 is:=qP P w
 hash k:=reduceHash (Builtin.Tuple.tupleHashOf [hashStr w k.1,tupleKeyHash (intKind P w) k.2])
 draws k:=1+(k.2.length+1)+1
 room A:=A.units+65<cLine
 inj:=Tn
 keeps:=M7
 pyHash hu hk q:=Q3 (by lia) hk q
 eqBool hu hx hy q:=V3 (by lia) hx hy q
 quiet:=M8
end
abbrev Ask:=Str×List Int
abbrev Q4:=Ask×Addr×Str
def Q5(p:Q4)(q:Ask×Addr×Value):Prop:=p.1=q.1/\p.2.1=q.2.1/\χ (.str p.2.2) q.2.2
def Ec(P:Program)(w:World)(a:Addr)(L:List Q4):HO:=.ext λh=>36#L.length/\143#a/\∃f,Paired Q5 L f/\∃o l i,138#o/\o.ExactDict/\o.data = .dict l i/\l.toList=f.map (entryOfKey (vf P w))
def Bp(H:Hp)(k:Ask)(b:Addr):Prop:=305#k.1/\∃c,H b=17#([.str k.1,.ref c])/\H c=17#(k.2.map V.int)
structure vg(P:Program)(w:World)(H:Hp)(a:Addr)(ks:List Q4):Prop where
 at_:H a=some (Ec P w a ks)
 keys:∀p∈ks,Bp H p.1 p.2.1
 nd:(ks.map (·.1)).Nodup
theorem zX:∀{ns} {its},υ 264#0 its->ItemsAre (intKind P w) ns its
 | [],_,.nil=>.nil
 | n::_,_,.cons h r=>by
   obtain⟨t,rfl⟩:=h;show .cons (show Value.isInt n (.int n t)=true by simp[Value.isInt]) (zX r)
def Bp.is(x:qe P w H h)(e:Bp H k b):qP P w h k b:=by
 revert e;show bK λC c a D=>?_
 show bK (λ_ l r=>dO λo g U n d=>?_) (show bL P w H h b (.tup _) from x b _ a)
 show bK (λ_ Z i=>dO λj f Y M O=>?_) (show bL P w H h c (.tup _) from x c _ D)
 cases r with
 | cons R r =>
 cases r with
 | cons W r =>
 cases r;obtain⟨t,rfl⟩:=R;cases W;show bH o n t c g U d C (bC j _ M f Y O (zX i))
def Bp.up(h:Bp H k b)(e:H a=some (.ext d)):Bp (η H a o) k b:=by
 revert h;show bK λC c g D=>?_
 show b8 C c ?_ ?_
 .rw[au (cP g e 96#0)];show g
 .rw[au (cP D e 96#0)];show D
def wF(L:List Q4)(k:Ask):Option Str:=(L.find? λp=>11#(p.1=k)).map (·.2.2)
theorem Ed:∀{ks} {xs},Paired Q5 ks xs->xs.map (·.1)=ks.map (·.1)/\∀x∈xs,∃p∈ks,p.1=x.1/\p.2.1=x.2.1
 | _,_,.nil=>46#(λ_ h=>by cases h)
 | p::_,x::_,.cons h r=>by
   obtain⟨R,W⟩:=Ed r;show⟨by rw[w!,w!,R,h.1],λy X=>?_⟩
   rcases Z'.mp X with rfl|X
   .show av p (.head _) h.1 h.2.1
   .show aj (λq Y e=>?_) (W y X)
    show af q (.tail _ Y) e
theorem yW(k:Ask):∀{ks} {xs},Paired Q5 ks xs->(wF ks k=none/\atKey xs k=none)\/∃s b v,wF ks k=some s/\atKey xs k=some (b,v)/\χ (.str s) v
 | _,_,.nil=>.inl ⟨rfl,rfl⟩
 | p::ps,x::xs,.cons h r=>by
   unfold wF atKey;rw[Y?,Y?]
   by_cases e:p.1=k
   .have D:x.1=k:=h.1.symm.trans e;simp only[e,D,decide_true];show .inr (cC _ _ _ rx rx h.2.2)
   .have D : ¬ x.1=k:=λz=>e (h.1.trans z)
    simp only[e,D,decide_false];show yW k r
section
variable {X:Cx}{pq:cN}{σ:St}{H:Hp}{s:Shared}{a b:Addr}{k:Ask}{ks:List Q4}{A:Around}{E:kj}
def vg.of(I:5#H)(d:vg X.prog X.w H a ks):36#ks.length/\143#a/\∃xs,Paired Q5 ks xs/\s.heap.DictOfH (vf X.prog X.w) a xs:=by
 obtain⟨⟨z,J,xs,n,o,l,i,R,W,M,T⟩,_⟩:=(show bL X.prog X.w H s.heap a (Ec X.prog X.w a ks) from I.hok a _ d.at_)
 obtain⟨b,u⟩:=Ed n;show bA z J xs n (bN o l i R (dF W M T (λx O=>?_) (by rw[b];show d.nd)))
 show aG (λp t g D=>?_) (u x O)
 rw[<-g,<-D];show(d.keys p t).is I.hok
end
def XR(P:Program)(w:World):TE:=λ_ H Q=>∀p,H p=none->Q (.ref p) (η H p (Ec P w p []))
def To(P:Program)(w:World)(ty c:TE):TE:=λM H Q=>ty M H λy S=>c M S λx Z=>∃a b k L,x = .ref a/\y = .ref b/\vg P w Z a L/\Bp Z k b/\Q (.bl (!(wF L k).isSome)) Z
def XS(P:Program)(w:World)(c ty:TE):TE:=λM H Q=>c M H λx S=>ty M S λy Z=>∃a b k L z,x = .ref a/\y = .ref b/\vg P w Z a L/\Bp Z k b/\wF L k=some z/\Q (.str z) Z
def XT(P:Program)(w:World)(c ty g:TE):TS:=λD M H=>g M H λv S=>c M S λx Z=>ty M Z λy d=>∃a b k L z,v = .str z/\x = .ref a/\y = .ref b/\vg P w d a L/\Bp d k b/\wF L k=none/\L.length<sizeLine/\
 (vg P w (η d a (Ec P w a (L++[(k,b,z)]))) a (L++[(k,b,z)])->D.nx M (η d a (Ec P w a (L++[(k,b,z)]))))
section
variable {X:Cx}{o i value:Expr}{pos pos' : Pos}{td ty tv:TE}
def Tp:PE X (.Dict [] [] pos) (XR X.prog X.w):=λA s M H Q I h =>
 wpAny_Dict_empty (aq (22#.ref) _ (I.laid (a:=s.heap.objs.size) (o:=Ec X.prog X.w s.heap.objs.size []) (t':=s.toks) (λ_ _ q=>W' _ q) (Ξ _)
  (bj (bA (r! _) (172#(e! (q! I.big))) [] .nil (bC _ (#[]) 0 (v! _ rx) (bj rx rx rx) rx rx)) ⟨_,v! _ rfl⟩ (λR W=>bG λz J f n=>cK λo l i O P k=>bA z J f n (bN o l i (k o O) P)))) rx (h _ (270#(Ξ _))))
def M9(G:X.A.in1.units+65<cLine)(Y:PE X i ty)(j:PE X o td):PC X .NotIn i o (To X.prog X.w ty td):=by
 show 68;show eg 34#Y λC F=>aA λy S T c O=>?_
 show eg (j A F M S _ T O) λu N=>dX λx=>dO λZ E B a=>bV λb k L q w d e P=>?_
 subst q w;obtain rfl:u=194#0:=B;obtain rfl:C=Value.ref b:=c;show bG (λz J f n p=>?_) (d.of E)
 show wpAny_notIn_heap (knd:=vf X.prog X.w) G (e.is E.hok) J p (aq _ Z (E.tok _) ?_ P);rcases yW k n with⟨g,D⟩|⟨_,_,_,g,D,_⟩
 .rw[g,D];rfl
 .rw[g,D];rfl
def Tq(G:X.A.in1.units+65<cLine)(j:PE X o td)(Y:PE X i ty)(l:SS i:=by show λ_ _=>rfl):PE X (.Subscript o i pos) (XS X.prog X.w td ty):=by
 show 68;show DX acX.lookup l (eg 34#j λu F=>aA λx S T B O=>?_)
 show eg (Y A F M S _ T O) λC N=>aA λy Z E c=>ki λa b k L z=>dI λq w d e m P=>?_
 subst q w;obtain rfl:u=194#0:=B;obtain rfl:C=Value.ref b:=c;show bG (λ_ J f n p=>?_) (d.of E)
 rcases yW k n with⟨g,_⟩|⟨t,r,v,g,D,R⟩
 .rw[g]at m;cases m
 .rw[m]at g;cases g;show⟨p.typeIs,wpAny_getItem_heap (knd:=vf X.prog X.w) G (e.is E.hok) p D (aq (.str z) Z (E.tok _) R P)⟩
def Tr(G:X.A.in1.units+65<cLine)(j:PE X o td)(Y:PE X i ty)(U:PE X value tv)(l:swapsWith value (some (.Subscript o i pos')) pos.line X.env=pure false:=by rfl):
 PS X (.Assign [.Subscript o i pos'] value pos) (XT X.prog X.w td ty tv):=by
 show 168;show wpAny_Assign_Subscript (eg 34#U λr F=>aA λv S T t D=>eg (j A F M S _ T D) λu N=>aA λx Z E B P=>eg (Y A N M Z _ E P) λn q=>aA λy w Q c=>fX λa b=>bz λk L z e f=>dI λm d kb p C g=>?_) l
 subst e f m;obtain rfl:u=194#0:=B;obtain rfl:n=Value.ref b:=c;show bG (λm J f n c=>?_) (d.of Q)
 have O:36#f.length:=by rw[<-Paired.length n];show m
 have st:storedH f k b r=f++[(k,b,r)]:=by
  rcases yW k n with⟨_,e⟩|⟨_,_,_,e,_⟩
  .unfold storedH;rw[e];rfl
  .rw[p]at e;cases e
 show wpAny_setItem_heap (knd:=vf X.prog X.w) (hsz:=O) G (kb.is Q.hok) c λh e l=>?_
 rw[st]at e
 revert e;show gZ λq h c=>dI λj W s u _ m=>?_
 have e:Paired Q5 (L++[(k,b,z)]) (f++[(k,b,r)]):=Paired.snoc n (bj rx rx t);show aV M _ (u5 (ob:=Ec X.prog X.w a (L++[(k,b,z)])) Q (by rw[d.at_];show True.intro) l ⟨q,j⟩ (bj (bA (by rw[U'];show C) J _ e (bC q h c j W s u)) ⟨q,j⟩ (λR W=>bG λz J f n=>cK λo h c D P k=>bA z J f n (bN o h c (k o D) P)))) (g ⟨aa,λp t=>?_,?_⟩)
 .rcases d!.mp t with t|t
  .show(d.keys p t).up d.at_
  .obtain rfl:=a!.mp t;show kb.up d.at_
 .rw[(Ed e).1]at m;show m
end
section
variable {prog:Program}{w:World}{A:Around}{E:kj}{s:Shared}
def Bq(N:A.handled=20#ea)(W:Zz ea s.heap)(c:s.heap.IsListIter it l i)(C:s.heap.IsList l f)(Y:f.size<=i)
 (O:∀h',Heap.ExtBut it s.heap h'->Q none 153#0):60#(279#it):=by
 show aG (λy e H j=>?_) (id c)
 have t:s.TypeIs (.ref it) "list_iterator":=af y e H;rw[pyNext];show 296#(wpAny_callSpecial?_slot (name:=Str.ofString "__next__") t PySem.slot_listiter_next (wpAny_call_entry PySem.slot_listiter_next t PySem.entry_listiter_next ?_ (PySem.args_listiter_next _)));unfold Builtin.«list_iterator.__next__»
 show 98
 rw[j];show dO (λD F M X I=>?_) (id C)
 show Θ (Θ ?_);rw[ξ 23#0]
 show aQ (wpAny_field e j (x:=.int (i:Int) 0) rx ?_);show aQ (wpAny_seqItems F I ?_);dsimp only;rw[show f[((i:Nat):Int).toNat]?=none by simpa using Y]
 show aQ (wpAny_rule (aQ ?_));show wpAny_setField e j 23#0 ?_
 revert W;show aA λv J r u p=>?_
 have G:it≠ea:=λz=>by
  rw[z,r]at e;cases e;rw[u]at j;cases j;simp at p
 have B:(s.heap.update it (Obj.mapFields (·.setIfInBounds 0 Value.none))).get? ea=some v:=(n? _ _ G).trans r;have k:∀b o,b≠it->21#o->(s.heap.update it (Obj.mapFields (·.setIfInBounds 0 Value.none))).get? b=some o:=λb o U g=>(n? _ _ (e! U)).trans g
 generalize s.heap.update it (Obj.mapFields (·.setIfInBounds 0 Value.none))=R at B k;show 50#(newExc (.type "StopIteration") [] >>= λ_=>_)
 show aQ ?_;simp only[newExc,newTuple];show aQ (260#0)
 show aQ (m:=firstArgMember _ _) (wpAny_of_eq (a:=Value.none) (by first | rfl | (simp only[firstArgMember];rfl)) (260#0))
 have n:=J' B;show IY N ?_ (v! _ rx) rx (by simp;lia) (aq v J (W' _ (W' _ B)) u p) ?_
 .rw[s_];show q! (e_ n)
 .have h:=v! (R.push { cls:=.type "tuple",data:=.seq #[]}) (o:={ cls:=.type "StopIteration",data:=.fields (#[.ref R.objs.size,.none,.none,.none,.bool false,.none]++ownMembersOf (.type "StopIteration") [])}) rfl;have d:=D? (Obj.mapFields (·.setIfInBounds 2 (.ref ea))) h (D_ (o_ rfl _));show aQ (wpAny_isInstance (T:="StopIteration") (b:=true) (af _ d (_K _ _)) isSubtype_stop ?_);show Θ (O _ λb o U g=>?_)
  have q:=k b o U g;have L:(R.push { cls:=.type "tuple",data:=.seq #[]}).objs.size≠b:=by
   rw[s_];show X! (e_ (J' q))
  show(n? _ _ L).trans (W' _ (W' _ q))
end
def Tt(H:Hp)(ea:Addr):Prop:=∀P w h,qe P w H h->Zz ea h
def V4(K:bY)(ea a:Addr):It:=⟨(OL K a).go,(OL K a).Mi,λi H=>(OL K a).stop i H/\Tt H ea⟩
def JE{A:Around}{K:bY}(W:A.handled=20#ea)(a it:Addr):Lp A false P w K tg (V4 K ea a) [it] it (λi h=>h.IsListIter it a i):=by
 have k:=Co (P:=P) (w:=w) (K:=K) (tg:=tg) a it;show⟨k.mem,k.obj,k.keep,?_,?_,k.self⟩
 .intro X S j l t L i v s M H E I Z st y;subst S j l
  revert y;show br λf x Y O=>?_
  show 120#254#0
  show aj (λu G r=>?_) (D.get O)
  show 274#(λJ R F Q B z=>?_)
  show wpAny_pyNext_list_item st p.isList (x:=u) (by simpa using G) λN q C=>?_
  have T:θ X v M H { s with heap:=N}:=69#((C.2 b U).trans e)
  show aG (λo e c d=>?_) (id q)
  show af u rx (Cn (s:={ s with heap:=N}) e c d 3#0 (dU x H T r 46#(λa n=>by rw[I.nK n Y];show O) q (λb U=>(Z b U).1)))
 .intro X S j l t L i v s M H E I Z st y;subst S j l t;obtain⟨⟨f,Y,O⟩,n⟩:=y;show 120#254#0
  show 274#(λJ R F Q B z=>?_)
  have C:=D.length;show Bq W (n _ _ _ I.hok) st p.isList (by simp;lia) λN r=>46#(69#(r b o U e))
def Tt.ofX(h:H ea=some (qB ea cls W)):Tt H ea:=λP w t C=>by
 obtain⟨⟨a,G,g,_,R,r,_⟩,_⟩:=(show bL P w H t ea (qB ea cls W) from C ea _ h)
 show aq a G g R r
def JF{K:bY}{xs:List V}{s:St}(c:109#(List V))(h0:c 0 [] S)(C:∀i I H,i<=xs.length->c i I H->aK K H a xs/\19#H/\I.length<=i)(hz:36#xs.length)
 (l:∀i x I H,xs[i]?=some x->c i I H->g x (83#n++s) H λP Z=>P.drop n=s/\j P Z λb w =>
  175#U)
 (J:∀I H,293#I->Tt H ea/\Q H):i8 (V4 K ea a) g j U n s D Q S:=by
 show 106#(λi m I H=>115#I)
 intro i m I H;show dW λL h p=>?_;subst L
 show dW (λq r o=>?_) (C i I H h p)
 show⟨r,?_⟩
 show 265
 .show .inr (bA 216#q (by lia) (c (i+1)) (λk Y f=>116#f) (λx Y y=>?_))
  obtain⟨e,y⟩:=y;subst e;show l i x I _ (y xs q) p
 .show 221
  subst e;obtain⟨R,W⟩:=J I H p;show .inl ⟨⟨af xs q (Ξ _),R⟩,W⟩
def V5(K:bY)(ea:Addr)(j:TE):TI:=λM H R=>j M H λx S=>∃a,x = .ref a/\(∃f,aK K S a f)/\R (V4 K ea a) S
def Q6{X:Cx}(N:X.A.handled=20#ea)(L:X.calm=false)(C:PE X l j):PIX X tg l (V5 X.K ea j):=by
 intro A s M H R I h;show 148#34#C
 revert O;show aG λa e c q=>?_;obtain⟨f,Y⟩:=c
 subst e;cases J;show aG 254#0 (T.list Y)
 show wpAny_pyIter_list p.isList ?_;show cD F.heap.objs.size [F.heap.objs.size] _ _ S rx (T.kept (t':=F.toks) λb o e=>W' _ e) (L.symm▸JE N a _) ⟨_,v! _ rfl,rfl,rfl⟩ (λb U=>?_) q
 have e:314#b:=102#0
 subst e;show T.Bh (Ξ _) (319#0)
open PySem PySem.Spec PyProof.Rows PySem.W
def Ef:bootBuiltins "sorted"=some (.builtin "sorted"):=by kernel_rfl
section
variable {X:Cx}{pq:cN}{σ:St}{H H2:Hp}{s:Shared}
def θ.Tu(I:5#H)(e:H a=1#xs)(j:s.heap.get? a=some ob):5#(η H a (.n9 ob (.lst xs))) :=
 I.swap e 164#0 164#0 164#0 (λb o u q=>cP (I.base.l5 b o u q) e 30#0) λm i=>⟨j,(I.hok a _ e).stay (λ_ _ _ q=>q) m i⟩
def θ.XU{j:St}(h:θ X v j H g)(T:H a=1#xs)(I:5#H2)(e:H2 a=some (.n9 ob (.lst xs))):5#(η H2 a (.lst xs)) :=
 I.swap e 164#0 164#0 164#0 (λb o u q=>cP (h.base.l5 b o u q) T 30#0) λm i=>(show bL X.prog X.w H2 s.heap a (.n9 ob (.lst xs)) from I.hok a _ e).2.stay (λ_ _ _ q=>q) m i
end
def V6(P:Addr)(q:Str)(e:Pos)(z:TA)(U:TE)(js:List Nat):TE:=λM H Q=>z M H λG S=>∃a k,G=[.ref a]/\S a=1#(k.map V.int)/\k.length<64/\S P=112#(fC q e)/\
 (∀w,(∀b u,S b=some u->(∀y,u≠.own y)->(∀B,u≠.jq B)->w b=some u)->∀n∈k,U (some (.int n)::iq M js) w λv X=>ai w X/\∃d x y,v = .ref d/\X d=17#([.int x,.int y]))/\
 ∀(l:Addr) (j:List Int) X,S l=none->ai S X->X l=1#(j.map V.int)->j.Perm k->Q (.ref l) X
theorem GJ{ns:List Int}(D:υ 264#0 g):∀{l:List Nat},(∀i∈l,i<ns.length)->υ (302#(l.map λi=>ns.getD i 0)) (l.map λi=>g.getD i Value.none)
 | [],_=>.nil
 | i::_,h=>.cons (by
   have Y:i<ns.length:=h i h!;have e:ns[i]?=some ns[i]:=A! Y;change χ (.int (ns.getD i 0)) (g.getD i Value.none);rw[B!,B!,e];obtain⟨u,G,d⟩:=D.get (i:=i) (x:=.int ns[i]) (by rw[j!,e];rfl)
   rw[G];show d) (GJ D λj J=>h j (sY _ J))
section
variable {X:Cx}{pq:cN}{σ:St}{H2:Hp}
def Na{ns:List Int}{ds:183#0}
 (I:θ X ((f,seqObj "list" 145#ds.map e)::pq) σ w s) (l:Jx X f) (J:∀p∈pq,p.1≠f) (r:w D=some (.n9 (seqObj "list" #[] b) 185#0)) (rv:υ 264#0 g) (S:ns.length<64) (i:ds.length=ns.length)
 (B:∀d∈ds,∃x y,w d=17#([.int x,.int y]))
 {c:St} (h:θ X k c n m) (T:n D=1#([]))
   (a:∀s' (j:List Int),j.Perm ns->θ X pq σ (η (61#w) D 66#(j.map V.int)) s'->P (.done (.ret .none)) s') :
   wpAny 9#0 A (ksk_end D false g.toArray b (.ref f) (145#ds.map)) P E s:=by
  have C:g.length=ns.length:=by have:=rv.length;rw[Δ]at this;lia
  obtain⟨i,_⟩:=(show bL X.prog X.w w s.heap D (.n9 (seqObj "list" #[] b) 185#0) from I.hok D _ r)
  have H:=I.pin (f,seqObj "list" 145#ds.map e) 64#j4;have c:D≠f:=λz=>by
   have:=H.2.1;rw[<-z,r]at this;cases this
  have d:∀(st:SortSt) (j:List Int) (O:82#0),(arrOf st).map (·.2)=O.toArray->O.length<64->failedOf st=none->j.Perm ns->υ (j.map V.int) O->wpAny 9#0 A (ksk_tail D false b (.ref f) st) P E s:=by
   intro st j O q m Z t U;have F:=Y! s.heap f (39#(#[]))
   have k:(s.heap.update f (39#(#[]))).get? D=some (seqObj "list" #[] b):=(F.2 D c).trans i
   have N:=Y! (s.heap.update f (39#(#[]))) D (Obj.mapSeq λ_=>O.toArray)
   obtain⟨Y,v⟩:∃Y,((s.heap.update f (39#(#[]))).update D (Obj.mapSeq λ_=>O.toArray)).get? D=some (seqObj "list" O.toArray Y):=⟨_,get?_update_seq k λ_=>O.toArray⟩
   unfold ksk_tail
   try dsimp only
   rw[q];show aQ (listUpdate_at H.1 rx ?_ (by rw[u!,Δ,sizeLine_eq];lia) (r! _))
   show aQ (wpAny_letGo ?_);show aQ (seqEpoch_at k rx ?_);show aQ (listUpdate_at k rx ?_ (r! _) (by change O.toArray.size<=_;rw[u!,sizeLine_eq];lia))
   rw[Z];simp only[bne_self_eq_false,L?,if_false];have o:=I.mD (t':=s.toks) (h':=s.heap.update f (39#(#[]))) (pb:=pq) l (.head _) (λc u M e=>(F.2 c M).trans e) (λp t=>.inr ⟨.tail _ t,J p t⟩)
   have i:=θ.XU h T o r;have l:=i.write (x:=D) (e:=D) (o:=.lst (j.map V.int)) (t':=s.toks) (h':=(s.heap.update f (39#(#[]))).update D (Obj.mapSeq λ_=>O.toArray)) (by rw[aa];trivial) (.inl rx) (λb u L J=>(N.2 b L).trans J) ⟨_,v⟩
    (aR (by rw[Δ,t.length_eq,sizeLine_eq];lia) O Y U v)
   show Θ (a _ j t l)
  by_cases W:2<=ns.length
  .have l:∀i,i<g.length->Qo s.heap ((ds.map Value.ref).getD i Value.none):=λi Y=>by
    have Y:i<ds.length:=by lia
    show fX (λx y q=>?_) (B _ (X? Y))
    show aG (λJ k v _=>?_) (I.tuple (aZ.of q));obtain⟨o,c,L,m,b⟩:=v
    rw[B!,j!,A! Y];obtain _|⟨⟨t,rfl⟩,_|⟨⟨u,rfl⟩,_|_⟩⟩:=k
    show vM _ o x y (bC t u m rx c L b)
   have b:48#(ds.map Value.ref)=g.length:=by rw[Δ];lia
   have m : ¬ g.toArray.size<2:=by rw[u!];lia
   unfold ksk_end
   try dsimp only
   rw[ξ n!,ξ m,ξ m,ξ n!];show aQ (MS (by lia) (λv U=>?_) ?_)
   .obtain⟨i,Y,rfl⟩:=List.mem_iff_getElem.mp U;have:=l i (by lia)
    rw[B!,A! Y]at this;show this
   show aQ (c! (kat_run (Q:=λq s'=>s' = s/\∃(p:Array Nat) (j:List Int),j.Perm ns/\υ (j.map V.int) (p.toList.map λi=>g.getD i Value.none)/\(arrOf q).map (·.2)=(p.toList.map λi=>g.getD i Value.none).toArray/\failedOf q=none)
    (G:=λp s'=>s' = s/\∃j:List Int,j.Perm ns/\υ (j.map V.int) (p.toList.map λi=>g.getD i Value.none))
    b (by lia) (by lia) (by intro p q s' c k N;show bK λo j F L=>?_;show⟨o,(bh p j F L (kat_snds b k) N)⟩) ?_) ?_ λ_ _ x=>x)
   .show yS.wp (Qp l) (λp t=>b8 rx (p.toList.map λi=>ns.getD i 0) ?_ ?_) (S2 (by lia))
    .have R:=List.Perm.map (λi=>ns.getD i 0) t
     have W:(31#g.length).map (λi=>ns.getD i 0)=ns:=by
      rw[C];show List.ext_getElem 23#0 λi R W=>?_
      simp[B!,A! W]
     rw[W]at R;show R
    .show GJ rv λi Y=>?_
     have:=z!.mp (t.mem_iff.mp Y)
     lia
   .intro o s';show Bf λk=>aS λp j R M c Z=>?_;obtain⟨⟨⟩,q⟩:=o;subst k
    try dsimp only
    show d q j _ c ?_ Z R M;have:=M.length;rw[Δ,R.length_eq]at this
    lia
  .have m:g.toArray.size<2:=by rw[u!];lia
   unfold ksk_end
   try dsimp only
   rw[ξ n!,ο m,ο m,ξ n!];show aQ (Θ ?_);show aQ (m:=pure ((),SortSt.mk' general' ((145#ds.map).zip g.toArray) #[] 7 none)) (Θ ?_);show d _ ns g ?_ (by lia) rx (List.Perm.refl _) rv
   change Array.map (λx:Keyed=>x.snd) ((145#ds.map).zip g.toArray)=g.toArray
   apply ad3.mp;simp;show List.map_snd_zip (by rw[Δ];lia)
end
section
variable {X:Cx}{params:Arguments}{body e:Expr}{scope:Scope}{lp p pos kp:Pos}{fq:List Str}{js:List Nat}{x:Str}{ta:TA}{te:TE}{c0 P:Addr}{k:Nat}
def Q7(hr:fF (k+3) X.A)(T:156#([x]))(O:238#76#x)(g:Gl X "sorted")(j:X.mg "sorted"=none)(d:X.env.code = .ref c0)(b:PySem.W.codeHdIn X.K c0 P=true)(a:PA X [e] ta)
 (he:∀f c s H,fF k (zR X ([x]++fq) scope f c X.A.in1.in1 s H).A->PE (zR X ([x]++fq) scope f c X.A.in1.in1 s H) body te)
 (U:∀c t u,bindArgs (Gz X params body scope c t) ⟨[u],[]⟩=pure [(x,u)]:=by intro _ _ _;rfl) (hco:scope.isCoroutine=false:=by rfl) (hgen:scope.isGenerator=false:=by rfl)
 (i:defaultsOf params X.env=([],[]):=by rfl)
 (l:259#15#([e])=33#e::259#15#([]):=by rfl) (n:(259#15#([e])).any (·.1)=false:=by rfl) :
 PE X (.Call (.Name "sorted" p) [e] [⟨some (Str.ofString "key"),.Lambda params body scope lp,kp⟩] pos) (V6 P (X.env.qual ++ "<lambda>") lp ta te js):=by
 show 68;show 248#(k7 I g j Ef (callWith_kw (eg (a pos A s M H _ I h) λo F Y=>?_) l n rx rx))
 revert Y;show aA λG S I1 l=>fX λa s=>dI λj g h64 H hturn VQ=>?_;subst j
 show aj (λu j n=>?_) (vals1 l);subst j
 cases n;show kws_cons (GA I1 T d b H i λf c l t N L VR hoc J=>kws_nil ?_)
 change wpAny _ X.A (call (.builtin "sorted") [.ref a] [(Str.ofString "key",.ref f)]) _ _ N;have i:=yU (oc:=l) H L g 163#0 163#0
 have Q:iR S P c l (X.env.qual ++ "<lambda>") lp P=112#(fC (X.env.qual ++ "<lambda>") lp++sW lp c):=aa;have G:iR S P c l (X.env.qual ++ "<lambda>") lp c=some (.n9 l (.own P)):=by unfold iR;rw[au VR,aa]
 have UD:∀b,iR S P c l (X.env.qual ++ "<lambda>") lp b=none->S b=none:=λb U=>by
  have d:b≠P:=λz=>by rw[z,Q]at U;cases U
  have g:b≠c:=λz=>by rw[z,G]at U;cases U
  unfold iR at U
  rwa [au d,au g]at U
 have hHL:∀b u,S b=some u->(∀y,u≠.own y)->(∀d,u≠.jq d)->iR S P c l (X.env.qual ++ "<lambda>") lp b=some u:=λb u r E n2=>yU H L r E n2
 generalize hLd:iR S P c l (X.env.qual ++ "<lambda>") lp=F at J i Q G UD hHL;show aG (λg rv d B=>?_) (J.list (aK.of i));obtain⟨o,n,v,j,w,q⟩:=d
 have C:=rv.length;rw[Δ]at C;have d:36#g.length:=74#0
 show call_function_entry_kw kind_sorted plain_sorted entry_sorted (ksk_s1 _ _) ?_;unfold Builtin.«sorted»;show aQ (m:=checkCount "sorted" 1 1 _) (Θ ?_);show aQ (wpAny_collect_seq a (T:="list") (.inl rfl) v j q (λR B=>?_) (by rw[u!];show d))
 have i:=J.kept (t':=N.toks) B;have S:F R.objs.size=none:=i.hok.fresh (Ξ _);show aQ (wpAny_newList ?_ (by simpa using d))
 have v:g.toArray.toList=g:=by simp
 rw[v];have a:(R.push (seqObj "list" g.toArray 0)).get? R.objs.size=some (seqObj "list" g.toArray 0):=v! _ rfl;have q:θ X ((f,90#t)::A) M (η F R.objs.size 66#(s.map V.int)) { N with heap:=R.push (seqObj "list" g.toArray 0)}:=by
  show i.laid (t':=N.toks) (λb o U=>?_) (Ξ _) (aR ?_ g 0 rv a)
  .rw[Heap.get?_push_ne _ _ _ (q! (J' U))];show U
  .rw[Δ,C];show d
 generalize i:R.objs.size=D at S a q;show aQ (t! (wpAny_call_entry_kw slot_list_sort (af _ a rfl) entry_list_sort ?body (ksk_l1 _ _)));change wpAny 9#0 X.A.in1.in1 (Builtin.«list.sort» ⟨[.ref D],[(Str.ofString "key",.ref f)]⟩) _ _ _;rw[ksk_t1];generalize R.push (seqObj "list" g.toArray 0)=W at a q;have o:=Y! W D (39#(#[]))
 obtain⟨i,j⟩:∃i,(W.update D (39#(#[]))).get? D=some (seqObj "list" #[] i):=⟨_,get?_update_seq a λ_=>#[]⟩
 unfold ksk_tree;show aQ (listItems_at a rx ?_);show aQ (listUpdate_at a rx ?_ (by rw[u!];show d) (r! _))
 show aQ (seqEpoch_at j rx ?_);show aQ (wpAny_newTuple ?_ (by change g.toArray.toList.length<=_;rw[v];show d))
 show aQ (wpAny_newList ?_ (r! _));show t! ?_;have R:=q.write (x:=D) (e:=D) (o:=.lst []) (t':=N.toks) (h':=W.update D (39#(#[]))) (by rw[aa];trivial) (.inl rx) (λb u n r=>(o.2 b n).trans r) ⟨_,j⟩ (aR (r! _) [] i .nil j)
 have d:=R.Tu (a:=D) aa j;generalize a:η (61#(η F D 66#(s.map V.int))) D (.n9 (seqObj "list" #[] i) 185#0)=Z at d;have at2:∀b u,F b=some u->Z b=some u:=λb u r=>by
  have n:b≠D:=λz=>by rw[z,S]at r;cases r
  rw[<-a,au n,au n,au n];show r
 have hD2:Z D=some (.n9 (seqObj "list" #[] i) 185#0):=by rw[<-a,aa]
 generalize W.update D (39#(#[]))=a at R d
 rw[v];have v:∀b u,a.get? b=some u->((a.push (seqObj "tuple" g.toArray 0)).push (seqObj "list" #[] 0)).get? b=some u:=λb u r=>W' _ (W' _ r)
 have o:297#(seqObj "tuple" g.toArray 0)=a.objs.size+1:=size_push' ..;have C:=d.QK (b:=297#(seqObj "tuple" g.toArray 0)) (by change a.objs.size<=_;rw[o];show Q! _)
 have B:((a.push (seqObj "tuple" g.toArray 0)).push (seqObj "list" #[] 0)).get? 297#(seqObj "tuple" g.toArray 0)=some (seqObj "list" #[] 0):=v! _ rfl;have w:Z 297#(seqObj "tuple" g.toArray 0)=none:=d.hok.fresh (by change a.objs.size<=_;rw[o];show Q! _)
 have I:∀q∈(f,90#t)::A,q.1<a.objs.size:=λq Y=>J' (d.pin q (j4 _ Y)).1
 have j:θ X ((297#(seqObj "tuple" g.toArray 0),seqObj "list" #[] 0)::(f,90#t)::A) M Z { N with heap:=(a.push (seqObj "tuple" g.toArray 0)).push (seqObj "list" #[] 0)}:=by
  have K:=d.kept (t':=N.toks) v;show K.i6 λq Y=>?_
  rcases Z'.mp Y with rfl|Y
  .show dF B w C.2.1 C.2.2.1 177#0
  .show K.pin q (j4 _ Y)
 have pK:∀q∈(f,90#t)::A,q.1≠297#(seqObj "tuple" g.toArray 0):=λq Y=>by
  have:=I q Y;rw[o];show q! (e_ this)
 have d:g.toArray.size=g.length:=u! ..;change wpAny 9#0 X.A.in1.in1 (ksk_rest D (.ref f) false g.toArray i (.ref 297#(seqObj "tuple" g.toArray 0))) _ _ { N with heap:=(a.push (seqObj "tuple" g.toArray 0)).push (seqObj "list" #[] 0)}
 generalize 297#(seqObj "tuple" g.toArray 0)=B at C j pK;generalize (a.push (seqObj "tuple" g.toArray 0)).push (seqObj "list" #[] 0)=d at j;unfold ksk_rest;show aQ (wpAny_rule ?_);rw[List.forIn_toArray];show aQ (ksk_fold (λi I=>∃w a N,ai Z w/\θ X ((B,seqObj "list" (145#a.map) N)::(f,90#t)::A) M w I/\a.length=i/\∀d∈a,∃x y,w d=17#([.int x,.int y]))
  g 0 _ ⟨Z,(bh [] 0 186#0 j rx λd z=>by cases z)⟩ ?_ ?_)
 .intro j y I Z;show dX λw=>aS λa N o i J W=>?_
  rw[_i]at J ⊢;have hj:j<g.length:=(k6.mp Z).1;have hnj:s[j]?=some (s[j]'(by lia)):=A! _
  obtain⟨uu,g,ru⟩:=rv.get (show(s.map V.int)[j]?=8#(s[j]'(by lia)) by rw[j!,hnj];rfl)
  rw[Z]at g;cases g;obtain⟨g,_⟩:=(show bL X.prog X.w w I.heap c (.n9 l (.own P)) from i.hok c _ (o _ _ (at2 _ _ G)))
  have Z:X.A.in1.in1.depth<recursionLimit:=((hr.in1).in1).depth;show aQ (wpAny_attempt (c! (GD (v:=.int (s[j]'(by lia))) i T O i.ok.frames rx Z 64#List.Mem.tail (hoc.rec g) (U c t _) hco hgen (he f c I w (((hr.in1).in1).deeper _)) ru
   (hturn w (λb u r E n2=>o _ _ (at2 _ _ (hHL b u r E n2))) _ (X? _))) (λv j c=>?_) λ_ _ z=>z))
  revert c;show aS λg T s f O=>cK λd x' y' t U=>?_;subst t
  cases f;have f:=s.pin (B,_) 64#j4;have Z:=Y! j.heap B (Obj.mapSeq (·.push (.ref d)));have c:(145#a.map).push (.ref d)=145#(a++[d]).map:=by simp
  obtain⟨g,t⟩:∃g,(j.heap.update B (Obj.mapSeq (·.push (.ref d)))).get? B=some (seqObj "list" (145#(a++[d]).map) g):=⟨_,by rw[<-c];show get?_update_seq f.1 (·.push (.ref d))⟩
  try dsimp only
  show aQ (listUpdate_at f.1 rx ?_ (by rw[u!,Δ,sizeLine_eq];lia) (Ω (v_ (Array.size_push ..)) (by rw[u!,Δ,sizeLine_eq];lia)))
  show Θ 46#(bC T (a++[d]) g (λb u z=>O _ _ (o _ _ z)) ?_ (by rw[U',S!,J]) λE c=>?_)
  .show s.mD (t':=j.toks) C (.head _) (λb u n r=>(Z.2 b n).trans r) λq Y=>by
    rcases Z'.mp Y with rfl|Y
    .show .inl (bj rx t (177#0))
    .show .inr ⟨.tail _ Y,pK q Y⟩
  .rcases d!.mp c with c|c
   .show fX (λx y h=>?_) (W E c)
    show kZ x y (O _ _ h)
   .rw[a!.mp c];show kZ x' y' U
 .intro I;show dX λw=>aS λa N o i J W=>?_
  rw[_i]at J;have f:=i.pin (B,_) 64#j4
  try dsimp only
  show aQ (listItems_at f.1 rx ?_);show Na i C pK (o _ _ hD2) rv h64 (by lia) W R aa λd j t a=>af _ rx (Θ (af _ rx ?_))
  have c:θ X A M (η (61#w) D 66#(j.map V.int)) d:=a.i6 λq Y=>a.pin q (j4 _ (.tail _ Y))
  have v:∀b u,F b=some u->b≠D:=λb u r z=>by rw[z,S]at r;cases r
  have E:∀b u,F b=some u->η (61#w) D 66#(j.map V.int) b=some u:=λb u r=>by
   rw[au (v b u r),au (v b u r)];show o _ _ (at2 _ _ r)
  have a:=GB I1 H L VR hoc c (E _ _ Q) (E _ _ G);show aq (.ref D) _ a rx (VQ D j _ (UD D S) (GC H L VR (oc:=l) λb u r=>E b u (by rw[<-hLd];show r)) ?_ t)
  unfold given;rw[au (λz=>v _ _ Q z.symm),au (λz=>v _ _ G z.symm),aa]
end
end L2
namespace RM
section
variable {N:Net}{L:Nat->Int}
def GK(q m O:Nat):N.par q (m^^^O)=(N.par q m^^N.par q O):=by
 have e:∀a b:Nat,N.par a b=N.par b a:=λa b=>fH λk _=>Bool.and_comm _ _
 rw[e,sj,e m,e O]
theorem LZ:∀{n i},i<n->(∀k,k<n->k≠i->f k=false)->e9 f n=f i
 | 0,i,h,_=>absurd h (r? _)
 | n+1,i,h,m=>by
   change(e9 f n^^f n)=f i
   by_cases e:i=n
   .subst e;rw[kQ λk B=>m k (by lia) (by lia),Bool.false_xor]
   .rw[LZ (151#(i<n)) λk B G=>m k (by lia) G,m n (by lia) (λz=>e z.symm),i_]
def V7(U:∀b∈B,N.par b w=false)(h:Sp B x):N.par x w=false:=by
 induction h with
 | zero=>show u4 ..
 | add _ d E=>rw[sj,E,U _ d];rfl
def Q8(h:LW B)(U:∀b∈B,N.par b w=false)(j:N.par b w=true):LW (B++[b]) :=
 Gy.mpr ⟨h,λz=>by rw[V7 U z]at j;cases j⟩
def Tv:LW []:=λz m _=>by simp at m;show m
def Tw{left r:Nat}(U:r≠0)(Y:r<2^N.n)(e:∀k,320#0=true->261#k=true):207#(294#(left^^^r))<207#(261#k):=by
 have l:207#(261#k)=207#(294#(left^^^r))+207#(320#0):=by
  rw[<-zA λx _ ⟨d,X⟩=>by rw[Gn e,X]at d;simp at d]
  show kR λj _=>?_
  rw[Gn e];cases J:r.testBit j with
  | false=>simp
  | true=>rw[e j J];rfl
 obtain⟨j,J⟩:=P_ U;have t:0<207#(320#0):=u0 J (g9 Y J)
 lia
structure Wt(N:Net)(bs ws cs:List Nat):Prop where
 lens:ws.length=cs.length
 sum:bs.length+ws.length=N.dR.length
 ch:∀c∈cs,c<N.n/\N.kH c=false
 lt:∀w∈ws,w<2^N.n
 bits:∀w∈ws,∀k,w.testBit k=true->N.kH k=false
 own:∀(i j w c:Nat),ws[i]?=some w->cs[j]?=some c->w.testBit c=decide (i=j)
 fM:∀w∈ws,∀b∈bs,N.par b w=false
def Wt.odd(h:Wt N bs (w::a) cs):∃r,N.Ring r/\r<2^N.n/\N.par r w=true:=by
 have C:=h.lens
 match cs,C,h with
 | c::cs,C,h =>
   obtain⟨U,Y⟩:=h.ch c h!;show av (N.ring c) (CW U Y) (sf U) ?_;have e:N.par (N.ring c) w=((N.ring c).testBit c&&w.testBit c):=LZ (f:=λk=>294#(N.ring c)&&w.testBit k) U λk B G=>by
    cases j:w.testBit k with
    | false=>show M_ _
    | true =>
      have:=tT Y (h.bits w h! k j);rw[this,fV (λz=>G z.symm)]
      rfl
   rw[e,zq Y,h.own 0 0 w c rx rfl];rfl
def Wt.next(h:Wt N bs (w::a) cs)(p:N.par b w=true):∃c f,cs=c::f/\Wt N (bs++[b]) (a.map λv=>if N.par b v=true then v^^^w else v) f:=by
 have C:=h.lens
 match cs,C,h with
 | c::cs,C,h =>
   show aV c cs rx ?_;have q:=h.lt w h!;have U:∀v∈a,v∈w::a:=λv z=>sY _ z
   show⟨by rw[Δ];simpa using C,?_,λd J=>h.ch d (sY _ J),λP l=>?_,λP l k B=>?_,λi j P d R W=>?_,λP l A r=>?_⟩
   .have:=h.sum;rw[y!]at this;rw[U',S!,Δ]
    lia
   .show aj (λv m s=>?_) (i!.mp l);subst s
    split
    .show K? (h.lt v (U v m)) q
    .show h.lt v (U v m)
   .show aj (λv m u=>?_) (i!.mp l);subst u
    split at B
    .rw[p!]at B;cases R:v.testBit k with
     | true=>show h.bits v (U v m) k R
     | false =>
       rw[R,Bool.false_xor]at B;show h.bits w h! k B
    .show h.bits v (U v m) k B
   .rw[j!]at R;show aj (λv E x=>?_) (vN.mp R);subst x
    have g:=h.own (i+1) (j+1) v d (by simpa using E) (by simpa using W)
    have D:=h.own 0 (j+1) w d rx (by simpa using W)
    have n:11#(i+1=j+1)=decide (i=j):=q?.mpr (by lia)
    rw[n]at g
    split
    .rw[p!,g,D];simp
    .show g
   .show aj (λv m o=>?_) (i!.mp l);subst o
    show 316#r
    .have e:=h.fM v (U v m) A z;have X:=h.fM w h! A z
     split
     .rw[GK,e,X];rfl
     .show e
    .rw[a!.mp z]
     split
     .rename_i t
      rw[GK,t,p];rfl
     .rename_i t
      cases Y:N.par b v with
      | false=>rfl
      | true=>show absurd Y t
def Wt.start(Z:N.dR.Nodup):Wt N [] (N.dR.map λc=>2^c) N.dR:=by
 show⟨Δ ..,by rw[Δ];simp,λc L=>fJ.mp L,λw e=>?_,λw e k B=>?_,λi j w c R W=>?_,λw _ b U=>by cases U⟩
 .show aj (λc L O=>?_) (i!.mp e);subst O
  show _E 3#0 (fJ.mp L).1
 .show aj (λc L a=>?_) (i!.mp e);subst a
  rw[D!]at B;rw[<-lZ B];show(fJ.mp L).2
 .rw[j!]at R;show aj (λd J t=>?_) (vN.mp R);subst t
  rw[D!];show q?.mpr ⟨λz=>?_,λz=>?_⟩
  .subst z;obtain⟨D,f⟩:=k6.mp J;obtain⟨F,a⟩:=k6.mp W;show(_O Z).mp (f.trans a.symm)
  .subst z;rw[J]at W;show 26#W
end
end RM
namespace Ring
open PySem L2
def Tz(g:aJ p ts)(i:m<2^ts.length)(r:g.N.Ring m):zB p ts g m=true:=by
 have f:eJ p ts g m=g.N.bP (λk=>12#0) g.N.n:=rfl
 show aG (λv a A j=>?_) (RM.I9 i r)
 generalize l:g.N.bP (λk=>12#0) g.N.n (g.N.a v)=s at j
 show dW (λW C D=>?_) (RM.PX (s:=s) i r (λx=>11#(eJ p ts g m x=s)) (λx _=>by rw[f]) (λk B U=>eK (j k B U)))
 have b:s<p:=by rw[<-l];show RM.yP (g.N.al v a)
 have n:eJ p ts g m s=s:=by rw[f,<-l];show RM.g8 _ _
 have o:kW (eJ p ts g m) p=[s]:=by
  unfold kW fB;rw[List.filter_filter];show ME b λx O=>?_
  by_cases e:x=s
  .subst e;rw[eK n,wg,eK rfl,t_];show eK W
  .rw[fV e]
   by_cases h:eJ p ts g m x=x
   .have L:11#(eJ p ts g m x=s)=false:=fV (by rw[h];show e)
    obtain⟨_,q⟩:=D x O L;have : ¬ 1<48#(pieceOf (eJ p ts g m) p x):=λz=>by
     rw[wg]at z;show aS (λc d R _ M T=>?_) (RM.yQ z)
     have M:=q c (lZ M);have T:=q d (lZ T)
     lia
    rw[fV this,_V]
   .rw[fV h,M_]
 unfold zB;rw[eK ((F1 g i).mpr r.2.1),o,W!];show eK ?_;rw[wg,zC i];show C
end Ring
namespace Tx
open PySem
noncomputable def kq(x:Str):Bool:=! 11#(x.length=0) && ! 11#(60<x.length)&&(x.cps.toList.all λc=>11#(48<=c/\c<=57))&&(! 11#(x.cps.toList[0]?=some 48) || 11#(x=Str.ofString "0"))
def Br(x:Str):Bool:=kq x || (11#(Txt.slice x none (some 1)=Str.ofString "-") && ! 11#(x=Str.ofString "-0")&&kq (Txt.slice x (some 1) none))
def valZ(x:Str):Int:=(PySem.intText? x).getD 0
theorem UE:∀cs a,PySem.NumText.AllDigits cs->cs.foldl (λI c=>I*10+(c-48)) a<(a+1)*10^cs.length
 | [],a,_=>by change a<(a+1)*1;lia
 | c::cs,a,h=>by
   have L:=h.head;show g! (UE cs (a*10+(c-48)) h.tail) ?_;rw[y!,Q?,Nat.mul_comm (10^cs.length),<-Nat.mul_assoc];show F_ _ (by lia)
def zY(h:kq x=true):x.length<=60/\PySem.NumText.AllDigits x.cps.toList/\x.cps.toList≠[]:=by
 unfold kq at h;simp only[H!,X_,decide_eq_false_iff_not,l?,decide_eq_true_eq]at h;show bj (by lia) h.1.2 λe=>h.1.1.1 ?_
 have D:x.length=x.cps.toList.length:=205#0
 rw[D,e];rfl
def UG(h:kq x=true):PySem.NumText.digitsVal x.cps.toList<10^60:=by
 show dW (λR W _=>?_) (zY h)
 have D:x.length=x.cps.toList.length:=205#0
 have:=UE x.cps.toList 0 W;rw[_i,Nat.one_mul]at this;show g! this (o? 3#0 (by lia))
def JG(h:kq x=true):PySem.intText? x=some (valZ x)/\0<=valZ x/\(valZ x).natAbs<10^60/\x.length<=640:=by
 show dW (λR W M=>?_) (zY h)
 have e:=PySem.intText_digits W M (Ω R 3#0)
 unfold valZ;rw[e];show iI rx (_G _) (UG h) (by lia)
def Q9(h:Br x=true):PySem.intText? x=some (valZ x)/\(valZ x).natAbs<10^60/\x.length<=640:=by
 unfold Br at h;rcases Bool.or_eq_true_iff.mp h with h|h
 .show mj (λa _ b c=>?_) (JG h)
  show bj a b c
 .simp only[H!,X_,decide_eq_false_iff_not,decide_eq_true_eq]at h;obtain⟨⟨R,_⟩,W⟩:=h;have q:=QB R;show dW (λp j n=>?_) (zY W)
  have D:∀y:Str,y.length=y.cps.toList.length:=λy=>205#0
  have C:x.length<=61:=by
   rw[D]at p;rw[D,q,y!]
   lia
  have e:=PySem.intText_neg q j n (Ω C 3#0)
  unfold valZ;rw[e];show bj rx ?_ (by lia)
  change(-7#(PySem.NumText.digitsVal _)).natAbs<_;rw[Int.natAbs_neg,W?];show UG W
end Tx
set_option maxHeartbeats 4000000
namespace K62
open PySem L2 Ring
local macro_rules | `(tactic| trivial)=>`(tactic| show⟨rfl,rfl,rfl,by decide +kernel,rfl,by decide +kernel,by decide +kernel⟩)
noncomputable def top(i:Nat):Stmt:=PySem.Challenge.pw_ringbase_k62_answers_refused.main.body.getD i (.Pass ⟨0,0,0,0⟩)
section
variable {mY nJ qh tF yh Fw Nb TF V8 YQ V9 Wa XW ZX ZY ZZ Z0 Z1 Z2:TS}{qo Nc XX sc3:TT}{zZ XY:TI}{z0 XZ:TG}{D:Ends}{σ:St}{H:Hp}
abbrev tX:Stmt:=top 18
def yi:e8 ["points","ties"] 2 tX:=32#0
def GL(h:35#(222#(let b:=qh;249#(aI (dP Nc b cu) I)))):=h
abbrev tY:Stmt:=top 19
def yj:e8 ["points","tie","end"] 2 tY:=32#0
def GN(h:35#(222#(let b:=qh;let W:=(aI (dP Nc b cu) I);let e:=tF;let x:=(dP XX e cu);let c:=(aI (i4 zZ z0 x) W);let B:=yh;249#(aI (dP sc3 B cu) c)))):=h
abbrev wG:Stmt:=top 20
def JH:e8 ["tie_set","tie"] 2 wG:=32#0
abbrev wH:Stmt:=top 21
def z4:e8 ["tie_set"] 1 wH:=32#0
abbrev z5:Stmt:=top 22
def sC:e8 ["web","ties","found","tie"] 2 z5:=32#0
def C9(h:35#(let I:=qh;let b:=(aI (dP qo I cu) f);let W:=(117#b);249#(aI tF W))):=h
abbrev tZ:Stmt:=top 23
def GO:e8 ["web"] 1 tZ:=32#0
abbrev z6:Stmt:=top 24
def Nd:e8 ["web","number"] 2 z6:=32#0
abbrev qQ:Stmt:=top 25
def Eg:e8 ["web","tie_set"] 2 qQ:=32#0
def oX(h:let v:=mY;249#(dP qo v cu)):=h
abbrev oY:Stmt:=top 26
def tG:e8 ["web","tie_set"] 2 oY:=32#0
def gp(h:let v:=mY;249#(aI nJ v)):=h
abbrev qR:Stmt:=top 27
def vh:e8 ["web","tie_set"] 2 qR:=32#0
abbrev oZ:Stmt:=top 28
def gq:e8 ["web","tie_set","ends","one","other","length"] 2 oZ:=32#0
def Bs(h:35#(let I:=(aI qh f);let b:=(117#I);249#(aI tF b))):=h
abbrev jw:Stmt:=top 29
def gD:e8 ["leasts","one","other","low","high"] 3 jw:=32#0
def jf(h:let v:=mY;let f:=(aI nJ v);249#(aI qh f)):=h
abbrev z7:Stmt:=top 30
def hU:e8 ["web","tie_set","leasts","one","other","length","found","start"] 2 z7:=32#0
def Nf(h:35#(let I:=(dP qo f cu);let b:=(117#I);let W:=(aI qh b);let e:=tF;let x:=(aI (i4 XY XZ e) W);249#(aI yh x))):=h
abbrev JI:Stmt:=top 31
def TH:e8 ["web"] 1 JI:=32#0
abbrev wI:Stmt:=top 33
def JJ:e8 ["web","tie_set"] 2 wI:=32#0
abbrev o4:Stmt:=top 34
def tH:e8 ["web","tie_set","odd"] 2 o4:=32#0
def Bt(h:let v:=mY;let f:=(dP qo v cu);249#(aI nJ f)):=h
abbrev kr:Stmt:=top 35
def b7:e8 ["web","leasts","trails","tie","one","other","bridge","moved"] 1 kr:=32#0
def wJ(h:35#(let I:=(aI qh f);let b:=(aI tF I);let W:=(aI yh b);let e:=(dP qo W cu);let x:=(aI Fw e);let c:=(aI Nb x);let B:=(117#c);let k:=(aI TF B);249#(aI V8 k))):=h
abbrev z8:Stmt:=top 36
def sD:e8 ["web","found","trail"] 1 z8:=32#0
def Dd(h:35#(let I:=(117#f);249#(aI qh I))):=h
abbrev z9:Stmt:=top 37
def Nh:e8 ["web"] 1 z9:=32#0
abbrev mZ:Stmt:=top 38
def qS:e8 ["web","trails","chord","tie"] 3 mZ:=32#0
abbrev o5:Stmt:=top 39
def Bu:e8 ["web","tie"] 2 o5:=32#0
def gu(h:35#(249#(aI (dP qo f cu) v))):=h
abbrev wK:Stmt:=top 41
def t6:e8 ["web","tie_set","touched"] 2 wK:=32#0
def JK(h:let v:=mY;let f:=(aI nJ v);let I:=qh;249#(aI (dP qo I cu) f)):=h
abbrev jx:Stmt:=top 42
def vj:e8 ["web","number"] 2 jx:=32#0
abbrev qT:Stmt:=top 43
def vm:e8 ["web","rings"] 2 qT:=32#0
def cL:Pos:=⟨141,29,141,70⟩
abbrev Aa:Stmt:=top 44
def De:e8 ["web","tie_set","point"] 3 Aa:=32#0
abbrev wL:Stmt:=top 45
def Ab:e8 ["web","tie","point","ends"] 3 wL:=32#0
abbrev m3:Stmt:=top 46
def fO:e8 ["web","even","points","ties","left","tie"] 2 m3:=32#0
def Ac(h:35#(let I:=(aI qh f);let b:=(aI tF I);let W:=(aI yh b);let e:=(aI (za qo W) v);let x:=(aI Fw e);let c:=(aI Nb x);249#(aI TF c))):=h
abbrev Ad:Stmt:=top 47
def nX:e8 ["web","tie_set","found","left","ring"] 2 Ad:=32#0
def Ni(h:35#(let I:=(aI qh f);let b:=(aI tF I);let W:=(aI (za qo b) v);let e:=(aI yh W);let x:=(aI Fw e);249#(aI Nb x))):=h
abbrev Ae:Stmt:=top 49
def Nj:e8 ["one","other"] 2 Ae:=32#0
abbrev m4:Stmt:=top 50
def Af:e8 ["tie_set","marks"] 2 m4:=32#0
abbrev wM:Stmt:=top 51
def o6:e8 ["web","side","ahead","point"] 2 wM:=32#0
abbrev Ag:Stmt:=top 52
def Df:e8 ["web","side"] 2 Ag:=32#0
abbrev wN:Stmt:=top 53
def lE:e8 ["web","tie_set","trails","side","amiss"] 2 wN:=32#0
def Ah(h:35#(222#(let b:=(aI qh I);let W:=(aI tF b);let e:=(aI yh W);249#(aI Fw e)))):=h
abbrev jy:Stmt:=top 55
def ef:e8 ["web","marks","steps","tie","ends","turn"] 2 jy:=32#0
def vn(h:35#(let I:=(aI qh f);let b:=(aI tF I);let W:=(117#b);249#(aI yh W))):=h
abbrev o7:Stmt:=top 56
def cz:e8 ["web","marks","start","steps","found","waiting","nearest","way","tie","point","turn","part","further"] 3 o7:=32#0
def Bv(h:35#(let I:=(dP Nc f cu);let b:=(aI qh I);let W:=(aI tF b);let e:=(i4 zZ z0 W);let x:=(aI yh e);let c:=(aI Fw x);let B:=(aI Nb c);let k:=(aI (za qo B) v);let N:=(aI TF k);let a:=(aI V8 N);249#(aI YQ a))):=h
def aX:Pos:=⟨203,35,203,63⟩
abbrev ku:Stmt:=top 57
def wO:e8 ["way"] 1 ku:=32#0
abbrev jz:Stmt:=top 58
def mE:e8 ["ways"] 1 jz:=32#0
abbrev jA:Stmt:=top 60
def mF:e8 ["web","marks"] 2 jA:=32#0
abbrev kA:Stmt:=top 61
def nY:e8 ["ways"] 1 kA:=32#0
abbrev o8:Stmt:=top 62
def Bw:e8 ["web","marks"] 2 o8:=32#0
abbrev qU:Stmt:=top 63
def kL:e8 ["web","marks","ways","rounds"] 2 qU:=32#0
def vo(h:35#(222#(let b:=(aI qh I);let W:=(aI tF b);249#(aI yh W)))):=h
abbrev wQ:Stmt:=top 65
def gK:e8 ["rows","tie_set","left","used","lead","row","places"] 2 wQ:=32#0
def JL(h:35#(let I:=(aI qh f);let b:=(dP qo I cu);let W:=(117#b);let e:=(aI tF W);249#(aI yh e))):=h
abbrev t7:Stmt:=top 66
def qV:e8 ["rows","added","found","old"] 2 t7:=32#0
def GP(h:35#(let I:=qh;let b:=(dP qo f I);let W:=(117#b);249#(aI tF W))):=h
abbrev wR:Stmt:=top 67
def jB:e8 ["sets","rows","place","tie_set","rest"] 1 wR:=32#0
def JM(h:35#(let I:=(dP qo f cu);let b:=(aI qh I);let W:=(117#b);249#(aI tF W))):=h
abbrev wU:Stmt:=top 68
def Ai:e8 ["web","rings"] 2 wU:=32#0
abbrev qW:Stmt:=top 69
def jg:e8 ["web","rings","rows","found","place"] 2 qW:=32#0
def Eh(h:35#(let I:=(117#f);let b:=(aI qh I);let W:=(aI tF b);let e:=yh;249#(aI (dP qo e cu) W))):=h
abbrev m5:Stmt:=top 70
def dS:e8 ["web","waiting","found","marks","ring"] 1 m5:=32#0
def Aj(h:35#(let I:=(aI qh f);let b:=(aI tF I);let W:=(aI yh b);let e:=(aI (za qo W) v);let x:=(aI Fw e);249#(aI Nb x))):=h
abbrev o9:Stmt:=top 71
def jP:e8 ["web","rings","marks"] 1 o9:=32#0
abbrev wW:Stmt:=top 72
def Ak:e8 ["web"] 1 wW:=32#0
abbrev m6:Stmt:=top 74
def qX:e8 ["rows","step","place"] 2 m6:=32#0
def qY(h:35#(let I:=(dP qo f cu);249#117#I)):=h
abbrev m7:Stmt:=top 75
def qZ:e8 ["row","lead_row","step","divisor"] 4 m7:=32#0
abbrev m8:Stmt:=top 76
def cW:e8 ["table","rows","sign","divisor","step","place","lead_row","below"] 1 m8:=32#0
def Al(h:35#(let I:=qh;let b:=(aI (i4 XY XZ I) f);let W:=tF;let e:=(aI yh W);let x:=(aI Fw e);let c:=(aI Nb x);let B:=(aI (dP qo c cu) b);let k:=TF;let N:=(aI (dP Nc k cu) B);let a:=(aI V8 N);let i:=(117#a);let d:=(aI YQ i);let g:=(aI V9 d);249#(aI Wa g))):=h
abbrev lF:Stmt:=top 78
def qi:e8 ["web","one","other"] 3 lF:=32#0
abbrev lG:Stmt:=top 79
def cI:e8 ["web","leasts","kept","table","one","counts"] 1 lG:=32#0
def yv(h:35#(let I:=(aI qh f);let b:=(117#I);let W:=(aI tF b);let e:=(aI yh W);249#(aI Fw e))):=h
abbrev m9:Stmt:=top 80
def Am:e8 ["web"] 1 m9:=32#0
abbrev q4:Stmt:=top 82
def Ei:e8 ["web","row"] 2 q4:=32#0
abbrev pe:Stmt:=top 83
def Bx:e8 ["rest"] 1 pe:=32#0
abbrev q5:Stmt:=top 84
def Ej:e8 ["number","rest"] 2 q5:=32#0
abbrev pA:Stmt:=top 85
def jQ:e8 ["web","row","rest","heights","found","tie","ends"] 4 pA:=32#0
def By(h:35#(let I:=(dP qo f cu);let b:=(117#I);249#(aI qh b))):=h
abbrev jC:Stmt:=top 86
def bU:e8 ["web","row","leasts","heights","tie","ends","amiss","moved","lift"] 2 jC:=32#0
def vp(h:35#(let I:=(aI qh f);let b:=(aI tF I);let W:=(aI yh b);let e:=(aI Fw W);let x:=(dP qo e cu);let c:=(117#x);let B:=(aI Nb c);249#(aI TF B))):=h
abbrev h8:Stmt:=top 87
def iB:e8 ["web","row","rest","heights","amiss"] 3 h8:=32#0
def BA(h:35#(222#(let b:=qh;let W:=(aI (dP Nc b cu) I);let e:=(aI tF W);let x:=(aI yh e);let c:=(aI Fw x);249#(aI Nb c)))):=h
abbrev t8:Stmt:=top 93
def mG:e8 ["word","numbers"] 2 t8:=32#0
abbrev q6:Stmt:=top 94
def vq:e8 ["word"] 1 q6:=32#0
abbrev q7:Stmt:=top 95
def Ek:e8 ["word"] 1 q7:=32#0
abbrev lH:Stmt:=top 96
def kB:e8 ["words"] 1 lH:=32#0
abbrev q8:Stmt:=top 97
def vt:e8 ["web","words","numbers"] 2 q8:=32#0
def El(h:let v:=mY;let f:=(aI nJ v);let I:=qh;let b:=(aI (dP qo I cu) f);249#(aI tF b)):=h
abbrev lI:Stmt:=top 98
def kC:e8 ["numbers","bound","place","number"] 2 lI:=32#0
abbrev pB:Stmt:=top 99
def tI:e8 ["web","words","numbers"] 2 pB:=32#0
def jR(h:35#(222#(249#(aI qh I)))):=h
abbrev kD:Stmt:=top 100
def fP:e8 ["web","words","rest","row"] 2 kD:=32#0
def wX(h:35#(222#(let b:=qh;let W:=(aI (dP Nc b cu) I);let e:=(aI tF W);249#(aI yh e)))):=h
abbrev t9:Stmt:=top 101
def GQ:e8 ["web","words"] 2 t9:=32#0
def GR(h:35#(222#(let b:=qh;let W:=(aI (dP Nc b cu) I);let e:=tF;249#(aI (dP XX e cu) W)))):=h
abbrev q9:Stmt:=top 102
def eG:e8 ["text","web","asked","number","row","words","stands"] 1 q9:=32#0
def Em(h:35#(let I:=(dP qo f cu);let b:=qh;let W:=yh;let e:=(aI tF b);let x:=(aI Fw W);let c:=(aI (dP Nc e x) I);let B:=(aI Nb c);let k:=(117#B);let N:=(aI TF k);249#(aI V8 N))):=h
abbrev rf:Stmt:=top 104
def vv:e8 ["ring"] 1 rf:=32#0
abbrev nc:Stmt:=top 105
def An:e8 ["web","numbers"] 2 nc:=32#0
abbrev ua:Stmt:=top 106
def yk:e8 ["web","numbers"] 2 ua:=32#0
abbrev uc:Stmt:=top 107
def mH:e8 ["web","numbers","rings","odd"] 2 uc:=32#0
abbrev wY:Stmt:=top 108
def Ao:e8 ["web","numbers","answer"] 2 wY:=32#0
abbrev wZ:Stmt:=top 109
def Aq:e8 ["web","numbers","answer"] 2 wZ:=32#0
abbrev nf:Stmt:=top 110
def rh:e8 ["web","numbers","answer"] 2 nf:=32#0
abbrev ng:Stmt:=top 111
def Ar:e8 ["web","numbers"] 2 ng:=32#0
abbrev ud:Stmt:=top 113
def j9:e8 ["text","page","found","rows","asked"] 1 ud:=32#0
def GS(h:35#(let I:=qh;let b:=(aI (dP qo I cu) f);let W:=(117#b);let e:=(aI tF W);let x:=(aI yh e);249#(aI Fw x))):=h
abbrev ue:Stmt:=top 115
def GU:e8 ["script","k"] 2 ue:=32#0
abbrev uf:Stmt:=top 116
def rj:e8 ["cell","k","near"] 2 uf:=32#0
abbrev w4:Stmt:=top 117
def lJ:e8 ["c","points","times","one","other"] 3 w4:=32#0
def JN(h:let v:=mY;let f:=(aI nJ v);let I:=(aI qh f);let b:=(aI tF I);249#(aI yh b)):=h
abbrev w5:Stmt:=top 118
def fL:e8 ["script","most","head","points","times","ties","c","k","tie"] 2 w5:=32#0
def JO(h:35#(let I:=(i4 zZ z0 f);let b:=(aI (dP qo I cu) v);let W:=qh;let e:=(aI tF W);let x:=(i4 XY XZ e);let c:=(aI yh x);let B:=(aI (dP Nc c cu) b);let k:=(aI Fw B);let N:=(aI Nb k);let a:=(aI TF N);249#(aI V8 a))):=h
abbrev jh:Stmt:=top 119
def bw:e8 ["web","cell","great","c","kind","many","rest","numbers","by_points","drawn","k","one","other","length","rise"] 3 jh:=32#0
def BB(h:let v:=mY;let f:=nJ;let I:=qh;let b:=(aI (dP qo I cu) f);let W:=(aI tF b);let e:=(aI yh W);let x:=(117#e);let c:=Fw;let B:=(aI Nb c);let k:=(aI (i4 XY XZ B) x);let N:=(aI TF k);let a:=(aI V8 N);let i:=(aI YQ a);let d:=(aI V9 i);let g:=(aI Wa d);let j:=(aI XW g);let o:=ZX;let m:=(aI (dP Nc o cu) j);let r:=ZY;let q:=(aI (dP XX r cu) m);let l:=(aI ZZ q);let p:=(aI Z0 l);let n:=(aI Z1 p);249#(aI Z2 n)):=h
abbrev ug:Stmt:=top 120
def gM:e8 ["script","most","web","great","rows","k","cell"] 2 ug:=32#0
def GV(h:35#(let I:=qh;let b:=(aI (dP qo I cu) f);let W:=(aI tF b);let e:=(117#W);let x:=(aI yh e);let c:=(aI Fw x);249#(aI Nb c))):=h
abbrev uh:Stmt:=top 121
def iY:e8 ["web","rows","ahead","one","other","length"] 2 uh:=32#0
abbrev gO:Stmt:=top 122
def jo:e8 ["caught","others"] 1 gO:=32#0
abbrev rm:Stmt:=top 123
def gb:e8 ["way","text","caught","found","e"] 2 rm:=32#0
abbrev w6:Stmt:=top 124
def gP:e8 ["text","cell","k","turn","at","sign","rows","one","other","kept"] 3 w6:=32#0
def JP(h:35#(222#(let b:=(aI qh I);let W:=(aI tF b);let e:=(aI yh W);let x:=(aI Fw e);let c:=(aI Nb x);let B:=TF;let k:=(aI (dP Nc B cu) c);let N:=V8;let a:=(aI (dP XX N cu) k);let i:=YQ;let d:=(aI (dP sc3 i cu) a);let g:=(aI V9 d);let j:=(aI Wa g);249#(aI XW j)))):=h
abbrev um:Stmt:=top 125
def kc:e8 ["text","row","page","shown_row","found"] 1 um:=32#0
def GW(h:35#(222#(let b:=qh;let W:=(aI (dP Nc b cu) I);let e:=(aI tF W);let x:=yh;let c:=(aI (dP XX x cu) e);249#(aI Fw c)))):=h
abbrev Ra:Stmt:=top 126
def uo:e8 ["script","web","rows","text","fixed","k","spoilt"] 1 Ra:=32#0
def Wb(h:35#(let I:=(dP qo f cu);let b:=(aI qh I);let W:=(117#b);let e:=tF;let x:=(dP Nc e cu);let c:=(aI (i4 XY XZ x) W);let B:=(aI yh c);249#(aI Fw B))):=h
abbrev lK:Stmt:=inClass (top 12) 0
def yw:e8 ["self","words","point"] 3 lK:=32#0
abbrev nh:Stmt:=inClass (top 13) 0
def As:e8 ["self","words","row"] 3 nh:=32#0
end
set_option genInjectivity false
set_option genSizeOf false
structure X0 where
 JQ:Addr
 JR:FuncData
 JS:Addr
 JT:FuncData
 Nk:Addr
 Nl:FuncData
 Nm:Addr
 Nn:FuncData
 vy:Addr
 vz:FuncData
 JU:Addr
 JV:FuncData
 Rb:Addr
 Rc:FuncData
 GX:Addr
 GY:FuncData
 En:Addr
 Eo:FuncData
 GZ:Addr
 G0:FuncData
 Ep:Addr
 Er:FuncData
 w7:Addr
 w9:FuncData
 Rf:Addr
 Rg:FuncData
 Wc:Addr
 Wd:FuncData
 Np:Addr
 Nq:FuncData
 Es:Addr
 Et:FuncData
 yx:Addr
 yy:FuncData
 Rh:Addr
 Ri:FuncData
 Rj:Addr
 Rk:FuncData
 BC:Addr
 BD:FuncData
 Eu:Addr
 Ew:FuncData
 Nr:Addr
 Nt:FuncData
 xg:Addr
 xh:FuncData
 G1:Addr
 G2:FuncData
 Rl:Addr
 Rm:FuncData
 Nu:Addr
 Nv:FuncData
 BE:Addr
 BF:FuncData
 Rn:Addr
 Ro:FuncData
 Rp:Addr
 Rq:FuncData
 BG:Addr
 BH:FuncData
 Nx:Addr
 Ny:FuncData
 Rr:Addr
 Rt:FuncData
 Nz:Addr
 NB:FuncData
 xj:Addr
 xm:FuncData
 Ex:Addr
 Ey:FuncData
 yz:Addr
 yC:FuncData
 xn:Addr
 xo:FuncData
 xq:Addr
 xr:FuncData
 yD:Addr
 yE:FuncData
 Ez:Addr
 EA:FuncData
 G3:Addr
 G4:FuncData
 NC:Addr
 ND:FuncData
 JW:Addr
 JX:FuncData
 NF:Addr
 NG:FuncData
 NH:Addr
 NI:FuncData
 G5:Addr
 G6:FuncData
 BI:Addr
 BJ:FuncData
 EB:Addr
 EC:FuncData
 NJ:Addr
 NK:FuncData
 BK:Addr
 BL:FuncData
 BN:Addr
 BO:FuncData
 BP:Addr
 BQ:FuncData
 Au:Addr
 Av:FuncData
 Aw:Addr
 Ax:FuncData
 BR:Addr
 BS:FuncData
 G7:Addr
 G8:FuncData
 ED:Addr
 EF:FuncData
 G9:Addr
 Hf:FuncData
 EG:Addr
 EH:FuncData
 xu:Addr
 xw:FuncData
 kM:Addr
 pC:FuncData
 uq:Addr
 ur:FuncData
 Hg:Addr
 Hh:FuncData
 Hi:Addr
 Hj:FuncData
 Ay:Addr
 Az:FuncData
 Hl:Addr
 Ho:FuncData
 AA:Addr
 AB:FuncData
 EI:Addr
 EJ:FuncData
 yF:Addr
 yG:FuncData
 JY:Addr
 JZ:FuncData
 Hq:Addr
 Hr:FuncData
 Hs:Addr
 Ht:FuncData
 jS:Addr
 BU:FuncData
 pD:Addr
 J0:FuncData
 pF:Addr
 J1:FuncData
 sE:Addr
 NL:FuncData
 sF:Addr
 NN:FuncData
 jT:Addr
 BV:FuncData
 jU:Addr
 BW:FuncData
 J2:Addr
 J3:FuncData
 J4:Addr
 J5:FuncData
 J6:Addr
 J7:FuncData
 NO:Addr
 NP:FuncData
 NQ:Addr
 NR:FuncData
 EK:Addr
 EL:FuncData
 J8:Addr
 J9:FuncData
 Ka:Addr
 Kc:FuncData
 rq:Addr
 ry:FuncData
 Hu:Addr
 Hv:FuncData
 NS:Addr
 NT:FuncData
 Kd:Addr
 Ke:FuncData
 X3:Addr
 X4:FuncData
 lM:Addr
 lN:FuncData
 jV:Addr
 ni:FuncData
 BX:Tok
 gQ:Addr
 gi:Addr
 eV:Addr
 uv:Addr
 xx:Addr
 nZ:Addr
 rz:Addr
 vA:Addr
 xy:Addr
 rA:Addr
 AD:Addr
 bE:Addr
 aY:Addr
 pG:Addr
 pH:Addr
 Ru:Addr
 Hw:Addr
 di:Addr
 EM:Addr
 bg:Addr
structure Txt(P:Program)(w:World)(base:Heap)(K:bY)(mg:Bg)(a:X0):Prop where
 pI:Dn K mg "made_web" tX a.JQ a.JR ["points","ties"]
 uw:Dn K mg "made_tie" tY a.JS a.JT ["points","tie"]
 jD:Dn K mg "has_tie" wG a.Nk a.Nl ["tie_set","tie"]
 gv:Dn K mg "ties_in" wH a.Nm a.Nn ["tie_set"]
 ji:Dn K mg "set_of" z5 a.vy a.vz ["web","ties"]
 jE:Dn K mg "all_ties" tZ a.JU a.JV ["web"]
 vB:Dn K mg "is_set" z6 a.Rb a.Rc ["web","number"]
 kg:Dn K mg "check_set" qQ a.GX a.GY ["web","tie_set"]
 jj:Dn K mg "triples_in" oY a.En a.Eo ["web","tie_set"]
 mJ:Dn K mg "length_of" qR a.GZ a.G0 ["web","tie_set"]
 kN:Dn K mg "odd_points" oZ a.Ep a.Er ["web","tie_set"]
 fQ:Dn K mg "drawn_together" jw a.w7 a.w9 ["leasts","one","other"]
 rB:Dn K mg "pieces" z7 a.Rf a.Rg ["web","tie_set"]
 Kf:Dn K mg "rank" JI a.Wc a.Wd ["web"]
 xA:Dn K mg "is_even" wI a.Np a.Nq ["web","tie_set"]
 pJ:Dn K mg "check_even" o4 a.Es a.Et ["web","tie_set"]
 gj:Dn K mg "forest_trails" kr a.yx a.yy ["web"]
 AE:Dn K mg "forest" z8 a.Rh a.Ri ["web"]
 vC:Dn K mg "chords" z9 a.Rj a.Rk ["web"]
 nj:Dn K mg "ring_closed" mZ a.BC a.BD ["web","trails","chord"]
 kO:Dn K mg "chord_ring" o5 a.Eu a.Ew ["web","tie"]
 xB:Dn K mg "is_ring" wK a.Nr a.Nt ["web","tie_set"]
 jF:Dn K mg "is_ring_number" jx a.xg a.xh ["web","number"]
 mK:UA K mg "by_length" qT a.G1 a.G2 ["web","rings"] a.Hw a.di
 AF:Dn K mg "tie_at" Aa a.Rl a.Rm ["web","tie_set","point"]
 xC:Dn K mg "far_end" wL a.Nu a.Nv ["web","tie","point"]
 nk:Dn K mg "ring_within" m3 a.BE a.BF ["web","even"]
 AG:Dn K mg "parted" Ad a.Rn a.Ro ["web","tie_set"]
 AH:Dn K mg "common" Ae a.Rp a.Rq ["one","other"]
 jW:Dn K mg "bears_oddly" m4 a.BG a.BH ["tie_set","marks"]
 xD:Dn K mg "is_side" wM a.Nx a.Ny ["web","side"]
 AI:Dn K mg "cut_of" Ag a.Rr a.Rt ["web","side"]
 sG:Dn K mg "side_of" wN a.Nz a.NB ["web","tie_set"]
 jG:Dn K mg "steps_by_point" jy a.xj a.xm ["web","marks"]
 kP:UA K mg "least_ways" o7 a.Ex a.Ey ["web","marks","start"] a.EM a.bg
 iF:Dn K mg "length_of_way" ku a.yz a.yC ["way"]
 jH:Dn K mg "worths_of_ways" jz a.xn a.xo ["ways"]
 h9:Dn K mg "all_least_ways" jA a.xq a.xr ["web","marks"]
 iG:Dn K mg "worths_of_all" kA a.yD a.yE ["ways"]
 pL:Dn K mg "worths_for" o8 a.Ez a.EA ["web","marks"]
 mL:Dn K mg "least_odd" qU a.G3 a.G4 ["web","marks"]
 xE:Dn K mg "reduced" wQ a.NC a.ND ["rows","tie_set"]
 ux:Dn K mg "with_row" t7 a.JW a.JX ["rows","added"]
 sH:Dn K mg "rows_of" wR a.NF a.NG ["sets"]
 xF:Dn K mg "is_base" wU a.NH a.NI ["web","rings"]
 rC:Dn K mg "marks_for" qW a.G5 a.G6 ["web","rings"]
 jX:Dn K mg "least_rings" m5 a.BI a.BJ ["web"]
 pM:Dn K mg "least_base" o9 a.EB a.EC ["web"]
 xG:Dn K mg "lengths" wW a.NJ a.NK ["web"]
 nq:Dn K mg "row_to_lead" m6 a.BK a.BL ["rows","step"]
 nu:Dn K mg "row_cleared" m7 a.BN a.BO ["row","lead_row","step","divisor"]
 nv:Dn K mg "determinant" m8 a.BP a.BQ ["table"]
 lO:Dn K mg "ties_between" lF a.Au a.Av ["web","one","other"]
 lP:Dn K mg "points_table" lG a.Aw a.Ax ["web"]
 ny:Dn K mg "forest_many" m9 a.BR a.BS ["web"]
 rD:Dn K mg "check_row" q4 a.G7 a.G8 ["web","row"]
 pN:Dn K mg "check_rest" pe a.ED a.EF ["rest"]
 rE:Dn K mg "is_nought" q5 a.G9 a.Hf ["number","rest"]
 pO:Dn K mg "ties_amiss" pA a.EG a.EH ["web","row","rest","heights"]
 jI:Dn K mg "forest_heights" jC a.xu a.xw ["web","row"]
 vD:S0 K "heights_of" "heights_of" h8 a.kM a.pC [.int 0 a.BX]
 EN:mg "heights_of"=20#a.kM
 EO:Binds K a.pC ["web","row","rest"] []
 dh:Dn K mg "row_text" t8 a.uq a.ur ["word","numbers"]
 kh:Dn K mg "is_number" q6 a.Hg a.Hh ["word"]
 rF:Dn K mg "is_signed" q7 a.Hi a.Hj ["word"]
 gR:Dn K mg "numbers_read" lH a.Ay a.Az ["words"]
 rG:Dn K mg "web_grown" q8 a.Hl a.Ho ["web","words"]
 lQ:Dn K mg "ascend_below" lI a.AA a.AB ["numbers","bound"]
 pP:Dn K mg "ties_asked" pB a.EI a.EJ ["web","words"]
 kE:Dn K mg "heights_asked" kD a.yF a.yG ["web","words"]
 uy:Dn K mg "asked_by" t9 a.JY a.JZ ["web","words"]
 mO:Dn K mg "read_page" q9 a.Hq a.Hr ["text"]
 gT:Dn K mg "ring_text" rf a.Hs a.Ht ["ring"]
 jY:Dn K mg "lengths_row" nc a.jS a.BU ["web","numbers"]
 pQ:Dn K mg "base_row" ua a.pD a.J0 ["web","numbers"]
 pR:Dn K mg "even_row" uc a.pF a.J1 ["web","numbers"]
 sI:Dn K mg "cut_row" wY a.sE a.NL ["web","numbers"]
 sJ:Dn K mg "odd_row" wZ a.sF a.NN ["web","numbers"]
 jZ:Dn K mg "heights_row" nf a.jT a.BV ["web","numbers"]
 j0:Dn K mg "forests_row" ng a.jU a.BW ["web","numbers"]
 uz:Dn K mg "answered" ud a.J2 a.J3 ["text"]
 lR:Dn K mg "_law_cell" ue a.J4 a.J5 ["script","k"]
 iS:Dn K mg "_law_stir" uf a.J6 a.J7 ["cell","k"]
 sL:Dn K mg "_law_tie" w4 a.NO a.NP ["c","points","times"]
 xH:Dn K mg "_law_web" w5 a.NQ a.NR ["script","most"]
 pT:Dn K mg "_law_row_of" jh a.EK a.EL ["web","cell","great"]
 uA:Dn K mg "_law_page" ug a.J8 a.J9 ["script","most"]
 uB:Dn K mg "_law_text" uh a.Ka a.Kc ["web","rows"]
 gU:Dn K mg "_law_row_of_refusal" gO a.rq a.ry ["caught"]
 mP:Dn K mg "_law_asked" rm a.Hu a.Hv ["way","text"]
 sM:Dn K mg "_law_put" w6 a.NS a.NT ["text","cell","k"]
 lS:Dn K mg "_law_fine" um a.Kd a.Ke ["text"]
 UH:Dn K mg "law" Ra a.X3 a.X4 ["script"]
 AJ:IT K "__init__" "NotEven.__init__" lK a.lM a.lN
 xi_NotEven:qM K a.bE a.gQ a.lM "point"
 AK:Binds K a.lN ["self","words","point"] []
 BY:IT K "__init__" "NoText.__init__" nh a.jV a.ni
 xi_NoText:qM K a.aY a.gQ a.jV "row"
 BZ:Binds K a.ni ["self","words","row"] []
 ER:mg "ValueError"=none
 L0:mg "all"=none
 gV:mg "enumerate"=none
 Rv:mg "int"=none
 cB:mg "isinstance"=none
 dm:mg "len"=none
 xJ:mg "list"=none
 Rw:mg "max"=none
 Dg:mg "min"=none
 c6:mg "range"=none
 Hx:mg "sorted"=none
 rH:mg "str"=none
 X5:mg "sum"=none
 mQ:mg "tuple"=none
 Hy:mg "zip"=none
 B0:∃t,mg "MOST_POINTS"=some (.int 10 t)
 Hz:∃t,mg "MOST_TIES"=some (.int 24 t)
 NU:∃t,mg "LONGEST"=some (.int 1000000000000000000000000000000 t)
 AL:∃t,mg "MOST_FIGURES"=some (.int 60 t)
 NV:∃t,mg "FIGURES"=some (.str "0123456789" t)
 ES:mg "BARE_WORDS"=20#a.pG
 ET:∀H,aZ K H a.pG [.str "lengths",.str "base",.str "forests"]
 EU:mg "TIES_WORDS"=20#a.pH
 EV:∀H,aZ K H a.pH [.str "even",.str "cut",.str "odd"]
 We:mg "ROWS"=20#a.Ru
 Wf:QZ P w K a.Ru [("lengths",a.jS),("base",a.pD),("even",a.pF),("cut",a.sE),("odd",a.sF),("heights",a.jT),("forests",a.jU)]
 rJ:mg "RingError"=20#a.gQ
 HA:mg "BadWeb"=20#a.gi
 Rx:mg "BadSet"=20#a.eV
 Kg:mg "BadPoint"=20#a.uv
 NW:mg "NotRing"=20#a.xx
 NX:mg "NoChord"=20#a.nZ
 Ry:mg "NoBase"=20#a.rz
 Rz:mg "NoSuch"=20#a.vA
 NY:mg "TooMany"=20#a.xy
 RA:mg "BadRow"=20#a.rA
 RB:mg "NoDeed"=20#a.AD
 xK:mg "NotEven"=20#a.bE
 HB:mg "NoText"=20#a.aY
 RC:∀h:Heap,K.In h->73#mg->PyProof.Rows.OwnCls "BadSet" a.eV uK "ValueError.__new__" mg h
 NZ:∀h:Heap,K.In h->73#mg->PyProof.Rows.OwnCls "NoChord" a.nZ uK "ValueError.__new__" mg h
 RD:∀h:Heap,K.In h->73#mg->PyProof.Rows.OwnCls "NoBase" a.rz uK "ValueError.__new__" mg h
 n5:∀h:Heap,K.In h->73#mg->PyProof.Rows.OwnCls "BadWeb" a.gi uK "ValueError.__new__" mg h
 RE:∀h:Heap,K.In h->73#mg->PyProof.Rows.OwnCls "BadRow" a.rA uK "ValueError.__new__" mg h
 X6:∀h:Heap,K.In h->73#mg->PyProof.Rows.OwnCls "NoSuch" a.vA uK "ValueError.__new__" mg h
 N1:tO K a.bE
 WK:228#(PySem.W.exmOne K (.ref a.bE) (.ref a.gQ))
 Wg:228#(PySem.W.kitOne K (.ref a.bE) (.type "ValueError"))
 q_NotEven_BadWeb:62#(.ref a.gi)
 q_NotEven_BadSet:62#(.ref a.eV)
 q_NotEven_BadPoint:62#(.ref a.uv)
 q_NotEven_NotRing:62#(.ref a.xx)
 q_NotEven_NoChord:62#(.ref a.nZ)
 q_NotEven_NoBase:62#(.ref a.rz)
 q_NotEven_NoSuch:62#(.ref a.vA)
 q_NotEven_TooMany:62#(.ref a.xy)
 q_NotEven_BadRow:62#(.ref a.rA)
 q_NotEven_NoDeed:62#(.ref a.AD)
 q_NotEven_NotEven:228#(PySem.W.kitOne K (.ref a.bE) (.ref a.bE))
 q_NotEven_NoText:62#(.ref a.aY)
 fD:tO K a.aY
 RG:228#(PySem.W.exmOne K (.ref a.aY) (.ref a.gQ))
 N2:228#(PySem.W.kitOne K (.ref a.aY) (.type "ValueError"))
 q_NoText_BadWeb:63#(.ref a.gi)
 q_NoText_BadSet:63#(.ref a.eV)
 q_NoText_BadPoint:63#(.ref a.uv)
 q_NoText_NotRing:63#(.ref a.xx)
 q_NoText_NoChord:63#(.ref a.nZ)
 q_NoText_NoBase:63#(.ref a.rz)
 q_NoText_NoSuch:63#(.ref a.vA)
 q_NoText_TooMany:63#(.ref a.xy)
 q_NoText_BadRow:63#(.ref a.rA)
 q_NoText_NoDeed:63#(.ref a.AD)
 q_NoText_NotEven:63#(.ref a.bE)
 q_NoText_NoText:228#(PySem.W.kitOne K (.ref a.aY) (.ref a.aY))
 mR:∀h:Heap,K.In h->73#mg->PyProof.Rows.OwnCls "RingError" a.gQ uK "ValueError.__new__" mg h
 N3:228#(PySem.W.exmOne K (.ref a.gi) (.ref a.gi))
 Kh:228#(PySem.W.exmOne K (.ref a.bE) (.ref a.bE))
section
variable {P:Program}{w:World}{K:bY}{mg:Bg}{base:Heap}{a:X0}{x:Str}{st:Stmt}{f c0 p0:Addr}{fd:FuncData}{ps:List Str}
abbrev Ok(_:317#a)(_:Dn K mg x st f fd ps)(k:Nat)(sp:Sp):=i5 P w K mg base uQ k f fd ps sp
abbrev Fx(_:317#a)(_:Dn K mg x st f fd ps)(k:Nat)(sp:Sp):=i5 P w K mg base (Cy P w) k f fd ps sp
abbrev OkL(_:317#a)(_:UA K mg x st f fd ps c0 p0)(k:Nat)(sp:Sp):=i5 P w K mg base uQ k f fd ps sp
end
section
variable {P:Program}{w:World}{base:Heap}{K:bY}{mg:Bg}{a:X0}
def Txt.EW(T:317#a):PySem.W.keepIn K (.ref a.kM)=true:=T.vD.kp
end
def Kl:Sp:=114#(∃(S:Int) (k:Nat),G=[.int S,.int (k:Int)]/\Q (.bl (bit S k)) H)
def Km:Sp:=114#(∃m:Nat,G=171#m/\47#(m:Int)<=1000/\∀D Y,255#201#(Y D=1#(aC (251#0))))
def HC:Sp:=114#(∃w p J,G=[.ref w]/\130#0/\R9 p J/\287#(155#0-1))
def N4:Sp:=114#(∃w p J S,136#S/\130#0/\R9 p J/\Q (.bl (11#(0<=S/\S<155#0))) H)
def rK(ts:List ko)(S:Int)(D:Prop)(R:Nat->Prop):Prop:=(∃m:Nat,S=(m:Int)/\m<2^ts.length/\R m)\/((S<0\/2^ts.length<=S)/\D)
def EX(C:Addr):Sp:=λG H Q E=>∃w p J S,136#S/\130#0/\R9 p J/\rK J S (E (.ref C) none H) λ_=>Q .eM H
def B3(C:Addr):Sp:=λG H Q E=>∃w p J S,136#S/\130#0/\R9 p J/\rK J S (E (.ref C) none H) λm =>
 ∀D o Y,255#(Y D=some (.lst o)->201#(Paired (TupAt Y) o ((251#0).map (dY J))))
def B4(C:Addr):Sp:=λG H Q E=>∃w p J S,136#S/\130#0/\R9 p J/\rK J S (181#(.ref C)) λm =>
 ∀D Y,ai H Y->201#(Y D=1#(aC (nN p J (m:Int))))
def Kn(C:Addr):Sp:=λG H Q E=>∃w p J S,136#S/\130#0/\R9 p J/\rK J S (181#(.ref C)) λm=>99#(.bl (11#(nN p J (m:Int)=[])))
section
variable {P:Program}{w:World}{K:bY}{mg:Bg}{base:Heap}{a:X0}(T:317#a)
def dM:Ok T T.jD 1 Kl:=by
 show T.jD.ok JH 2#0
 .revert h;show br λS k L q=>?_;subst L
  show 84#(ay (cY cT (aB OR (aB OQ (pv 0) (pv 1)) ao) ao (aH _)));show(0#(bT ⟨(by lia),bT ⟨rfl,?_⟩⟩))
  rw[l!,Vt];show q
def bX:Ok T T.gv 2 Km:=by
 have dM:=dM T;show T.gv.ok z4 2#0
 .revert h;show aG λm a d k=>?_;subst a
  show 84#(ay (ck (own:=["tie"]) (fq:=["tie_set"]) (js:=[0]) (fb z4) rfl (111#(O5 PySem.F.plainAttrs_int adl adm Lr (pv 0))) 6#(154#(["tie","tie_set"])) 6#(iD (eO (aF dM P T.jD.c aL 269#(pv 0)))) 6#(pv 0)))
  show 146#4#46#(ah rx (85#(λD r=>fG (lo:=0) (m:=47#(m:Int)) (tQ (bit (m:Int)) H D) (.start r) (λi I Z _ p=>p.len) (dl (x!.mpr d)) ?_ ?_)))
  .intro i I Z Y p;rw[k?];show 46#0#(aV (m:Int) i rx 232#0);cases U:bit (m:Int) i with
   | true=>show 124#(p.yes r 186#0 U)
   | false=>show p.no 186#0 U
  .intro I Z p;show k D Z r p.1 (by rw[p.2.1,p.2.2];rfl)
def ek:Ok T T.jE 1 HC:=by
 show T.jE.ok GO 2#0
 .revert h;show dX λB=>aS λp J k j W q=>?_;subst k
  show 84#(ay (aB jt (aB qx ao (44#70#0)) ao));show aA (λb f R a M=>?_) j.ex
  have C:=M.length;have n:=W.len;show 14#(188#(qm rx (284#a) (bT ⟨85#3#0,bT (?_)⟩)))
  rw[l!,C,Int.one_mul];show q
def n6:Ok T T.vB 2 N4:=by
 have ek:=ek T;show T.vB.ok Nd 2#0
 .revert h;show fX λB p=>aS λJ S o j W q=>?_;subst o
  show 84#(ay (qu (cY FG (pv 1) ao (aH _)) (oj (cY OU (pv 1) (aF ek P T.jE.c aL 131#0) (aH _)))));show 192#28#(gE (λd=>?_) (λd=>?_))
  .have d:0<=S:=lZ d;show(0#(bC B p J rx j W (aq _ _ rx rx ?_)));have e:11#(S<=155#0-1)=11#(0<=S/\S<155#0):=q?.mpr ⟨λz=>⟨d,by lia⟩,λz=>by lia⟩
   rw[<-e]at q;show q
  .have d : ¬ 0<=S:=λz=>d (eK z)
   rw[fV (λz=>d z.1)]at q
   show q
def fE:Fx T T.kg 3 (EX a.eV):=by
 have n6:=n6 T;show T.kg.Cz Eg 2#0
 .revert h;show fX λB p=>aS λJ S O j W q=>?_;subst O
  show 84#(bD (iL (eO (aF n6 P T.vB.c aL 27#(pv 1)))) (104#T.RC) aO)
  show oX ?_;intro v;show(0#⟨B,(bC p J S rx j W ?_)⟩);have b:((2:Int)^J.length)=7#(155#0):=by simp
  rcases q with⟨m,rfl,d,q⟩|⟨R,q⟩
  .rw[eK 178#0]
   show 14#(cZ q)
  .rw[fV (by lia)]
   show 14#(eu 18#q)
def eI:Fx T T.jj 4 (B3 a.eV):=by
 have fE:=fE T;have bX:=bX T;show T.jj.Cz tG 2#0
 .revert h;show fX λc p=>aS λJ S b u W q=>?_;subst b
  show af _ (ae (cg (aF fE P T.kg.c dJ.passes 27#(pv 1)))
   (ak (ay (ck (own:=["tie"]) (fq:=["web"]) (js:=[0]) (fb tG) rfl (r8 K (aF bX P T.gv.c aL (bB (pv 1)))) 6#(154#(["tie","web"])) 75#0 6#(bR (Mu K) (ee K (pv 1)) (pv 0)))))) ?_
  show gp ?_;intro b;show(0#⟨c,(bC p J S rx u W ?_)⟩);rcases q with⟨m,rfl,d,q⟩|⟨h,q⟩
  .show .inl (av m rx d ?_);have n:=W.len;have U:47#(m:Int)<=J.length:=bits_le d;show 14#(av m rx (by lia) (λL C _ F Y=>av L rx 29#Y λD r=>?_))
   show aA (λb f R X M=>?_) ((u.same F).ex)
   have b:=M.length;show bQ (xs:=aC (251#0)) (λi I Z=>ai C Z/\19#Z/\Paired (TupAt Z) I (((251#0).take i).map (dY J))/\I.length=i) (iI (ai.new r) aa .nil rx) ?_ ?_ ?_ ?_
   .intro i I Z _;show mj λN g y w=>?_
    show bj 53#(N _ _ Y) g (v_ w)
   .rw[aD];show dl (x!.mpr (Ω (N! _ _) ?_));rw[K!]
    lia
   .intro i x I Z O;show mj λN g y w=>?_
    show aj (λk B b=>?_) (cS O);subst b
    have e:k<J.length:=oA d (iu B);have l:k<f.length:=by lia
    show dX (λt=>bK λe c b d=>?_) (Paired.tN M (i:=k) (x:=f[k]) (by simp[l]))
    have o:dY J k=t:=by
     unfold dY;rw[B!,e];rfl
    show 4#(dz 97#(N _ _ R) ir 14#(dz (v:=f[k]) 97#(N _ _ X) (aE (j:=k) (by simp[l])) (?_)))
    rw[b];show dF g (N.put r) aa ?_ (by rw[U',S!,w])
    rw[E!,B,o!];show Paired.snoc (244#(z.tups (fT.put g))) ?_
    rw[o];show af c rx (fT.put g _ _ (N _ _ d))
   .intro I Z;show mj λN g y w=>?_
    rw[aD,I!]at y;show q D I Z (F.free r) (F.trans N) g y
  .show .inr ⟨h,q⟩
def ia:Fx T T.kN 5 (B4 a.eV):=by
 have eI:=eI T;show T.kN.Cz gq λ_ A _ s H G Q E hr h=>?_
 .revert h;show fX λwb p=>aS λJ S Wh hw W q=>?_;subst Wh
  show af _ (ae (dB (i:=2) gq.nd rx (Or.inr rx) (aB IS (bu (bB ao)) 70#0))
   (ae (uS rx (r8 K (aF eI hr T.jj.c dJ.passes 27#(pv 1))) (yM K (n:=3) rx (aM (bq 3 gq.nd) (aM (bq 4 gq.nd) (aM (bq 5 gq.nd) cX))))
   (ae (K5 (pv 2) (pv 3) (getL K) ao K8 set_list)
   (ak (K5 (pv 2) (pv 4) (getL K) ao K8 set_list))))
   (ak (ay (ck (own:=["point"]) (fq:=["ends"]) (js:=[2]) (fb gq) rfl (111#70#0) 6#(154#(["point","ends"])) 6#(iD 170#266#123#(pv 0)) 6#(pv 0)))))) ?_
  show Bs ?_;intro v UI Wi X7;show aA (λb f R h2 h3=>?_) (id hw.ex)
  have wp:=W.pts;show 18#(λl0 hl0=>?_)
  have g:ai H (η H l0 (.lst [.int 0])):=ai.new hl0;show 14#(dz 97#(g _ _ R) gJ (kZ l0 (p:Int) (ah rx 46#(dF aa (by lia) (by lia) (by rw[l!];change 1*p<=sizeLine;show 74#0) λe he=>?_))))
  have F:=g.trans (ai.new (o:=301#0) he);have YR:η (η H l0 (.lst [.int 0])) e (301#0) e=1#(aP (List.replicate p 0)):=by
   rw[aa,l!,PB]
  generalize η (η H l0 (.lst [.int 0])) e (301#0)=H1 at F YR;have heH:H e=none:=g.free he;show(0#⟨wb,(bC p J S rx (hw.same F) W ?_)⟩);rcases q with⟨m,rfl,d,q⟩|⟨hS,q⟩
  .show .inl (av m rx d (λL ys Z hLn N hL pr=>av L rx 29#hL ?_))
   have s12:=F.trans N;have heL:e≠L:=cf YR hLn;have hyl:ys.length<=24:=by
    rw[pr.length,Δ];have U:47#(m:Int)<=J.length:=bits_le d;have wl:=W.len;have:=N! (bit (m:Int)) 31#(47#(m:Int));rw[K!]at this;show Ω this (by lia)
   show iX (K:=K) (a:=L) (xs:=ys) (λi M H3=>∃v1 u v3,M=[20#wb,8#(m:Int),some (.ref e),v1,u,v3]/\(∀x o,Z x=some o->x≠e->H3 x=some o)/\H3 e=1#(aP ((((251#0).map (dY J)).take i).foldl stepT (List.replicate p 0))))
    (cC none none none rx (λ_ _ z _=>z) (N _ _ YR)) (by intro i M H3 _;show bz λ_ _ _ _ z _=>?_;show aK.of (z _ _ hL (e! heL))) ?_ ?_
   .intro i y D' M H3 Y;show bz λv1 u v3 X8 l X9=>?_;subst X8
    show dX (λt=>bK λht c RH hc=>?_) (Paired.tN pr Y);subst RH
    have hce:c≠e:=cP hc (N _ _ YR) 30#0
    have hc3:=l _ _ hc hce;have htm:t∈J:=by
     show aj (λk B RI=>?_) (i!.mp (iu ht));subst RI
     unfold dY;have YS:=oA d B;rw[B!];simp[YS]
    show mj (λa0 a1 b0 b1=>?_) (W.inw.ends t htm)
    obtain⟨t1,C,t3⟩:=t;dsimp only at a0 a1 b0 b1;obtain⟨j1,rfl⟩:=ac8 a0;obtain⟨j2,rfl⟩:=ac8 b0;generalize hE:(((251#0).map (dY J)).take i).foldl stepT (List.replicate p 0)=EE at X9;have hEl:EE.length=p:=by rw[<-hE,v9,R?]
    have hj1:j1<EE.length:=by lia
    have hj2:j2<48#(bump EE (j1:Int)):=by rw[nO];lia
    show bh c _ rx (aZ.of hc3) rx (kZ _ _ 49#0);show(0#(bH e _ j1 _ rx rx (aK.of X9) (jv hj1) (aq _ _ rx rx (bH e _ _ j1 rx rx X9 (sd (by rw[aP,Δ];show hj1)) ?_))))
    rw[zm];show(0#(bH e _ j2 _ rx rx (aK.of aa) (jv hj2) (aq _ _ rx rx (bH e _ _ j2 rx rx aa (sd (by rw[aP,Δ];show hj2)) ?_))))
    rw[zm];show cC _ _ _ rx (λx o z O=>by rw[au O,au O];show l x o z O) ?_
    rw[aa,E!,ht,Y_,hE];rfl
   .intro M H3;show bz λv1 u v3 Wj l X9=>?_;subst Wj
    have hwe:wb≠e:=cf R heH;have WL:ai H H3:=λx o z=>l x o (s12 x o z) (cf z heH)
    have hE:H3 e=1#(aP (mX p J (m:Int))):=by
     rw[X9,l_ (by rw[<-pr.length];show Ξ _),CD d]
    have hEl:48#(mX p J (m:Int))=p:=by rw[CD d,v9,R?]
    show 14#(dz 97#(WL _ _ R) gJ 28#(85#(λD r=>fG (lo:=0) (m:=p) (tQ (λi=>11#((mX p J (m:Int)).getD i 0%2=1)) H3 D) (.start r) (λi I X _ p=>p.len) (74#0) ?_ ?_)))
    .intro i I X Y pk;rw[k?];show 46#0#(fN 53#(pk.1 _ _ hE) (aE (j:=i) (jv (by rw[hEl];show Y))) (bT (bj (jm rx) rx 232#0)))
     rw[SH];cases U:11#((mX p J (m:Int)).getD i 0%2=1) with
     | true=>show 124#(pk.yes r 186#0 U)
     | false=>show pk.no 186#0 U
    .intro I X pk;show q D X (WL.trans pk.1) (by rw[pk.2.1,pk.2.2];rfl)
  .show .inr ⟨hS,q _ F⟩
def xM:Fx T T.xA 6 (Kn a.eV):=by
 have ia:=ia T;show T.xA.Cz JJ 2#0
 .revert h;show fX λB p=>aS λJ S U j W q=>?_;subst U
  show 84#(ay (cY (DH K P.units) (aF ia P T.kN.c dJ.passes 27#(pv 1)) (bu bS) (aH _)));show(0#⟨B,(bC p J S rx j W ?_)⟩);rcases q with⟨m,rfl,d,q⟩|⟨R,q⟩
  .show .inl (av m rx d (λD b F r=>18#(λl C=>?_)))
   have N:ai b (η b l 185#0):=ai.new C;show dU _ _ (.lst 53#(N _ _ r) (i9 _)) (.lst (aK.of aa) .nil) (iV _) rx ?_;rw[DK];show q _ (F.trans N)
  .show .inr ⟨R,q⟩
def RJ:Sp:=λG H Q _=>∃(l:Addr) (L:Nat->Nat) (p u v:Nat),G=[.ref l,.int (u:Int),.int (v:Int)]/\H l=1#(jc L p)/\p<=10/\u<p/\v<p/\
 ∀D Y,255#201#(Y D=1#(jc (RM.join L u v) p))
def N5(C:Addr):Sp:=λG H Q E=>∃w p J,∃g:aJ p J,∃S,136#S/\130#0/\rK J S (181#(.ref C)) λm =>
 ∀D o Y,255#(Y D=some (.lst o)->201#(Paired (Ur D H Y) o ((fB (eJ p J g m) p).map (pieceOf (eJ p J g m) p))))
def TJ:Sp:=114#(141#(G=[.ref w]/\130#0/\99#(65#g.N.dR.length)))
def cM:Ok T T.fQ 1 RJ:=by
 show T.fQ.ok gD 2#0
 .revert h;show ki λl L p u v=>dI λb C t a U q=>?_;subst b
  show af _ (ae (dB (i:=3) gD.nd rx (Or.inr rx) (bI (r6 rx) (by rfl) T.Dg T_ (bW 267#(pv 1) 267#(pv 2))))
   (ae (dB (i:=4) gD.nd rx (Or.inr rx) (bI (vU rx) (by rfl) T.Rw adC (bW 267#(pv 1) 267#(pv 2))))
   (ak (ay (ck (own:=["least"]) (fq:=["low","high"]) (js:=[3,4]) (fb gD) rfl (r8 K (pv 0)) 6#(154#(["least","low","high"])) 75#0 6#(iw (az cT (pv 0) (pv 2) (aH _)) (pv 1) (pv 0))))))) ?_
  show jf ?_;intro c f;show(0#(fN (aK.of C) (aE (j:=u) (cV a)) 14#(ah rx (fN (aK.of C) (aE (j:=v) (cV U)) (aV _ _ rx ?_)))));show(0#(fN (aK.of C) (aE (j:=u) (cV a)) 14#(ah rx (fN (aK.of C) (aE (j:=v) (cV U)) (aV _ _ rx ?_)))));show 14#(av l rx 29#C (λD r=>bQ (xs:=jc L p) (DN (RM.join L u v) H D) (.start r) (λi I Z _ z=>⟨aK.of (z.1 _ _ C),z.len⟩) (by rw[iA];show 74#0) ?_ ?_))
  .intro i x I Z O z;obtain⟨Y,rfl⟩:=uZ O;show 46#0#4#(?_);rw[DO,jd]
   by_cases d:L i=184#max
   .rw[eK d];show eu 14#(z.next r 186#0 ?_);rw[SN];unfold RM.join;rw[ο d]
   .rw[fV d];show cZ 14#(z.next r 186#0 ?_);unfold RM.join;rw[ξ d]
  .intro I Z z;rw[iA]at z;show q D Z r z.1 (by rw[z.2.1,z.2.2])
def jk:Fx T T.rB 5 (N5 a.eV):=by
 have eI:=eI T;have cM:=cM T;show T.rB.Cz hU 2#0
 .revert h;show gZ λE p J=>aA λg S b c q=>?_;subst b
  show af _ (ae (dB (i:=2) hU.nd rx (Or.inr rx) (bx (Pu rx) (by rfl) T.xJ C_ (bB (bx zk (by rfl) T.c6 ac9 (bB 70#0)))))
   (ae (uS rx (r8 K (aF eI P T.jj.c dJ.passes 27#(pv 1))) (yM K (n:=3) rx (aM (bq 3 hU.nd) (aM (bq 4 hU.nd) (aM (bq 5 hU.nd) cX))))
   (ak (dB (i:=2) hU.nd rx (Or.inr rx) (aF cM P T.fQ.c aL (aN (pv 2) (bW (pv 3) (pv 4)))))))
   (ae (bF 6 hU.nd (bu bS))
   (ae (uS rx (111#70#0) (yJ (i:=7) hU.nd rx (Or.inr rx))
   (ak (bD (az cT 122#(pv 7) (pv 7) (aH _)) (ak (263#(dN C! L! M! cy (pv 6) (bB (ck (own:=["point"]) (fq:=["leasts","start"]) (js:=[2,7]) (fb hU) rfl (111#70#0) 6#(154#(["point","leasts","start"])) 6#(iD (az cT 123#(pv 0) (pv 2) (aH _))) 6#(pv 0)))))) aO)))
   (ak (ay (pv 6))))))) ?_
  show Nf ?_;intro v b d e f h i;show aA (λb f R d e=>?_) (id c.ex)
  have W:=g.Fv;have wp:=W.pts;have b:=W.len;show 14#(dz (aZ.of R) gJ 28#(λr P=>bh r p rx aa (by lia) λl C=>?_))
  have F:ai H (η 300#r l (.lst (v7 p))):=(ai.new P).trans (ai.new C);have A:η 300#r l (.lst (v7 p)) l=1#(jc (λx=>x) p):=aa
  generalize η 300#r l (.lst (v7 p))=b at F A;show(0#⟨E,(bC p J S rx (c.same F) W ?_)⟩);rcases q with⟨m,rfl,d,q⟩|⟨Q,q⟩
  .show .inl (av m rx d (λc o Z b N e C=>av c rx 29#e ?_))
   have b:o.length<=24:=by
    rw[C.length,Δ];have U:47#(m:Int)<=J.length:=bits_le d;have:=N! (bit (m:Int)) 31#(47#(m:Int));rw[K!]at this;show Ω this (by lia)
   show iX (K:=K) (a:=c) (xs:=o) (λi M w=>∃b r s v,M=[some (.ref E),8#(m:Int),240#0,r,s,v,none,none]/\ai Z w/\w b=1#(jc (ya p J g ((251#0).take i)) p))
    ⟨l,(cC none none none rx 186#0 (N _ _ A))⟩ (by intro i M w _;show dX λ_=>bz λ_ _ _ _ z _=>?_;show aK.of (z _ _ e)) ?_ ?_
   .intro i y G M w Y;show dX λb=>bz λr s v c u h=>?_;subst c
    show dX (λt=>bK λe c f L=>?_) (Paired.tN C Y);subst f
    have z:=u _ _ L;rw[j!]at e;show aj (λk B O=>?_) (vN.mp e)
    have e:=oA d (iu B);have U:=Ly (g:=g) e;have l:=Lz (g:=g) e;rw[O]at U l;have t:=g.N.al k e;have I:=g.N.bl k e;show bh c _ rx (aZ.of z) rx (kZ _ _ 49#0);show(0#14#(cD b (ya p J g ((251#0).take i)) p (g.N.a k) (g.N.b k) ?_ h wp t I (λD X e c f=>?_)))
    .rw[<-U,<-l];rfl
    .show⟨D,(cC _ _ _ rx (u.trans c) ?_)⟩;rw[f,E!,B];change _=some (HO.lst (jc (ya p J g ((251#0).take i++[k])) p));rw[I3]
   .intro M w;show dX λb=>bz λr s v c u h=>?_;subst c
    have c:o.length=48#(251#0):=by rw[C.length,Δ]
    rw[c,I!,I4 d]at h;have d:ai H w:=160#u;show 18#(λD f=>?_)
    have c:zw (eJ p J g m) p w D 0 (61#w):=zw.start f;generalize 61#w=X at c;show 14#(dz 97#(c.1 _ _ (d _ _ R)) gJ 28#(bj (by lia) (by lia) ?_))
    show oO (lo:=0) (n:=(p:Int).toNat) (λi M t=>∃l,M=[some (.ref E),8#(m:Int),240#0,r,s,v,214#0,l]/\zw (eJ p J g m) p w D i t) (af none rx c) ?_ ?_
    .intro i G M t Y;show aj λl b c=>?_;subst b
     rw[l!]at Y;rw[k?];have r:=c.1 _ _ h;show(0#(fN (aK.of r) (aE (j:=i) (cV Y)) (ah rx 4#(?_))));rw[jd]
     by_cases P:eJ p J g m i=i
     .rw[eK P];obtain⟨e,L⟩:∃o,t D=some (.lst o):=let⟨_,o,z,_⟩:=c;⟨o,z⟩;show eu (ah rx ⟨100#(aK.of L),ah rx (dz 97#(c.1 _ _ (d _ _ R)) gJ 14#(85#(λB k=>fG (lo:=0) (m:=(p:Int).toNat) (tQ (λx=>11#(eJ p J g m x=i)) t B) (.start k) (λi I b _ y=>y.len) (74#0) ?_ ?_)))⟩)
      .intro x I b O y;rw[l!]at O;rw[k?];show 46#0#(fN 53#(y.1 _ _ r) (aE (j:=x) (cV O)) (ah rx 4#(?_)));rw[jd];cases U:11#(eJ p J g m x=i) with
       | true=>show 124#(y.yes k 186#0 U)
       | false=>show y.no 186#0 U
      .intro I b y;have e:b B=1#(aC (pieceOf (eJ p J g m) p i)):=by rw[y.2.1,y.2.2,l!];rfl
       show aG (λb O A U=>?_) (c.push f P y.1 k e)
       show cF D b _ rx rx O (iN (by lia)) (ah rx (U))
     .rw[fV P];show cZ 14#(c.skip P)
    .intro M t;show aj λl Y c=>?_;subst Y
     rw[l!]at c
     revert c;show Bf λb=>aG λk L B y=>?_
     show 14#(q D k t (d.free f) (d.trans b) L (Paired.imp' (by intro _ _;show dX λe=>mj λO U I z=>?_;show fU e O U (d.free I) z) B))
  .show .inr ⟨Q,q _ F⟩
def Ko:Ok T T.Kf 6 TJ:=by
 have jk:=jk T;have ek:=ek T;show T.Kf.ok TH 2#0
 .revert h;show 285#(aG λg n j q=>?_);subst n
  show 84#(ay (aB eR (aB jt (44#70#0) 70#0) (44#(aF jk P T.rB.c qC 27#(aF ek P T.jE.c aL 131#0)))));show aA (λb f R W M=>?_) (id j.ex)
  have N:=M.length;have a:((2:Int)^J.length-1)=7#(155#0-1):=by
   have h:((2:Int)^J.length)=7#(155#0):=by simp
   have:=I? J.length
   lia
  have d:155#0-1<155#0:=161#(I? J.length)
  show 14#(188#(qm rx (284#W) 28#(dz (aZ.of R) gJ (bT (?_)))));show(0#(bC B p J rx j g.Fv (191#(aq g _ rx j (.inl (av (155#0-1) a d (λD o Y k c r y=>(qm rx (127#r) (bT (?_))))))))))
  have U:=SM (g:=g);have X:o.length=48#(fB (eJ p J g (155#0-1)) p):=by rw[y.length,Δ]
  change Q (.int ((f.length:Int)-(p:Int)+(o.length:Int))) Y;rw[N,X,U];show q Y c
def Kp(C:Addr):Sp:=λG H Q E=>141#(∃S,136#S/\130#0/\rK J S (181#(.ref C)) λm=>99#(.bl (zB p J g m)))
def xN:Fx T T.xB 7 (Kp a.eV):=by
 have xM:=xM T;have jk:=jk T;have bX:=bX T;show T.xB.Cz t6 2#0
 .revert h;show 285#(aA λg S L j q=>?_);subst L
  show af _ (ae (bD (iL (eO (aF xM P T.xA.c dJ.passes 27#(pv 1)))) (ak (ay qf)) aO)
   (ae (iE (i:=2) t6.nd rfl rfl (own:=["piece"]) (fq:=[]) (js:=[]) (fb t6) rfl (r8 K (aF jk P T.rB.c dJ.passes 27#(pv 1))) 6#(154#(["piece"])) 6#(iD (az mu (44#(pv 0)) ao (aH _))) 6#(pv 0))
   (ak (ay (qu (cY cT (44#(pv 2)) ao (aH _)) (oj (cY cT (44#(D9 K (pv 2))) (44#(aF bX P T.gv.c aL (bB (pv 1)))) (aH _)))))))) ?_
  show JK ?_;intro v f b;have W:=g.Fv;have M:=g.p2;have n:=g.len;show(0#⟨B,(bC p J S rx j W ?_)⟩);rcases q with⟨m,rfl,d,q⟩|⟨R,q⟩
  .show .inl (av m rx d (λv F=>232#0))
   by_cases u:nN p J (m:Int)=[]
   .rw[eK u];rw[Ja u]at q;show cZ (0#(191#(aq g _ rx (j.same F) (.inl (av m rx d (λD o Z c N b y=>av D rx 29#b λC n=>?_))))))
    have c:o.length<=10:=by
     rw[y.length,Δ];unfold fB;have:=N! (λx=>11#(eJ p J g m x=x)) 31#p
     rw[K!]at this;show Ω this M
    show bQ (xs:=o) (zD (λl=>11#(1<l.length)) ((fB (eJ p J g m) p).map (pieceOf (eJ p J g m) p)) Z C) (.start n) (λi I w _ f=>⟨aK.of (f.1 _ _ b),f.len⟩) (dZ (by lia)) ?_ ?_
    .intro i x I w O f;show aj (λl c=>dX λb=>mj λY t k U=>?_) (Paired.tN y O);subst Y
     show 4#(qm rx (.inl 53#(f.1 _ _ U)) (bT 232#0));cases X:11#(1<l.length) with
     | true =>
       have e:11#((1:Int)<((aC l).length:Int))=true:=eK (by have:=lZ X;rw[aD];lia)
       change 308#(11#((1:Int)<((aC l).length:Int))=true)
       rw[e];show eu 14#(f.yes n c X (af b rx U))
     | false =>
       have e:11#((1:Int)<((aC l).length:Int))=false:=fV (by have:=of_decide_eq_false X;rw[aD];lia)
       change 308#(11#((1:Int)<((aC l).length:Int))=true)
       rw[e];show cZ (f.no c X)
    .intro I w f;have O:Paired (VA Z) I ((kW (eJ p J g m) p).map (pieceOf (eJ p J g m) p)):=by
      have h:=f.2.2;rw[y.length,I!,List.filter_map]at h;show h
     have x:=O.length;rw[Δ]at x;show 14#(qm rx (127#f.2.1) 4#(?_));have Y:=160#f.1;have c:47#(m:Int)<=J.length:=bits_le d;generalize kW (eJ p J g m) p=c at q O x;cases c with
     | nil =>
       have x:I.length=0:=x;rw[x];show cZ (q w Y)
     | cons s r =>
       cases r with
       | nil =>
         cases O with
         | cons X c =>
           cases c
           revert X;show aj λb k U=>?_;subst k
           show eu 14#(fN (aK.of f.2.1) gJ (qm rx (.inl 53#(f.1 _ _ U)) 28#(av m rx (by lia) (λe z t c b=>(qm rx (127#b) ⟨rfl,?_⟩)))))
           rw[aD,aD,jd];show q z (Y.trans c)
       | cons t r =>
         have x:I.length=r.length+2:=x;have e:decide (V.int 7#I.length=V.int 1)=false:=fV λz=>by
          have:=V.int.inj z
          lia
         rw[e];show cZ (q w Y)
   .rw[fV u];have c:zB p J g m=false:=by
     unfold zB;rw[fV u,_V]
    rw[c]at q;show eu (q v F)
  .show .inr ⟨R,q⟩
def vE:Sp:=114#(141#(∃m:Nat,136#(m:Int)/\130#0/\m<155#0/\g.N.Ring m/\99#(.bl true)))
def jJ:Ok T T.jF 8 vE:=by
 have n6:=n6 T;have xN:=xN T;show T.jF.ok vj 2#0
 .revert h;show 285#(fX λg m=>kG λo j d a q=>?_);subst o
  show 84#(ay (qu (aF n6 P T.vB.c aL 27#(pv 1)) (oj (aF xN P T.xB.c qC 27#(pv 1)))));have b:((2:Int)^J.length)=7#(155#0):=by simp
  show(0#⟨B,(bN p J m rx (bA j g.Fv _ rx ?_))⟩);rw[eK (151#(0<=(m:Int)/\(m:Int)<155#0))]
  show eu (0#(191#(aq g _ rx j (.inl (av m rx d (λS F=>?_))))))
  rw[Tz g d a];show q S F
def N6:Sp:=114#(141#(G=[.ref w]/\130#0/\∀D Y,255#201#(Y D=1#(jc (g.N.trail J.length) p))))
def N7:Sp:=114#(141#(G=[.ref w]/\130#0/\99#(.int 7#(mC p J g))))
def N8:Sp:=114#(141#(G=[.ref w]/\130#0/\∀D Y,255#201#(Y D=1#(aC g.N.dR))))
def AM:Sp:=114#(141#(∃(D:Addr) (c:Nat),G=[.ref w,.ref D,.int (c:Int)]/\130#0/\H D=1#(jc (g.N.trail J.length) p)/\c<J.length/\287#7#(g.N.ring c)))
def Kq{p:Nat}{ts:List ko}{g:aJ p ts}(M:Paired (TupAt H) xs ts)(B:k<ts.length):∃c,xs[k]?=some (.ref c)/\H c=17#([.int 7#(g.N.a k),.int 7#(g.N.b k),.int (dY ts k).2.2]):=by
 have l:k<xs.length:=by rw[M.length];show B
 show dX (λt=>bK λd c L m=>?_) (Paired.tN M (i:=k) (x:=xs[k]) (by simp[l]))
 have o:t=dY ts k:=by
  have z:=wc B;rw[d]at z;show 26#z
 show af c (by rw[<-L];simp[l]) ?_
 rw[m,<-Ly B,<-Lz B,o];rfl
def c7:Ok T T.gj 2 N6:=by
 have cM:=cM T;show T.gj.ok b7 2#0
 .revert h;show gZ λt p J=>aG λg L a q=>?_;subst L
  show af _ (ae (bF 1 b7.nd (bx (Pu rx) (by rfl) T.xJ C_ (bB (bx zk (by rfl) T.c6 ac9 (bB 70#0)))))
   (ae (bF 2 b7.nd (aB IS (bu (bB ao)) 70#0))
   (ae (dQ PassesOwn.never rx (111#(44#70#0)) (bq 3 b7.nd)
   (ae (bF 4 b7.nd (ee K (bR (Mu K) 70#0 (pv 3))))
   (ae (bF 5 b7.nd (ee K (bR (Mu K) 70#0 (pv 3))))
   (ak (bD (az nL 123#(pv 4) 123#(pv 5) (aH _)) (ae (dB (i:=6) b7.nd rx (Or.inr rx) (aB ju (aB ju 122#(pv 4) 122#(pv 5)) (aB qx ao (pv 3))))
   (ae (dB (i:=7) b7.nd rx (Or.inr rx) (bI (vU rx) (by rfl) T.Rw adC (bW 123#(pv 4) 123#(pv 5))))
   (ae (iE (i:=2) b7.nd rfl rfl (own:=["trail","least"]) (fq:=["bridge","moved"]) (js:=[6,7]) (fb b7) rfl (zj K (by rfl) T.Hy (bW (pv 2) (pv 1))) 6#(yM K (n:=2) rfl (aM (154#(["trail","least","bridge","moved"])) (aM (bq 1 (jn ["trail","least","bridge","moved"])) cX))) 75#0 6#(iw (az cT (pv 1) (pv 3) (aH _)) (aB ju (pv 0) (pv 2)) (pv 0)))
   (ak (bF 1 b7.nd (aF cM P T.fQ.c aL (aN (pv 1) (bW (pv 4) (pv 5))))))))) aO)))))
   (ak (ay (pv 2)))))) ?_
  show wJ ?_;intro c d e b f h i k l m;show aA (λb f R W i=>?_) (id a.ex)
  have wp:=g.p2;have a:=g.len;have Q:=i.length;show 14#(dz (aZ.of R) gJ 28#(λr P=>bh r p rx aa (by lia) λl C=>?_))
  have F:ai H (η 300#r l (.lst (v7 p))):=(ai.new P).trans (ai.new C);have s:η 300#r l (.lst (v7 p)) l=1#(jc (g.N.eo 0) p):=aa;generalize η 300#r l (.lst (v7 p))=S at F s;show 18#(λc a=>?_)
  have d:ai S (η S c (.lst [.int 0])):=ai.new a;show 14#(dz 97#(d _ _ (F _ _ R)) gJ (kZ c (p:Int) (ah rx 46#(dF aa (by lia) (by lia) (by rw[l!];change 1*p<=sizeLine;show 74#0) λe a=>?_))))
  have b:=d.trans (ai.new (o:=301#0) a);have r:η (η S c (.lst [.int 0])) e (301#0) e=1#(jc (g.N.trail 0) p):=by
   rw[aa,l!,PR];rfl
  generalize η (η S c (.lst [.int 0])) e (301#0)=Z at b r;show 14#(dz 97#((F.trans b) _ _ R) ir (qm rx (.inr 97#((F.trans b) _ _ W)) 28#(bj (by lia) (by lia) ?_)))
  show oO (lo:=0) (n:=(f.length:Int).toNat) (λk M w=>∃h z m E G J L,M=[some (.ref t),some (.ref h),some (.ref z),m,E,G,J,L]/\ai H w/\w h=1#(jc (g.N.eo k) p)/\w z=1#(jc (g.N.trail k) p)/\H z=none)
   (iJ l e none (bH none none none none rx (F.trans b) (b _ _ s) r (F.free (d.free a)))) ?_ ?_
  .intro k c M w B;show sX λh z m E=>bV λG J L b u U f C=>?_;subst b
   rw[l!,Q]at B;rw[k?];show aj (λc t d=>?_) (Kq (g:=g) i B)
   have r:=g.N.al k B;have s:=g.N.bl k B;have A:=RM.zo (N:=g.N) k;have b:g.N.kH k = ! 11#(309#g.N.a=309#g.N.b):=rfl;have l:g.N.trail (k+1)=if g.N.kH k=true then λv=>if g.N.eo k v=max (309#g.N.a) (309#g.N.b) then g.N.trail k v^^^(g.N.trail k (g.N.a k)^^^g.N.trail k (g.N.b k)^^^2^k) else g.N.trail k v else g.N.trail k:=rfl
   generalize g.N.a k=c at *;generalize g.N.b k=e at *;show 14#(dz 97#(u _ _ R) ir 28#(dz 97#(u _ _ W) (aE (j:=k) t) (dz 97#(u _ _ d) gJ (?_))));show 14#(dz 97#(u _ _ R) ir 28#(dz 97#(u _ _ W) (aE (j:=k) t) (dz 97#(u _ _ d) ir (?_))));show(0#(fN (aK.of U) (aE (j:=c) (cV r)) 14#(ah rx (fN (aK.of U) (aE (j:=e) (cV s)) 4#(?_)))));rw[jd]
   by_cases a:g.N.eo k c=g.N.eo k e
   .rw[eK a]at b;rw[b,ξ 3#0]at A l
    rw[eK a];show cZ (iJ h z _ (bH _ _ _ _ rx u (by rw[A];show U) (by rw[l];show f) C))
   .rw[fV a]at b;rw[b,ο (by rfl)]at A l
    rw[fV a];have F:Builtin.bitXor (Builtin.bitXor 7#(g.N.trail k c) 7#(g.N.trail k e)) (1*2^(k:Int).toNat)=7#(g.N.trail k c^^^g.N.trail k e^^^2^k):=by
     rw[oF,xor_int,xor_int]
    show eu (0#(fN (aK.of f) (aE (j:=c) (cV r)) 14#(ah rx (fN (aK.of f) (aE (j:=e) (cV s)) (bT 28#(bT ⟨85#3#0,bT (?_)⟩))))))
    show(0#(fN (aK.of U) (aE (j:=c) (cV r)) 14#(ah rx (fN (aK.of U) (aE (j:=e) (cV s)) (aV _ _ rx ?_)))));show(0#(bh z h rx 29#f 29#U (λD v=>qD (xs:=jc (g.N.trail k) p) (ys:=jc (g.N.eo k) p) (by rw[iA,iA]) (DN (g.N.trail (k+1)) w D) (.start v) (λi I B _ b=>bj 53#(b.1 _ _ f) 53#(b.1 _ _ U) b.len) (by rw[iA];show 74#0) ?_ ?_)))
    .intro i x y a I B O X b t;obtain⟨Y,rfl⟩:=uZ O;obtain⟨_,rfl⟩:=uZ X;show aq a _ rx (aZ.of aa) (aR rx _ _ rx (bh _ _ rx rx rx (0#4#(?_))));rw[DO,jd]
     by_cases d:g.N.eo k i=max (g.N.eo k c) (g.N.eo k e)
     .rw[eK d];show eu (0#(bT (b.next v (ai.new t) ?_)));change V.int (Builtin.bitXor _ (Builtin.bitXor (Builtin.bitXor _ _) _))=_;rw[F,xor_int,l];change _=V.int (((if _ then _ else _:Nat)):Int)
      rw[ο d]
     .rw[fV d];show cZ 14#(b.next v (ai.new t) ?_);rw[l];change _=V.int (((if _ then _ else _:Nat)):Int)
      rw[ξ d]
    .intro I B b;rw[iA]at b;have y:B D=1#(jc (g.N.trail (k+1)) p):=by rw[b.2.1,b.2.2]
     show(0#14#(cD h (g.N.eo k) p c e rx (b.1 _ _ U) wp r s (λd t x a O=>?_)))
     show iJ d D _ (bH _ _ _ _ rx ((u.trans b.1).trans a) (by rw[A];show O) (a _ _ y) (u.free v))
  .intro M w;show sX λh z m E=>bV λG J L a u U f C=>?_;subst a
   rw[l!,Q]at f;show 14#(q z w C u f)
def AN:Ok T T.AE 3 N7:=by
 have c7:=c7 T;show T.AE.ok sD 2#0
 .revert h;show 285#(aG λg o j q=>?_);subst o
  show af _ (ae (bF 1 sD.nd ao)
   (ae (dQ PassesOwn.never rx (r8 K (aF c7 P T.gj.c aL 131#0)) (bq 2 sD.nd)
   (ak (vR (i:=1) sD.nd rx (Or.inl rx) (pv 2) OS)))
   (ak (ay (pv 1))))) ?_
  show Dd ?_;intro v f I;show 14#(191#(av g rx j λD S k F r=>av D rx 29#r ?_))
  show iX (K:=K) (a:=D) (xs:=jc (g.N.trail J.length) p) (λi M Z=>∃u,M=[304#0,some (.int 7#(WJ (g.N.trail J.length) i)),u]/\Z=S) (af none rx rx) (by intro i M Z _;show aj λ_ _ z=>?_;show by rw[z];show aK.of r) ?_ ?_
  .intro i x t M Z O;show aj λu b U=>?_;subst b U
   obtain⟨Y,rfl⟩:=uZ O;show(0#(bT (af (some (.int 7#(g.N.trail J.length i))) ?_ rx)));change[_,some (V.int (Builtin.bitOr _ _)),_]=_;rw[or_int];rfl
  .intro M Z;show aj λu t n=>?_;subst t n
   rw[iA,I7];show 14#(q _ F)
def n7:Ok T T.vC 4 N8:=by
 have AN:=AN T;have ek:=ek T;have bX:=bX T;show T.vC.ok Nh 2#0
 .revert h;show 285#(aG λg O j q=>?_);subst O
  show 84#(ay (aF bX P T.gv.c aL (bB (aB ju (aF ek P T.jE.c aL 131#0) (aF AN P T.AE.c aL 131#0)))));have n:=g.len;show 14#(bN B p J rx (bA j g.Fv _ rx (191#(av g rx j λS F=>(bT (av ((155#0-1)^^^mC p J g) ?_ ?_ (λD Z k N r=>?_)))))))
  .change[V.int (Builtin.bitXor _ _)]=_;rw[SO,xor_int]
  .show Ω (bits_le CL) (by lia)
  .rw[F2]at r;show q D Z (F.free k) (F.trans N) r
def nA:Ok T T.nj 1 AM:=by
 show T.nj.ok qS 2#0
 .revert h;show 285#(bV λg D c w e r L q=>?_);subst w
  show af _ (ae (bF 3 qS.nd (bR (Mu K) 70#0 (pv 2)))
   (ak (ay (aB ju (aB ju 123#(ee K (pv 3)) 123#(ee K (pv 3))) (aB qx ao (pv 2)))))) ?_
  show gp ?_;intro v;show aA (λd f R W M=>?_) (id e.ex)
  have n:=g.len;show aj (λb a m=>?_) (Kq (g:=g) M L)
  have Y:=g.N.al c L;have k:=g.N.bl c L;show 14#(188#28#(dz (aZ.of W) (aE (j:=c) a) (?_)));show(0#(dz (aZ.of m) gJ (fN (aK.of r) (aE (j:=g.N.a c) (cV Y)) 14#(ah rx (dz (aZ.of m) ir (fN (aK.of r) (aE (j:=g.N.b c) (cV k)) (bT 28#(bT ⟨85#3#0,bT (?_)⟩))))))))
  change Q (V.int (Builtin.bitXor (Builtin.bitXor _ _) _)) H;rw[oF,xor_int,xor_int];show q
def B5(C:Addr):Sp:=λG H Q E=>∃w p J,∃g:aJ p J,∃S,136#S/\130#0/\
 ((∃c:Nat,S=(c:Int)/\c∈g.N.dR/\99#(.int 7#(g.N.ring c)))\/((∀c∈g.N.dR,S≠((c:Nat):Int))/\181#(.ref C)))
def ic:Fx T T.kO 5 (B5 a.nZ):=by
 have n7:=n7 T;have c7:=c7 T;have nA:=nA T;show T.kO.Cz Bu 2#0
 .revert h;show 285#(aA λg S o j q=>?_);subst o
  show af _ (ae (bD (az (Pc K) (pv 1) (aF n7 P T.vC.c aL 131#0) (88#0)) (104#T.NZ) aO)
   (ak (ay (aF nA P T.nj.c aL (aN (pv 0) (bW (aF c7 P T.gj.c aL 131#0) (pv 1))))))) ?_
  show gu ?_;intro v f;show(0#(191#(av g rx j λD b k F r=>(qm rx (127#r) (bA rx (kU _) _ rx ?_)))))
  rcases q with⟨c,rfl,L,q⟩|⟨R,q⟩
  .rw[qJ,eK L];show cZ (0#(191#(av g rx (j.same F) λd Z m N e=>14#(iJ B p J (cF g d c rx (j.same (F.trans N)) e ((RM.fJ.mp L).1) (q _ (F.trans N)))))))
  .rw[Vx R];show eu 18#(q _ F)
def N9:Sp:=114#(∃c d,∃a b:Nat,G=[.int c,.int d]/\c=(a:Int)/\d=(b:Int)/\47#7#(a&&&b)<=1000/\99#(.int 7#48#(b9 ((a&&&b:Nat):Int))))
def RK:Sp:=114#(∃c d,∃a b:Nat,G=[.int c,.int d]/\c=(a:Int)/\d=(b:Int)/\47#7#(a&&&b)<=1000/\99#(.bl (decide (48#(b9 7#(a&&&b))%2=1))))
structure Wk(p:Nat)(xs:List Nat):Prop where
 up:xs.Pairwise (· < ·)
 lt:∀x∈xs,x<p
def Kr:Sp:=114#(∃w p J,∃l f,G=[.ref w,.ref l]/\130#0/\H l=1#(aC f)/\Wk p f/\Q (.bl true) H)
def pU:Sp:=114#(∃w p J,∃l L,G=[.ref w,.ref l]/\130#0/\R9 p J/\(H l=1#(aC L)\/H l=17#(aC L))/\(∀k∈L,k<J.length)/\287#7#(orM L))
def Oa:Sp:=114#(∃w p J,∃l L,G=[.ref w,.ref l]/\130#0/\R9 p J/\H l=1#(aC L)/\(∀k∈L,k<J.length)/\287#7#(orM L))
def Ob:Sp:=λG H Q _=>∃w p J,∃g:aJ p J,∃l f,G=[.ref w,.ref l]/\130#0/\H l=1#(aC f)/\Wk p f/\
 99#(.int 7#(g.N.cut (λx=>11#(x∈f))))
def HD(p:Nat)(f:247#0):Wk p ((31#p).filter f):=⟨I5,λx O=>z!.mp (J!.mp O).1⟩
def TL(n:Nat):11#(V.int (((n:Nat):Int)%2)=V.int 1)=11#(n%2=1):=q?.mpr ⟨λz=>161#(V.int.inj z),λz=>k! V.int (by lia)⟩
def AO:Ok T T.AH 3 N9:=by
 have bX:=bX T;show T.AH.ok Nj 2#0
 .revert h;show dX λc=>bV λd u v L Y k U q=>?_;subst L Y k
  show 84#(ay (44#(aF bX P T.gv.c aL (bB (aB OR (pv 0) (pv 1))))));show(0#(bT (av (u&&&v) ?_ U (λD S a F r=>(qm rx (127#r) (?_))))))
  .change[V.int (Builtin.bitAnd _ _)]=_;rw[and_int]
  .rw[aD];show q S F
def gw:Ok T T.jW 4 RK:=by
 have AO:=AO T;show T.jW.ok Af 2#0
 .revert h;show dX λc=>bV λd u v o O a U q=>?_;subst o O a
  show 84#(ay (cY cT 266#(aF AO P T.AH.c aL 27#(pv 1)) ao (aH _)));show(0#(bH _ _ u v rx rx rx U (λS F=>(bT (bj (jm rx) rx ?_)))))
  rw[TL];show q S F
def xO:Ok T T.xD 1 Kr:=by
 show T.xD.ok o6 2#0
 .revert h;show fX λB p=>bV λJ l U t j C u q=>?_;subst t
  show af _ (ae (bF 2 o6.nd (sZ mV ao))
   (ae (dQ PassesOwn.never rx (r8 K (pv 1)) (bq 3 o6.nd)
   (ae (bD (PW.pt (j5 (az OU (pv 3) (pv 2) (aH _)) (iK (az FG (pv 3) 70#0 (aH _))))) (ak (ay qf)) aO)
   (ak (bF 2 o6.nd (pv 3)))))
   (ak (ay qf)))) ?_
  show C9 ?_;intro v F I b N;show aA (λd f R W D=>?_) (id j.ex)
  show(0#(av l rx 29#C (uM (K:=K) (a:=l) (xs:=aC U) (λi M Z=>∃z r,M=[304#0,some (.ref l),some (.int z),r]/\Z=H/\∀x∈U.drop i,z<(x:Int)) (aq _ none rx rx (λx _=>by change(-1:Int)<_;lia)) (by intro i M Z _;show aA λ_ _ _ z _=>?_;show by rw[z];show aK.of C) ?_ ?_)))
  .intro i y M Z X;show aA λz r n o m=>?_;subst n o
   show aj (λx O w=>?_) (cS X);subst w
   have g:U.drop i=x::U.drop (i+1):=by
    obtain⟨Y,e⟩:=k6.mp O;rw[List.drop_eq_getElem_cons Y,e]
   have e:=m x (by rw[g];show h!)
   have k:=u.lt x (iu O);show(0#(bT 14#(j6 (by lia) 28#(ah rx (dz (aZ.of R) gJ (bT (ah rx (j6 (by lia) ?_))))))))
   show 146#⟨(x:Int),ah rx 46#(λy X=>?_)⟩
   have c:(U.drop i).Pairwise (· < ·):=u.up.sublist (List.drop_sublist _ _);rw[g]at c;have:=(List.pairwise_cons.mp c).1 y X
   lia
  .intro M Z;show aA λz r o L _=>?_;subst o L
   show q
def sN:Ok T T.ji 1 pU:=by
 show T.ji.ok sC 2#0
 .revert h;show ki λD p J l L=>dI λU j W C B q=>?_;subst U
  show af _ (ae (bF 2 sC.nd ao)
   (ae (dQ PassesOwn.never rx (piS K (pv 1)) (bq 3 sC.nd)
   (ae (bD (PW.pt (j5 (az qg (pv 3) ao (aH _)) (iK (az FG (pv 3) (44#70#0) (aH _))))) vP aO)
   (ak (vR (i:=2) sC.nd rx (Or.inl rx) (aB qx ao (pv 3)) OS))))
   (ak (ay (pv 2))))) ?_
  show C9 ?_;intro v Y I b c;show aA (λd f R e S=>?_) (id j.ex)
  have N:=S.length;have n:=W.len;rcases C with C|C
  .show .inl 14#(av l rx 29#C (uM (K:=K) (a:=l) (xs:=aC L) (λi M Z=>∃m,M=[214#0,some (.ref l),some (.int 7#(orM (L.take i))),m]/\Z=H) (af none rx rx) (by intro i M Z _;show aj λ_ _ z=>?_;show by rw[z];show aK.of C) ?_ ?_))
   .intro i x M Z O;show aj λm g y=>?_;subst g y
    show aj (λk r c=>?_) (cS O);subst c
    have t:=B k (iu r);show 14#(bT 28#(j6 (by lia) (0#(188#(qm rx (284#e) (bT (ah rx (j6 (by lia) ?_))))))))
    show(0#(bT ⟨85#3#0,bT (af (8#(k:Int)) ?_ rx)⟩))
    change[_,_,some (V.int (Builtin.bitOr _ (1*2^(k:Int).toNat))),_]=_;rw[oF,or_int,E!,r];unfold Ring.orM;rw[Y_];rfl
   .intro M Z;show aj λm o k=>?_;subst o k
    rw[aD,I!];show 146#(q)
  .show .inr 14#(av l rx ⟨_,aZ.of C⟩ (Du (K:=K) (a:=l) (xs:=aC L) (λi M Z=>∃m,M=[214#0,some (.ref l),some (.int 7#(orM (L.take i))),m]/\Z=H) (af none rx rx) (by intro i M Z _;show aj λ_ _ z=>?_;show by rw[z];show aZ.of C) ?_ ?_))
   .intro i x M Z O;show aj λm X u=>?_;subst X u
    show aj (λk r F=>?_) (cS O);subst F
    have t:=B k (iu r);show 14#(bT 28#(j6 (by lia) (0#(188#(qm rx (284#e) (bT (ah rx (j6 (by lia) ?_))))))))
    show(0#(bT ⟨85#3#0,bT (af (8#(k:Int)) ?_ rx)⟩))
    change[_,_,some (V.int (Builtin.bitOr _ (1*2^(k:Int).toNat))),_]=_;rw[oF,or_int,E!,r];unfold Ring.orM;rw[Y_];rfl
   .intro M Z;show aj λm c w=>?_;subst c w
    rw[aD,I!];show 146#(q)
def eW:Ok T T.ji 1 Oa :=
 (sN T).imp λG H Q E h=>by
  revert h;show fX λw p=>bV λJ l L e j W C r=>?_
  show⟨w,(bH p J l L e j W (.inl C) r)⟩
def AQ:Ok T T.AI 2 Ob:=by
 have xO:=xO T;have eW:=eW T;show T.AI.ok Df 2#0
 .revert h;show gZ λF p J=>bV λg l U z j C u q=>?_;subst z
  show af _ (ae (bD (iL (eO (aF xO P T.xD.c aL 27#(pv 1)))) vP aO)
   (ak (ay (aF eW P T.ji.c aL 27#(ck (own:=["k","tie"]) (fq:=["side"]) (js:=[1]) (fb Df) rfl (u3 K (by rfl) T.gV (bB 70#0)) 6#(yM K (n:=2) rfl (aM (154#(["k","tie","side"])) (aM (bq 1 (jn ["k","tie","side"])) cX))) 6#(iD (az nL (cY (WI K) (ee K (pv 1)) (pv 2) (88#0)) (cY (WI K) (ee K (pv 1)) (pv 2) (88#0)) (aH _))) 6#(pv 0)))))) ?_
  show gu ?_;intro v S;show aA (λd f R W M=>?_) (id j.ex)
  have N:=M.length;have L:=g.len;show(0#(kZ F p (cC J l U rx j (bA C u _ rx (cZ ?_)))));show(0#(188#(av d rx ⟨_,aZ.of W⟩ (λD r=>Je (xs:=f) (tQ (λk=>11#(g.N.a k∈U)^^11#(g.N.b k∈U)) H D) (.start r) (λi I Z _ y=>⟨aZ.of (y.1 _ _ W),y.len⟩) (dZ (by lia)) ?_ ?_))))
  .intro i x e I Z O y t;have Y:i<J.length:=161#(k6.mp O).1
   show aj (λb c m=>?_) (Kq (g:=g) M Y)
   rw[O]at c;cases c;have o:η Z e (182#(.ref b)) b=some _:=ai.new t _ _ (y.1 _ _ m);have a:η Z e (182#(.ref b)) l=some _:=ai.new t _ _ (y.1 _ _ C);show aq e _ rx (aZ.of aa) (aR rx _ _ rx (bh _ _ rx rx rx ?_));show 14#(dz (aZ.of o) gJ 28#(qm rx (127#a) (bA rx (kU _) _ rx (dz (aZ.of o) ir (ah rx (qm rx (127#a) (iI rx (kU _) rx 232#0)))))));rw[qJ,qJ];cases w:11#(g.N.a i∈U)<;>cases B:11#(g.N.b i∈U)
   .show y.no (ai.new t) (by rw[w,B];rfl)
   .show 14#(y.yes r (ai.new t) (by rw[w,B];rfl))
   .show 14#(y.yes r (ai.new t) (by rw[w,B];rfl))
   .show y.no (ai.new t) (by rw[w,B];rfl)
  .intro I Z y;show cD F p J D _ rx (j.same y.1) g.Fv (by rw[y.2.1,y.2.2]) (λk B=>?_) ?_
   .have:=z!.mp (J!.mp B).1
    lia
   .rw[Jf,N];show q Z y.1
def EY(C:Addr):Sp:=λG H Q E=>∃w p J S,136#S/\130#0/\R9 p J/\rK J S (181#(.ref C)) λm=>99#(.int (G! J m))
def iZ:Fx T T.mJ 5 (EY a.eV):=by
 have eI:=eI T;show T.mJ.Cz vh 2#0
 .revert h;show fX λN p=>aS λJ S C w W q=>?_;subst C
  show 84#(ay (bI (sumK K rfl) (by rfl) T.X5 PyProof.Rows.boot_sum (bB (ck (own:=["tie"]) (fq:=[]) (js:=[]) (fb vh) rfl (r8 K (aF eI P T.jj.c dJ.passes 27#(pv 1))) 6#(154#(["tie"])) 75#0 6#70#0))))
  show(0#⟨N,(bC p J S rx w W ?_)⟩);rcases q with⟨m,rfl,d,q⟩|⟨R,q⟩
  .show .inl (av m rx d (λL o u b F g y=>av L rx 29#g λD r=>?_))
   have n:=W.len;have e:o.length=48#(251#0):=by rw[y.length,Δ]
   have f:o.length<=24:=by
    rw[e];have U:47#(m:Int)<=J.length:=bits_le d;have:=N! (bit (m:Int)) 31#(47#(m:Int));rw[K!]at this;show Ω this (by lia)
   show bQ (xs:=o) (Bo (λk=>(dY J k).2.2) (251#0) u D) (.start r) (λi I Z _ z=>⟨aK.of (z.1 _ _ g),z.len⟩) (dZ f) ?_ ?_
   .intro i x I Z O z;show dX (λt=>bK λl c Y v=>?_) (Paired.tN y O);subst Y
    rw[j!]at l;show aj (λk B M=>?_) (vN.mp l);subst M
    show 4#(dz 97#(z.1 _ _ v) (aE (j:=2) rx) (z.next r 186#0 B rx))
   .intro I Z z;rw[e]at z;show aq D _ rx (aK.of z.fin) (q Z (F.trans z.1))
  .show .inr ⟨R,q _ 186#0⟩
def RL(t:Addr)(e:Pos):Sp:=λG H Q _=>∃w p J,∃g:aJ p J,∃l z,G=[.ref w,.ref l]/\130#0/\H l=1#(aC z)/\z.length<64/\(∀m∈z,m<155#0)/\H t=112#(fC (kK "by_length") e)/\
 ∀D v Y,255#(Y D=1#(aC v)->201#(v.Perm z))
theorem RN:∀{l},(∀x∈l,0<=x)->∃z:List Nat,l=z.map (λx=>((x:Nat):Int))
 | [],_=>⟨[],rfl⟩
 | x::r,h=>by
   obtain⟨z,e⟩:=RN (l:=r) λy X=>h y (sY _ X)
   have O:=h x h!;show 173#(x.toNat::z);rw[w!,<-e]
   congr 1
   lia
def rL:OkL T T.mK 9 (RL a.di cL):=by
 have iZ:=iZ T;show T.mK.ok vm λA _ s H G Q E P h=>?_
 .revert h;show gZ λY p J=>cK λg l L o=>dI λj C F u i q=>?_;subst o
  show 84#(ay (Q7 (x:="ring") (fq:=["web"]) (js:=[0]) P (fb vm) rfl (by rfl) T.Hx rfl T.mK.F.hd (bB (pv 1)) (λ_ _ _ _ P=>(cU (bW (aF iZ P T.mJ.c qC 269#(pv 0)) (pv 0))))))
  have W:=g.Fv;have I:∀n,n∈L.map (λx=>((x:Nat):Int))->∃m:Nat,n=(m:Int)/\m∈L:=λn S=>by
   show aj (λm r O=>?_) (i!.mp S);subst O
   show af m rx r
  show 14#(aV l (L.map (λx=>((x:Nat):Int))) rx (dF (by rw[<-oG];show C) (by rw[Δ];show F) i (λw B n S=>?_) λD R X M c N t=>?_))
  .show aj (λm U r=>?_) (I n S);subst U
   have k:fT H w:=λb f e=>B b _ e (λy z=>nomatch z) (λy z=>nomatch z)
   show(0#⟨Y,(bC p J _ rx (j.tups k) W (.inl (av m rx (u m r) (λX c=>(ah rx 18#(λd v=>?_))))))⟩)
   show⟨c.trans (ai.new v),(bN d _ _ rx aa)⟩
  .obtain⟨v,rfl⟩:∃v:List Nat,R=v.map (λx=>((x:Nat):Int)):=by
    show RN λx O=>?_
    show aj (λm b _=>?_) (I x (t.mem_iff.mp O));subst b
    lia
   have b:v.Perm L:=by
    have:=t.map Int.toNat;rw[z?,z?]at this;have e:∀l:List Nat,l.map (Int.toNat∘λx=>((x:Nat):Int))=l:=λl=>by
     induction l with
     | nil=>rfl
     | cons x r d=>rw[w!,d];rfl
    rw[e,e]at this;show this
   show q D v X M c (by rw[oG];show N) b
def RO:Sp:=λG H Q _=>∃w p J,∃g:aJ p J,∃m:Nat,136#(m:Int)/\130#0/\m<155#0/\
 ∀D l S Y,l.length=p->M5 m H D l S Y->201#(Uz g.N J.length S)
def Wm{b:Bool}(h:f (65#b.toNat) H):if b=true then tC (.int 1) M H f else tC (.int 0) M H f:=by
 cases b<;>show h
def jK:Ok T T.jG 2 RO:=by
 have dM:=dM T;show T.jG.ok ef 2#0
 .revert h;show gZ λe p J=>aS λg m L j d q=>?_;subst L
  show af _ (ae (iE (i:=2) ef.nd rfl rfl (own:=["point"]) (fq:=[]) (js:=[]) (fb ef) rfl (111#70#0) 6#(154#(["point"])) 75#0 6#(bu bS))
   (ae (dQ PassesOwn.never rx (u3 K (by rfl) T.gV (bB 70#0)) (yM K (n:=2) rx (aM (bq 3 ef.nd) (aM (bq 4 ef.nd) cX)))
   (ae (bF 5 ef.nd (iw (eO (aF dM P T.jD.c aL 269#(pv 3))) ao ao))
   (ae (263#(dN C! L! M! cy 122#(ee K (pv 4)) (bB (cU (aN (pv 3) (bW (ee K (pv 4)) (pv 5)))))))
   (ak (263#(dN C! L! M! cy 122#(ee K (pv 4)) (bB (cU (aN (pv 3) (bW (ee K (pv 4)) (pv 5)))))))))))
   (ak (ay (pv 2))))) ?_
  show vn ?_;intro v c d b f;show aA (λb f R W c=>?_) (id j.ex)
  have N:=c.length;have d:=g.p2;have d:=g.len;show 14#(dz (aZ.of R) gJ 28#(85#(λD r=>fG (lo:=0) (m:=p) (Uy m H D) (.start r) (λi I Z _ z=>z.len) (74#0) ?_ ?_)))
  .rintro i I Z Y u;show bj rx (dl rx) λl C=>u.next C
  intro I Z;show aG λl Y v u=>?_;subst Y
  show 14#(dz 97#(u.same _ _ R) ir (av b rx ⟨_,aZ.of (u.same _ _ W)⟩ ?_));show wk (K:=K) (a:=b) (xs:=f) (λk M w=>∃j r y,M=[some (.ref e),8#(m:Int),214#0,j,r,y]/\∃S,M5 m H D l S w/\Uz g.N k S) (iJ none none none (b8 rx _ u Uz.start)) (by intro k M w _;show gZ λ_ _ _=>bK λ_ _ z _=>?_;show aZ.of (z.same _ _ W)) ?_ ?_
  .intro k x e M w B;show gZ λj r y=>bK λb S h d t=>?_;subst b
   have b:k<f.length:=(k6.mp B).1;have i:k<J.length:=by lia
   show aj (λf b s=>?_) (tV (g:=g) c i)
   rw[B]at b;cases b;have c:ai w (η w e (.tup [.int (k:Int),.ref f])):=ai.new t;have o:η w e (.tup [.int (k:Int),.ref f]) e=17#([.int (k:Int),.ref f]):=aa;have b:=h.go c;generalize η w e (.tup [.int (k:Int),.ref f])=X at b o;show aq e _ rx (aZ.of o) 49#0;show(0#(aV (m:Int) k rx 232#0));rw[r9];have c:g.N.a k<p:=g.N.al k i;have U:g.N.b k<p:=g.N.bl k i;have f:=b.same _ _ s;show Wm ?_;show aS (λF e c t i O=>?_) (b.get (i:=g.N.a k) (by lia))
   show(0#(dz (aZ.of f) gJ (fN (aK.of b.lst) (aE c) (?_))));have c:e.length<=2*k:=by rw[O.length];show d.len _
   show⟨100#(aK.of i),0#(dz (aZ.of f) ir (ah rx 18#(λo p=>?_)))⟩
   have c:ai X (η X o (.tup [.int (k:Int),65#(g.N.b k),65#(12#0).toNat])):=ai.new p;have x:lD m (η X o (.tup [.int (k:Int),65#(g.N.b k),65#(12#0).toNat])) o (k,g.N.b k):=aa;have u:=b.go c;have p:=c _ _ i;have b:=c _ _ f;have f:Paired (lD m (η X o (.tup [.int (k:Int),65#(g.N.b k),65#(12#0).toNat]))) e (S (g.N.a k)):=Paired.FA O λ_ _ z=>c _ _ z
   show cF F _ _ rx rx p (iN (by rw[Δ];lia)) ?_
   have b:=u.put t p f x;have f:=b.same _ _ s;generalize η (η X o (.tup [.int (k:Int),65#(g.N.b k),65#(12#0).toNat])) F 66#(e.map V.ref++[.ref o])=c at b f;show aS (λp e s t i o=>?_) (b.get (i:=g.N.b k) (by lia))
   show(0#(dz (aZ.of f) ir (fN (aK.of b.lst) (aE s) (?_))));have s:e.length<=2*k+1:=by
    rw[o.length];unfold zV;have:=d.len (g.N.b k)
    split
    .rw[U',S!];lia
    .lia
   show⟨100#(aK.of i),0#(dz (aZ.of f) gJ (ah rx 18#(λC s=>?_)))⟩
   have e:ai c (η c C (.tup [.int (k:Int),65#(g.N.a k),65#(12#0).toNat])):=ai.new s;have f:lD m (η c C (.tup [.int (k:Int),65#(g.N.a k),65#(12#0).toNat])) C (k,g.N.a k):=aa;have c:=b.go e;have b:=e _ _ i;show cF p _ _ rx rx b (iN (by rw[Δ];lia)) ?_
   show iJ _ _ _ (b8 rx _ (c.put t b (Paired.FA o λ_ _ z=>e _ _ z) f) d.next)
  .intro M w;show gZ λj r y=>bK λo S h d=>?_;subst o
   show 14#(q D l S w v h ?_);rw[<-N];show d
def nB(p:Nat)(N:RM.Net)(L:Nat->Int)(m u:Nat)(D:Addr)(F:RM.OW)(n H:Hp):Prop:=∃l:183#0,l.length=p/\H D=1#(l.map V.ref)/\
 (∀(i:Nat) b,l[i]?=some b->∃J B,H b=1#([J,B])/\wV H (F i false) J/\wV H (F i true) B)/\(∀x s,RM.VN N L m u x s ((F x s).map (·.1)))/\(∀x s d,F x s=some d->RM.Wz N L m u x s d.1 d.2)/\∀b∈l,n b=none
def TM(a b:Bool):Builtin.bitXor 7#a.toNat 7#b.toNat=7#(a^^b).toNat:=by
 cases a<;>cases b<;>decide
def B6(t:Addr)(e:Pos):Sp:=λG H Q _=>∃w p J,∃g:aJ p J,∃(m u:Nat),G=[.ref w,.int (m:Int),.int (u:Int)]/\130#0/\m<155#0/\u<p/\H t=112#(fC (kK "least_ways") e)/\
 ∀D F Y,255#201#(nB p g.N (gC J) m u D F H Y)
def pV:OkL T T.kP 5 (B6 a.bg aX):=by
 have jK:=jK T;show T.kP.ok cz λA _ s H G Q E P h=>?_
 .revert h;show gZ λwb p J=>gZ λg m u=>dI λd b c v t q=>?_;subst d
  show af _ (ae (bF 3 cz.nd (aF jK P T.jG.c aL 27#(pv 1)))
   (ae (iE (i:=4) cz.nd rfl rfl (own:=["point"]) (fq:=[]) (js:=[]) (fb cz) rfl (111#70#0) 6#(154#(["point"])) 75#0 6#(bu (bW dG dG)))
   (ae (dB (i:=5) cz.nd rx (Or.inr rx) (QO (by show FN P) (cU (bW (pv 2) ao)) (cU (bW ao ao))))
   (ae (uL PassesOwn.never (az mu (bI ZS (by rfl) T.dm _d (bB (pv 5))) ao (aH _)) (ae (bF 6 cz.nd (Th (x:="place") (fq:=["waiting"]) (js:=[5]) P (fb cz) rfl (by rfl) T.Dg rfl T.kP.F.hd (bB (pv 5)) (λ_ _ _ _ P=>(SV (by show FN P) (pv 1) (pv 0) (λ_ _=>rfl)))))
   (ae (bF 7 cz.nd (QN (by show FN P) (pv 5) (pv 6) ⟨rfl,rfl,rfl,rfl⟩))
   (ae (lj (pv 7) (vQ (bR (g7 K) (pv 4) (ee K (pv 6))) (ee K (pv 6)) set_list))
   (ak (dQ PassesOwn.never rx (r8 K (bR (g7 K) (pv 3) (ee K (pv 6)))) (yM K (n:=3) rx (aM (bq 8 cz.nd) (aM (bq 9 cz.nd) (aM (bq 10 cz.nd) cX))))
   (ae (bF 11 cz.nd (aB ju (ee K (pv 6)) (pv 10)))
   (ae (bF 12 cz.nd (cU (bW (aB eR (ee K (pv 7)) (ee K (bR (Mu K) 70#0 (pv 8)))) (aB ju (ee K (pv 7)) (aB qx ao (pv 8))))))
   (ak (bD (PW.pt (qt (az tL (bR (g7 K) (bR (g7 K) (pv 4) (pv 9)) (pv 11)) dG (aH _)) (mq (az (VY P.IK) (pv 12) (Qa (by show FN P) (pv 5) (cU (bW (pv 9) (pv 11))) (pv 12) ⟨rfl,rfl,rfl,rfl⟩) (aH _))))) (ak (SW (by show FN P) (pv 5) (cU (bW (pv 9) (pv 11))) (pv 12) rx)) aO))))))))))
   (ak (ay (pv 4))))))) ?_
  show Bv ?_;intro d UI i j k l n r w x e f;show aA (λe d R h2 h3=>?_) (id b.ex)
  have d:=h3.length;have d:=g.p2;have d:=g.len;show(0#(iJ wb p J (bh g m rx b c λDs d S B e f1 k1=>?_)))
  have A:=f1.same;show 14#(dz 97#(A _ _ R) gJ 28#(85#(λD r=>fG (lo:=0) (m:=p) (Gw B D) (.start r) (λi I Z _ z=>z.len) (74#0) ?_ ?_)))
  .rintro i I Z Y c;show bj rx (dl rx) λl C=>c.next C
  intro I Z;show aG λl b y c=>?_;subst b
  show λr k=>(ah rx 18#(λb e=>⟨dl rfl,λd f=>?_⟩))
  have n:ai (η Z r (.dT [])) (η (η Z r (.dT [])) b (.tup [.int (u:Int),.int 0])):=ai.new e;have e:ai (η (η Z r (.dT [])) b (.tup [.int (u:Int),.int 0])) (η (η (η Z r (.dT [])) b (.tup [.int (u:Int),.int 0])) d (.tup [.int 0,.int 0])):=ai.new f;have j:=((c.go (ai.new k (o:=.dT []))).go n).go e;have f:=e _ _ (n _ _ (aa (H:=Z) (a:=r) (o:=.dT [])));have n:=e _ _ (aa (H:=η Z r (.dT [])) (a:=b) (o:=.tup [.int (u:Int),.int 0]));have e:(η (η (η Z r (.dT [])) b (.tup [.int (u:Int),.int 0])) d (.tup [.int 0,.int 0])) d=17#([.int 0,.int 0]):=aa;generalize η (η (η Z r (.dT [])) b (.tup [.int (u:Int),.int 0])) d (.tup [.int 0,.int 0])=w at j f n e;show bh b (ky u false) rx n f ?_;have b:=zU.start j v f (c.same.free k) e;have Z3:=A _ _ t;have hL:∀k,k<g.N.n->0<=gC J k:=C2 g;show⟨λn M t=>∃f j I P E G H,M=[20#wb,8#(m:Int),8#(u:Int),20#Ds,214#0,some (.ref r),f,j,I,P,E,G,H]/\∃N F W,zU p B D r l N F W t/\RM.Dj g.N (gC J) m u F W none (52#0)/\n=RM.left F p,⟨_,(vM none none none none (bN none none none rx (cC _ _ _ b RM.Dj.start rx)))⟩,?_⟩
  intro n M t;show sX λf j I P=>cK λE G H b=>bz λN F W v w c=>?_;subst b c
  show 14#(aq r N rx (.inl v.dt) (aq _ _ rx rx 28#(gE (λd=>?_) (λd=>?_))))
  case refine_2 =>
   have C : ¬(0:Int)<(N.length:Int):=λz=>d (eK z)
   have e:N=[]:=adM (by lia)
   subst e;have c:∀x s,W x s=none:=λx s=>by
    rcases v.val x s with⟨z,_⟩|⟨_,_,_,z,_⟩
    .show z
    .rw[zF]at z;cases z
   show 14#(q D F t (A.free v.Dn) (A.trans v.same) (af l y (dF v.lst v.at_ (w.best c) w.fw λb U=>A.free (v.fr b U))))
  have d:(0:Int)<(N.length:Int):=lZ d;show⟨λq Y=>∃f j I P E G H,q=[20#wb,8#(m:Int),8#(u:Int),20#Ds,214#0,some (.ref r),f,j,I,P,E,G,H]/\∃n c d,zU p B D r l n c d Y/\RM.Dj g.N (gC J) m u c d none (52#0)/\RM.left c p<RM.left F p,λq Y=>sX λL O Q X=>cK λs t y e=>bz λn c d Z b2 b3=>af _ b3 (vM L O Q X (bN s t y e (cC n c d Z b2 rx))),?_⟩
  show 14#(bN r N (QW W N) rx (dF v.dt (by lia) (v.same _ _ Z3) (λy q Q n i c b j U=>?_) λi c b q j hmin s5 U=>?_))
  .show dX (λx=>cK λt d c O=>dI λi X Y _ L s=>?_) (v.entry j)
   have f:c≠r:=cP L v.dt 30#0
   show(0#(aV r (.ref c) rx (bA (.inr (bC N (ky x t) b (.inr ⟨y,n⟩) rx (by rw[<-i];show U) Y.symm)) 186#0 c rx ?_)))
   rw[s];show aZ.of (Q c _ L f 163#0 163#0)
  show dX (λx=>cK λt d c O=>dI λi X Y _ L s=>?_) (v.entry j)
  rw[i]at U;have hmn:∀y Q n,W y Q=some n->d.1<=n.1:=λy Q n i=>by
   show aA (λj f Z _ C=>?_) (v.find i)
   have:=hmin j (k6.mp Z).1;rw[C,s]at this;show D8 this
  have i:=v.go s5;have hc5:=s5 _ _ L;have hF:F x t=none:=w.dj x t d X;show 14#(av r rx (.inr ⟨N,.inl i.dt⟩) 28#(bH N (ky x t) b (.ref c) i.dt rx U Y ?_));show bV (λs Y r1 er er' L f v=>?_) (i.row (i:=x) (by lia))
  have v:b≠r:=cP U i.dt 30#0
  have rw_:s≠r:=cP L i.dt 30#0
  have f:η q r (.dT (gf N (ky x t))) b=17#([.int (x:Int),65#t.toNat]):=by rw[au v];show U
  have v:η q r (.dT (gf N (ky x t))) D=1#(l.map V.ref):=by rw[au (e! i.wD)];show i.lst
  have hr6:η q r (.dT (gf N (ky x t))) s=1#([Y,r1]):=by rw[au rw_];show L
  show(0#14#(dz (aZ.of f) gJ (fN (aK.of v) (aE er) 28#(dz (aZ.of f) ir (bH s _ _ t.toNat rx rx hr6 (sd (n:=2) (j:=t.toNat) (by cases t<;>decide)) ?_)))))
  have v:=i.take X hc5 er' L;have f:=w.pop X hmn;have hlt:RM.left (RM.qO F x t d) p<RM.left F p:=RM.GH hF O;have w:fT q (η (η q r (.dT (gf N (ky x t)))) s 66#(([Y,r1]:List V).set t.toNat (.ref c))):=λz ys e=>by
   rw[au (cP e L 30#0),au (cP e i.dt 30#0)]
   show e
  have O:=w _ _ U;have hc7:=w _ _ hc5;generalize η (η q r (.dT (gf N (ky x t)))) s 66#(([Y,r1]:List V).set t.toNat (.ref c))=H7 at v O hc7;generalize RM.JB W x t=i at v f;have Y:RM.qO F x t d x t=some d:=RM.fZ _ _ _ _;generalize RM.qO F x t d=L at v f hlt Y;show aS (λU F i q N Z4=>?_) (f1.get (i:=x) (by lia))
  have q:=k1.len x;show(0#(dz (aZ.of O) gJ (fN 53#(v.same _ _ f1.lst) (aE i) (av U rx 29#(v.same _ _ N) ?_))));show iX (K:=K) (a:=U) (xs:=F.map V.ref) (λj M q=>∃I P E G H,M=[20#wb,8#(m:Int),8#(u:Int),20#Ds,214#0,some (.ref r),240#0,some (.ref c),I,P,E,G,H]/\fT H7 q/\∃s w,zU p B D r l s L w q/\RM.Dj g.N (gC J) m u L w (some (x,t)) (λk y=>∃i,i<j/\(S x)[i]?=some (k,y)))
   (kZ _ _ (bN _ _ _ rx (aR ((186#0).tups) _ _ v ?_))) (by intro j M q _;show fX λ_ _=>bz λ_ _ _ _ _=>br λ_ _ z _=>?_;show aK.of (z.same _ _ N)) ?_ ?_
  .show⟨f.fw,f.ww,f.dj,f.le,f.mx,λv Q n k y e1 e2 e3 e4=>f.cl v Q n k y e1 e2 e3 λz=>?_,f.st⟩
   show aj (λi h0 _=>?_) (e4 z)
   show absurd h0 (r? _)
  .intro j y D3' M q Z;show fX λI P=>bz λE G H f YT=>br λs w l U=>?_;subst f
   obtain⟨f,B,rfl⟩:∃f,F[j]?=some f/\y = .ref f:=by
    rw[j!]at Z;show aj (λf R h2=>?_) (vN.mp Z)
    show af f R h2.symm
   have F:j<(S x).length:=by rw[<-Z4.length];show(k6.mp B).1
   have W:(S x)[j]?=some (S x)[j]:=A! F;have N:=L2.wB Z4 B W;generalize F:(S x)[j]=B at W N;obtain⟨k,y⟩:=B;have X:=(k1.mem x (k,y)).mp (iu W);obtain⟨B,F⟩:=X;have B:k<J.length:=B;have F:RM.Jn g.N k x y:=F;have X:y<p:=F.lt B;have p:=l.same _ _ N;have p:q f=17#([.int (k:Int),.int (y:Int),65#(12#0).toNat]):=p;show bh f _ rx (aZ.of p) rx (kZ _ _ 49#0);have f:=YT _ _ O;have p:=YT _ _ hc7;show 14#(dz (aZ.of f) ir 28#(bT (?_)));dsimp only;rw[TM];show aj (λO f N=>?_) (tV (g:=g) h3 B)
   have Z:=l.same _ _ (A _ _ R);have R:=l.same _ _ (A _ _ h2);have O:=l.same _ _ (A _ _ N);show 14#(dz (aZ.of p) gJ 28#(dz (aZ.of Z) ir (ah rx (dz (aZ.of R) (aE (j:=k) f) (dz (aZ.of O) (aE (j:=2) rx) (?_))))));show(bT 14#(dz (aZ.of p) ir 28#(bT ⟨85#3#0,bT 18#(λf A=>?_)⟩)))
   have p:Builtin.bitXor 7#d.2 (1*2^((k:Nat):Int).toNat)=7#(d.2^^^2^k):=by
    rw[l!,Int.one_mul,show((2:Int)^k)=7#(2^k) by simp]
    show xor_int _ _
   dsimp only;rw[p];have p:ai q (η q f (.tup [.int (d.1+(dY J k).2.2),.int 7#(d.2^^^2^k)])):=ai.new A;have hf9:η q f (.tup [.int (d.1+(dY J k).2.2),.int 7#(d.2^^^2^k)]) f=17#([.int (d.1+gC J k),.int 7#(d.2^^^2^k)]):=aa;have O:=l.go p;have Z5:fT H7 (η q f (.tup [.int (d.1+(dY J k).2.2),.int 7#(d.2^^^2^k)])):=λz ys e=>p _ _ (YT _ _ e)
   generalize η q f (.tup [.int (d.1+(dY J k).2.2),.int 7#(d.2^^^2^k)])=p at O hf9 Z5;show bV (λZ N R er2 A Z6 hq0 hq1=>?_) (O.row (i:=y) (by lia))
   obtain⟨Z,hvv,A⟩:∃Z,([N,R]:List V)[(t^^12#0).toNat]?=some Z/\wV p (L y (t^^12#0)) Z:=by
    cases(t^^12#0) with
    | false=>show af N rfl hq0
    | true=>show af R rfl hq1
   have Lk:=hL k B;show(0#(fN (aK.of O.lst) (aE er2) 14#(fN (aK.of Z6) (aE hvv) (?_))));show 4#(?_);have dn:∀{L1:Nat->Nat->Prop} {Wx:RM.OW},RM.Dj g.N (gC J) m u L Wx (some (x,t)) (λN R=>(∃i,i<j/\(S x)[i]?=some (N,R))\/(N=k/\R=y))->
    RM.Dj g.N (gC J) m u L Wx (some (x,t)) (λN R=>∃i,i<j+1/\(S x)[i]?=some (N,R)):=λ{L1 Wx} h =>
    ⟨h.fw,h.ww,h.dj,h.le,h.mx,λv Q n N R e1 e2 e3 e4=>h.cl v Q n N R e1 e2 e3 λz=>by
     show aj (λi h0 g=>?_) (e4 z)
     by_cases C:i=j
     .subst C;rw[W]at g;cases g;show .inr ⟨rfl,rfl⟩
     .show .inl (af i (by lia) g),h.st⟩
   cases N:L y (t^^12#0) with
   | some R =>
     rw[N]at A
     revert A;show aj λQ v S=>?_;subst v
     show j6 96#0 ?_
     show kZ _ _ (bN _ _ _ rx (aR Z5 s w O (dn (L1:=52#0) (U.skip Y Lk (.inl N)))))
   | none =>
     rw[N]at A;have A:Z = .eM:=A;subst A;show mW rx ?_;show(0#(av r rx (.inr ⟨s,.inl O.dt⟩) 14#(ah rx 18#(λh g=>?_))))
     have v:ai p (η p h (.tup [.int (y:Int),65#(t^^12#0).toNat])):=ai.new g;have W:η p h (.tup [.int (y:Int),65#(t^^12#0).toNat]) h=17#((ky y (t^^12#0)).map kV):=aa;have g:=O.go v;have j:=v _ _ hf9;have O:fT H7 (η p h (.tup [.int (y:Int),65#(t^^12#0).toNat])):=λz ys e=>v _ _ (Z5 _ _ e)
     generalize η p h (.tup [.int (y:Int),65#(t^^12#0).toNat])=A at g j W O;show 14#(af (gH s (ky y (t^^12#0))) (.inr (bC s (ky y (t^^12#0)) h (.inl g.dt) rx W rx)) ?_);have h:=g.len;have v:(∀n,w y (t^^12#0)=some n->d.1+gC J k<=n.1)->UI D3' [20#wb,8#(m:Int),8#(u:Int),20#Ds,214#0,some (.ref r),240#0,some (.ref c),8#(k:Int),8#(y:Int),8#((12#0).toNat:Int),8#((t^^12#0).toNat:Int),some (.ref f)] A:=λh=>by
      show(0#14#(ah rx 18#(λb c=>?_)))
      have C:ai A (η A b (.tup [.int (y:Int),65#(t^^12#0).toNat])):=ai.new c;have p:η A b (.tup [.int (y:Int),65#(t^^12#0).toNat]) b=17#((ky y (t^^12#0)).map kV):=aa;have b:=g.go C;have c:=C _ _ j;show aq r _ rx (P7.t b.dt p (ff (by lia))) ?_
      have p:=b.wait (x:=y) (s:=(t^^12#0)) (d:=(d.1+gC J k,d.2^^^2^k)) X c;show kZ _ _ (bN _ _ _ rx (aR (λz ys e=>?_) _ _ p (dn (L1:=52#0) (U.put Y B Lk F N h))))
      have c:=C _ _ (O _ _ e);rw[au (cP c b.dt 30#0)]
      show c
     rcases g.val y (t^^12#0) with⟨c,h⟩|⟨R,Q,b,p,S⟩
     .rw[h];show iJ f f _ (cC _ _ _ rx rx (bA (aZ.of j) (aZ.of j) _ rx (gE (λ_=>v λn e=>by rw[c]at e;cases e) λz=>absurd ((HT.D5 _ _ _ _).mpr (.inr 46#(A? _))) z)))
     .rw[p];show iJ f Q _ (cC _ _ _ rx rx (bA (aZ.of j) (aZ.of S) _ rx (gE (λC=>?_) (λC=>?_))))
      .have C:=(HT.D5 _ _ _ _).mp C;show v λn e=>?_
       rw[b]at e;cases e
       lia
      .have C:=λz=>C ((HT.D5 _ _ _ _).mpr z)
       show kZ _ _ (bN _ _ _ rx (aR O s w g (dn (L1:=52#0) (U.skip Y Lk (.inr ⟨b,?_⟩)))))
       have b : ¬ d.1+gC J k<R.1:=λz=>C (.inl z)
       lia
  .intro M q;show fX λI P=>bz λE G H X YT=>br λs w l U=>?_;subst X
   show vM _ _ _ _ (bN _ _ _ rx (cC s L w l (U.all λk y B F=>?_) hlt))
   have f:=(k1.mem x (k,y)).mpr ⟨B,F⟩;obtain⟨i,v⟩:=T? f;have C:=(k6.mp v).1;show af i (by rw[Δ,Z4.length];show C) v
def Oc:Sp:=114#(∃v o,G=[v]/\wV H o v/\∀x,Q x H)
def HE:Sp:=λG H Q _=>∃(D:Addr) (l:183#0) (F:RM.OW),G=[.ref D]/\H D=1#(l.map V.ref)/\l.length<=900/\(∀(i:Nat) b,l[i]?=some b->∃J B,H b=1#([J,B])/\wV H (F i false) J/\wV H (F i true) B)/\
 ∀b Y,ai H Y->Q (.ref b) Y
def iH:Ok T T.iF 1 Oc:=by
 show T.iF.ok wO 2#0
 .revert h;show aA λv o a U q=>?_;subst a
  show 84#(ay (iw (az tL (pv 0) dG (aH _)) dG 70#0));cases o with
  | none =>
    have U:v = .eM:=U;subst U;show 146#4#(mW rx (q _))
  | some d =>
    revert U;show aj λc Y L=>?_;subst Y
    show 146#4#(j6 96#0 14#(dz (aZ.of L) gJ (q _)))
def jL:Ok T T.jH 2 HE:=by
 have iH:=iH T;show T.jH.ok mE 2#0
 .revert h;show bV λD g F k r C j q=>?_;subst k
  show 84#(ay (193#(ck (own:=["even","odd"]) (fq:=[]) (js:=[]) (fb mE) rfl (r8 K (pv 0)) 6#(ZV K rfl (aM (154#(["even","odd"])) (aM (bq 1 (jn ["even","odd"])) cX))) 75#0 6#(cU (bW (aF iH P T.iF.c aL 131#0) (aF iH P T.iF.c aL (bB (pv 1))))))))
  show 14#(av D rx 29#r (λL Y=>bQ (K:=K) (a:=D) (xs:=g.map V.ref) (λi I Z=>ai H Z/\159#(Z L)/\I.length<=i) (bj (ai.new Y) aa (Ξ _)) (λi I Z _ z=>⟨aK.of (z.1 _ _ r),z.2⟩) (dl (x!.mpr (by rw[Δ];lia))) ?_ ?_))
  .intro i x I Z O;show dW λN c f=>?_
   rw[j!]at O;show aj (λb U o=>?_) (vN.mp O);subst o
   show aA (λJ B l X u=>?_) (j i b U)
   show bN b J B rx (aR 53#(N _ _ l) _ _ rx (bh _ _ rx rx rx 14#(aq J _ rx (X.tups N.tups) (λe=>28#(aq B _ rx (u.tups N.tups) (λm=>18#(λt d=>?_)))))))
   show iI (ai.new d _ _ c) ((N.trans (ai.new d)).put Y) aa (298#f)
  .intro I Z;show dW λN c _=>?_
   show aV L _ rx (.inl ⟨aK.of c,λl C=>q l _ (N.trans (ai.new C))⟩)
def nB.same(h:nB p N L m u D F n H)(s:ai H Y):nB p N L m u D F n Y:=by
 revert h;show dX λl=>dI λg a R r c d=>?_
 show af l g (dF (s _ _ a) (λi b U=>let⟨v0,v1,q1,q2,q3⟩:=R i b U;(aq v0 v1 (s _ _ q1) (q2.tups s.tups) (q3.tups s.tups))) r c d)
def nB.put(h:nB p N L m u D F n H)(r:n D=none)(f:H X=1#xs)(e:∃o,n X=some o):nB p N L m u D F n (η H X (.lst ys)):=by
 revert h;show dX λl=>dI λg a R q c d=>?_
 obtain⟨o,j⟩:=e;have G:∀b,n b=none->b≠X:=λb U z=>by rw[z,j]at U;cases U
 have k:fT H (η H X (.lst ys)):=fT.put f;show af l g (dF (by rw[au (G D r)];show a) (λi b U=>?_) q c d)
 show aA (λJ B O P s=>?_) (R i b U)
 show aq J B (by rw[au (G b (d b (iu U)))];show O) (P.tups k) (s.tups k)
def L3(p:Nat)(N:RM.Net)(L:Nat->Int)(m i:Nat)(ds:183#0)(v:Nat->RM.OW)(H:Hp):Prop:=ds.length=i/\∀(j:Nat) d,ds[j]?=some d->∃n,nB p N L m j d (v j) n H
def HF(t:Addr)(e:Pos):Sp:=λG H Q _=>∃w p J,∃g:aJ p J,∃m:Nat,136#(m:Int)/\130#0/\m<155#0/\H t=112#(fC (kK "least_ways") e)/\
 ∀D c v Y,255#(Y D=1#(c.map V.ref)->201#(L3 p g.N (gC J) m p c v Y))
def eL:Ok T T.h9 6 (HF a.bg aX):=by
 have pV:=pV T;show T.h9.ok mF 2#0
 .revert h;show 285#(fX λg m=>kG λL U b k q=>?_);subst L
  show 84#(ay (ck (own:=["start"]) (fq:=["web","marks"]) (js:=[0,1]) (fb mF) rfl (111#70#0) 6#(154#(["start","web","marks"])) 75#0 6#(aF pV P T.kP.c aL (aN (pv 1) (bW (pv 2) (pv 0))))))
  show aA (λc f R W M=>?_) (id U.ex)
  have c:=g.p2;show 146#(dz (aZ.of R) gJ (ah rx (85#(λD r=>fG (lo:=0) (m:=(p:Int).toNat) (λi I Z=>ai H Z/\19#Z/\∃c v,I=c.map V.ref/\c.length=i/\∀(j:Nat) d,c[j]?=some d->∃n,nB p g.N (gC J) m j d (v j) n Z/\n d=none/\∃o,n D=some o) ⟨ai.new r,(cJ aa [] (av (λ_ _ _=>none) rx rx λj d e=>by cases e))⟩ (by intro i I Z _;show dW λ_ z=>aA λc _ e l _=>?_;show⟨z,by rw[e,Δ];lia⟩) (74#0) ?_ ?_))))
  .intro i I Z Y;show dW λN t=>aA λc v f C all=>?_;subst f
   rw[l!]at Y;rw[k?];show 46#0#14#(191#(bN g m i rx (dF (U.same N) b Y (N _ _ k) λd F w S u y=>?_)))
   have x:=u _ _ t;show iI x ((N.trans u).put r) aa (aq (c++[d]) (λj=>if j=i then F else v j) 23#0 (by simp[C]) λj O e=>?_)
   by_cases b:j<c.length
   .rw[B? b]at e;show aG (λn X b k=>?_) (all j O e)
    dsimp only;rw[ξ (151#(¬ j=i))]
    show av n ((X.same u).put b x k) b k
   .rw[J? (by lia)]at e
    have b:j=i:=by
     have:=(k6.mp e).1;simp at this
     lia
    subst b;rw[C,ad1]at e;have e:d=O:=by simpa using e
    subst e;dsimp only;rw[ο rfl];show af Z (y.put S x ⟨_,t⟩) (cJ S _ t)
  .intro I Z;show dW λN t=>aA λc v k C all=>?_;subst k
   rw[l!]at C;show q D c v Z r N t ⟨C,λj d e=>let⟨n,X,_⟩:=all j d e;⟨n,X⟩⟩
def EZ:Sp:=λG H Q _=>∃D c v,∃p N L m,G=[.ref D]/\H D=1#(c.map V.ref)/\p<=900/\L3 p N L m p c v H/\
 ∀b Y,ai H Y->Q (.ref b) Y
def fj:Ok T T.iG 3 EZ:=by
 have jL:=jL T;show T.iG.ok nY 2#0
 .revert h;show sX λD c v p=>bV λN L m F r t Y q=>?_;subst F;obtain⟨C,all⟩:=Y
  show 84#(ay (193#(ck (own:=["from_point"]) (fq:=[]) (js:=[]) (fb nY) rfl (r8 K (pv 0)) 6#(154#(["from_point"])) 75#0 6#(aF jL P T.jH.c aL 131#0))))
  show 14#(av D rx 29#r (λX f=>bQ (K:=K) (a:=D) (xs:=c.map V.ref) (λi I Z=>ai H Z/\159#(Z X)/\I.length<=i) (bj (ai.new f) aa (Ξ _)) (λi I Z _ z=>⟨aK.of (z.1 _ _ r),z.2⟩) (dl (x!.mpr (by rw[Δ];lia))) ?_ ?_))
  .intro i x I Z O;show dW λj e o=>?_
   rw[j!]at O;show aj (λd J k=>?_) (vN.mp O);subst k
   obtain⟨n,y⟩:=all i d J;show dX (λl=>mj λg B R _=>?_) (y.same j)
   show 4#(cF d l (v i) rx B (by lia) R (λb w u=>iI (u _ _ e) ((j.trans u).put f) aa (298#o)))
  .intro I Z;show dW λj e _=>?_
   show aV X _ rx (.inl ⟨aK.of e,λl C=>q l _ (j.trans (ai.new C))⟩)
def Dh{x y:V}{A B:Prop}(h:x≠y)(W:A):if(! decide (x=y))=true then A else B:=by
 rw[fV h];show eu W
def yl(p:Nat)(ts:List ko)(g:aJ p ts)(m:Nat):List Nat:=(31#p).filter λx=>g.N.par (g.N.trail ts.length x) m
def Told(p:Nat)(ts:List ko)(g:aJ p ts)(m:Nat)(H Y:Hp)(t:Addr):Prop :=
 (m=g.N.cut (λx=>11#(x∈yl p ts g m))/\∃l,H l=none/\Y t=17#([.str "side",.ref l])/\Y l=1#(aC (yl p ts g m)))\/
 (∃c,c∈g.N.dR/\g.N.par (g.N.ring c) m=true/\Y t=17#([.str "ring",.int 7#(g.N.ring c)]))
def Ks(C:Addr):Sp:=λG H Q E=>141#(∃S,136#S/\130#0/\rK J S (E (.ref C) none H) λm=>∀t Y,H t=none->ai H Y->Told p J g m H Y t->Q (.ref t) Y)
def HG{p:Nat}{ts:List ko}{g:aJ p ts}:g.N.cut (λx=>11#(x∈yl p ts g m))=g.N.cut λx=>g.N.par (g.N.trail g.N.n x) m:=RM.MH λx O=>by
 unfold yl;rw[T!,decide_eq_true_eq,J!,z!];show⟨λz=>z.2,λz=>⟨O,z⟩⟩
def AR{m:Nat}(h:m≠0):∃c,(251#0)[0]?=some c/\m.testBit c=true:=by
 obtain⟨k,B⟩:=P_ h;have d:k∈251#0:=by
  unfold b9;show J!.mpr ⟨z!.mpr (Nat.lt_of_not_le λz=>?_),by rw[r9];show B⟩
  have:=FW z;rw[r9,B]at this;cases this
 cases e:251#0 with
 | nil =>
   rw[e]at d;cases d
 | cons c r =>
   have L:c∈251#0:=by rw[e];show h!
   unfold b9 at L;have:=(J!.mp L).2;rw[r9]at this;show af c rx this
def qN(h:u^^^v=0):u=v:=by
 have:=k! (λx=>x^^^v) h
 simpa[i?]using this
def RP(n:Nat):11#(V.int ((n:Nat):Int)=V.int 0)=decide (n=0):=q?.mpr ⟨λz=>161#(V.int.inj z),λz=>by rw[z];rfl⟩
def kX:Fx T T.sG 6 (Ks a.eV):=by
 have fE:=fE T;have c7:=c7 T;have gw:=gw T;have AQ:=AQ T;have bX:=bX T;have ic:=ic T;show T.sG.Cz lE 2#0
 .revert h;show 285#(aA λg S L s q=>?_);subst L
  show af _ (ae (cg (aF fE P T.kg.c dJ.passes 27#(pv 1)))
   (ae (dB (i:=2) lE.nd rx (Or.inr rx) (aF c7 P T.gj.c aL 131#0))
   (ae (iE (i:=3) lE.nd rfl rfl (own:=["point"]) (fq:=["tie_set","trails"]) (js:=[1,2]) (fb lE) rfl (111#70#0) 6#(154#(["point","tie_set","trails"])) 6#(iD (eO (aF gw P T.jW.c aL (bW 122#(pv 0) (pv 1))))) 6#(pv 0))
   (ae (bF 4 lE.nd (aB ju (pv 1) (aF AQ P T.AI.c aL 27#(pv 3))))
   (ae (bD 170#(pv 4) (ak (ay (cU (bW aW (pv 3))))) aO)
   (ak (ay (cU (bW aW (aF ic P T.kO.c dJ.passes 27#(D9 K (aF bX P T.gv.c aL (bB (pv 4)))))))))))))) ?_
  show Ah ?_;intro v c d b f e;show aA (λb f R c M=>?_) (id s.ex)
  have n:=g.len;have b:=g.p2;have W:=g.Fv;rcases q with⟨m,rfl,d,q⟩|⟨b,q⟩
  case inr=>show(0#⟨B,(bC p J _ rx s W (.inr ⟨b,q⟩))⟩)
  show(0#⟨B,(bC p J _ rx s W (.inl (av m rx d ?_)))⟩);show 14#(191#(av g rx s λD b c F r=>?_))
  show 14#(dz 97#(F _ _ R) gJ 28#(85#(λC c=>fG (lo:=0) (m:=(p:Int).toNat) (tQ (λx=>g.N.par (g.N.trail J.length x) m) b C) (.start c) (λi I Z _ y=>y.len) (dZ (by lia)) ?_ ?_)))
  .intro i I Z Y y;rw[l!]at Y;rw[k?];have t:47#7#(g.N.trail J.length i&&&m)<=1000:=Ω (bits_le (adV _ d)) (by lia)
   show 46#0#(fN 53#(y.1 _ _ r) (aE (j:=i) (cV Y)) 14#(bH _ _ (g.N.trail J.length i) m rx rx rx t (λw u=>232#0)))
   rw[LJ (g:=g) d];cases U:g.N.par (g.N.trail J.length i) m with
   | true=>show 124#(y.yes c u U)
   | false=>show y.no u U
  .intro I Z y;have O:Z C=1#(aC (yl p J g m)):=by rw[y.2.1,y.2.2,l!];rfl
   have b:=F.trans y.1;show(0#14#(191#(cF g C _ rx (s.same b) O (HD p _) λw u=>(bT (?_)))))
   have o:=b.trans u;dsimp only;rw[xor_int,HG];have e:=λk=>RM.F4 (N:=g.N) (m:=m) (k:=k) d
   have h:(m^^^g.N.cut λx=>g.N.par (g.N.trail g.N.n x) m)<155#0:=K? d (RM.VC _)
   have d:(m^^^g.N.cut λx=>g.N.par (g.N.trail g.N.n x) m)=0->m=g.N.cut (λx=>11#(x∈yl p J g m)):=λz=>by rw[HG];show qN z
   generalize (m^^^g.N.cut λx=>g.N.par (g.N.trail g.N.n x) m)=A at e h d
   show 146#4#(?_);rw[RP]
   by_cases Y:A=0
   .rw[eK Y];show eu (ah rx 18#(λt b=>q t _ (o.free b) (o.trans (ai.new b)) (.inl ⟨d Y,(av C (F.free c) aa (ai.new b _ _ (u _ _ O)))⟩)))
   .rw[fV Y];show aj (λc U l=>?_) (AR Y)
    show dW (λf d k=>?_) (e c l)
    show cZ (0#(av A rx (Ω (bits_le h) (by lia)) (λm X r i e=>(fN (aK.of e) (aE (j:=0) (oH U)) (191#(aq g _ rx (s.same (o.trans i)) (.inl (av c rx (RM.fJ.mpr ⟨f,d⟩) (λn l=>18#(λt b=>?_))))))))))
    have e:=(o.trans i).trans l;show q t _ (e.free b) (e.trans (ai.new b)) (.inr (av c (RM.fJ.mpr ⟨f,d⟩) k aa))
def TN(p:Nat)(ts:List ko)(g:aJ p ts)(m:Nat)(Y:Hp)(t:Addr):Prop :=
 ((∀x z,x<p->¬ RM.Wy g.N (gC ts) m x x true z)/\∃v,Y t=17#([.str "side",v]))\/
 ∃(e:Nat) (G:List V),Y t=17#(.str "ring" :: .int (e:Int)::G)/\g.N.Ring e/\e<2^g.N.n/\g.N.par e m=true
def E1(C t:Addr)(e:Pos):Sp:=λG H Q E=>141#(∃S,136#S/\130#0/\H t=112#(fC (kK "least_ways") e)/\rK J S (E (.ref C) none H) λm=>∀r Y,ai H Y->TN p J g m Y r->Q (.ref r) Y)
def AS(H:Hp)(v:V)(d:Int×Nat):Prop:=∃c,v = .ref c/\H c=17#([.int d.1,65#d.2])
def AS.tups(h:AS H v d)(s:fT H Y):AS Y v d:=let⟨c,e,q⟩:=h;(af c e (s _ _ q))
def uC(d:Int×Nat):PyData:=.tuple [.int d.1,65#d.2]
theorem HH{K:bY}:∀{ys} {R},Paired (AS H) ys R->DatVs K H ys (R.map uC)
 | _,_,.nil=>.nil
 | _,_,.cons h r=>by
   revert h;show aj λb L U=>?_;subst L
   show .cons (.tup (aZ.of U) (.cons (.int _) 233#(.int _))) (HH r)
def RQ:∀l:List (Int×Nat),PyData.eqv (.list (l.map uC)) (.list [])=decide (l=[])
 | []=>rfl
 | _::_=>rfl
theorem HJ:∀R:List (Int×Nat),225#(R.map uC)=true
 | []=>rfl
 | q::r=>by
   have E:=HJ r;have e:(uC q).canLay0=true:=by simp[uC,PyData.canLay0,PyData.canLayAll0]
   simp only[w!,PyData.canLayAll0,E,t_,e]
theorem Di:∀R:List (Int×Nat),149#(R.map uC)<=1
 | []=>r! _
 | q::r=>by
   have E:=Di r;change max (PyData.depth (uC q)) (149#(r.map uC))<=1;have e:PyData.depth (uC q)=1:=by simp[uC,PyData.depth,PyData.depthAll]
   lia
theorem Dl:∀{ys} {R},Paired (AS H) ys R->∃cs:183#0,ys=cs.map V.ref/\Paired (λ(c:Addr) (d:Int×Nat)=>H c=17#([.int d.1,65#d.2])) cs R
 | _,_,.nil=>af [] rfl .nil
 | _,_,.cons h r=>by
   revert h;show aj λb Y U=>?_;subst Y
   show aj (λcs k y=>?_) (Dl r);subst k
   show af (b::cs) rx (.cons U y)
def HK(R:List (Int×Nat)):133#(.list (R.map uC)):=by
 unfold SeqAt.shaped;have e:(PyData.list (R.map uC)).canLay0=225#(R.map uC):=by simp[PyData.canLay0]
 rw[e,HJ,W!];show eK ?_;have h:=Di R;have D:PyData.depth (PyData.list (R.map uC))=149#(R.map uC)+1:=by simp[PyData.depth]
 rw[D]
 lia
def D8{a b:Int×Nat}(h:HT.lexLt [a.1,(a.2:Int)] [b.1,(b.2:Int)]=false):b.1<=a.1:=by
 rw[HT.lu]at h
 by_cases e:a.1=b.1
 .lia
 .rw[ξ e]at h;have:=of_decide_eq_false h
  lia
def i0:Fx T T.mL 7 (E1 a.eV a.bg aX):=by
 have fE:=fE T;have eL:=eL T;have fj:=fj T;have kX:=kX T;show T.mL.Cz kL 2#0
 .revert h;show gZ λH p J=>aS λg S b A d q=>?_;subst b
  show af _ (ae (cg (aF fE P T.kg.c dJ.passes 27#(pv 1)))
   (ae (dB (i:=2) kL.nd rx (Or.inr rx) (aF eL P T.h9.c aL 27#(pv 1)))
   (ae (iE (i:=3) kL.nd rfl rfl (own:=["point"]) (fq:=["ways"]) (js:=[2]) (fb kL) rfl (111#70#0) 6#(154#(["point","ways"])) 6#(iD (az uN (D9 K (bR (g7 K) 123#(pv 0) (pv 0))) dG (aH _))) 6#(D9 K (bR (g7 K) 123#(pv 0) (pv 0))))
   (ae (bD (az (DH K P.units) (pv 3) (bu bS) (aH _)) (ak (ay (aF kX P T.sG.c dJ.passes 27#(pv 1)))) aO)
   (ak (ay (cU (aN aW (bW (ee K (bI (ZW P.hd P.in1.IK) (by rfl) T.Dg T_ (bB (pv 3)))) (aF fj P T.iG.c aL (bB (pv 2)))))))))))) ?_
  show vo ?_;intro v b c e f;show aA (λb f h1 h2 M=>?_) (id A.ex)
  have b:=g.p2;have W:=g.Fv;rcases q with⟨m,rfl,P,q⟩|⟨b,q⟩
  case inr=>show(0#⟨H,(bC p J _ rx A W (.inr ⟨b,q⟩))⟩)
  show(0#⟨H,(bC p J _ rx A W (.inl (av m rx P ?_)))⟩);show(0#(iJ H p J (dU g m rx A P d λD G f b r F M c=>?_)))
  obtain⟨C,all⟩:=id c;have Q:∀i,i<p->∃d n,G[i]?=some d/\nB p g.N (gC J) m i d (f i) n b:=λi Y=>by
   have e:G[i]?=some G[i]:=A! (by lia)
   obtain⟨n,u⟩:=all i _ e;show aV _ n e u
  show 14#(dz 97#(F _ _ h1) gJ 28#(85#(λX k=>fG (lo:=0) (m:=(p:Int).toNat) (λi I Z=>ai b Z/\159#(Z X)/\Paired (AS Z) I ((31#i).filterMap λj=>f j j true)) (bj (ai.new k) aa .nil) (λi I Z _ z=>⟨z.2.1,by rw[z.2.2.length];show Ω (List.length_filterMap_le ..) 23#0⟩) (74#0) ?_ ?_)))
  .intro i I Z Y;show dW λN E y=>?_
   rw[l!]at Y;rw[k?];show br (λd n v=>dX λl=>mj λW w S _=>?_) (Q i Y)
   have x:l[i]?=some l[i]:=A! (by lia)
   show aA (λb B U w0 u=>?_) (S i _ x)
   have t:(31#(i+1)).filterMap (λj=>f j j true)=(31#i).filterMap (λj=>f j j true)++(f i i true).toList:=by
    rw[g_,List.filterMap_append];cases r:f i i true<;>simp[r]
   rw[t];have b:(G.map V.ref)[i]?=some (.ref d):=by rw[j!,v];rfl
   have e:(l.map V.ref)[i]?=20#(l[i]):=by rw[j!,x];rfl
   show 46#0#(fN 53#(N _ _ M) (aE (j:=i) b) 14#(fN 53#(N _ _ w) (aE (j:=i) e) (fN 53#(N _ _ U) ir 4#(?_))));cases r:f i i true with
   | none =>
     rw[r]at u;have u:B = .eM:=u;subst u;show x7 rx (bj N E ?_);rw[show(none:Option (Int×Nat)).toList=[] from rfl,H?]
     show y
   | some R =>
     rw[r]at u
     revert u;show aj λc O L=>?_;subst O
     show Dh 96#0 (0#(fN 53#(N _ _ M) (aE (j:=i) b) 14#(fN 53#(N _ _ w) (aE (j:=i) e) (fN 53#(N _ _ U) ir (iI E (N.put k) aa ?_)))))
     have k:fT Z (η Z X 66#(I++[.ref c])):=fT.put E;show Paired.snoc (244#(z.tups k)) (af c rx (k _ _ (N _ _ L)))
  .intro I Z;show dW λN E y=>?_
   rw[l!]at y;generalize b:(31#p).filterMap (λj=>f j j true)=R at y
   have O:=F.trans N;have hL1:∀k,k<g.N.n->0<gC J k:=λk B=>by
    have:=(g.tR _ (iW B)).l0;unfold gC
    lia
   have inR:∀j d,j<p->f j j true=some d->d∈R:=λj d k v=>by
    rw[<-b];show c_.mpr (af j (z!.mpr k) v)
   have ofR:∀d,d∈R->∃j,j<p/\f j j true=some d:=λd v=>by
    rw[<-b]at v;show aj (λj k e=>?_) (c_.mp v)
    show af j (z!.mp k) e
   have I:∀i,i<p->∀x s,RM.VN g.N (gC J) m i x s ((f i x s).map (·.1)):=λi Y=>by
    show br (λd n v=>dX λl=>kG λW w S b _=>?_) (Q i Y)
    show b
   show 146#18#(λt b=>dU _ _ (.lst 53#(ai.new b _ _ E) (HH (244#(z.tups (ai.new b).tups)))) (.lst (aK.of aa) .nil) (HK _) rx 232#0)
   rw[RQ];have s:=O.trans (315#b);have F:=N.trans (315#b);have N:=ai.new (o:=.lst []) b _ _ E;have W:=244#(AS.tups z (315#b).tups)
   clear E y;generalize η Z t 185#0=w at s F N W
   by_cases B:R=[]
   .rw[eK B];have U:∀x z,x<p->¬ RM.Wy g.N (gC J) m x x true z:=λx z O A=>by
     have b:=I x O x true;cases r:f x x true with
     | none=>rw[r]at b;show b z A
     | some d=>have:=inR x d O r;rw[B]at this;cases this
    show eu (0#(iJ H p J (aq g _ rx (A.same s) (.inl (av m rx P (λt E S z b=>?_))))))
    rcases b with⟨u,l,C,e,H⟩|⟨c,L,y,e⟩
    .show q t E (s.trans z) (.inl (cJ U _ e))
    .obtain⟨U,u⟩:=RM.fJ.mp L;show q t E (s.trans z) (.inr (bh _ _ e (RM.CW U u) (RM.sf U) y))
   .rw[fV B];show aj (λy U H=>?_) (Dl W);subst U
    have u:=H.length;have U:0<y.length:=by
     have:=List.length_pos_iff.mpr B
     lia
    have u:∀(i:Nat) c,y[i]?=some c->∃d,R[i]?=some d/\w c=17#([.int d.1,65#d.2]):=λi c L=>Paired.tN H L
    show cZ 14#(cF X y (λi=>[(R.getD i (0,0)).1,((R.getD i (0,0)).2:Int)]) rx (aK.of N) U (λi c L=>?_) (λi c L P=>?_))
    .show aj (λd v h=>?_) (u i c L)
     have e:R.getD i (0,0)=d:=by rw[B!,v];rfl
     dsimp only;rw[e];show aZ.of h
    show aj (λd v H=>?_) (u i c L)
    show aj (λu w B=>?_) (ofR d (iu v))
    have L:∀j c,j<p->f j j true=some c->d.1<=c.1:=λj c k r=>by
     obtain⟨l,O⟩:=T? (inR j c k r);have h:l<y.length:=by
      have:=(k6.mp O).1
      lia
     have b:=P l h;have e:R.getD i (0,0)=d:=by rw[B!,v];rfl
     have t:R.getD l (0,0)=c:=by rw[B!,O];rfl
     dsimp only at b;rw[e,t]at b;show D8 b
    have i:∀x h,x<p->RM.Wy g.N (gC J) m x x true h->d.1<=h:=λx h O A=>by
     have b:=I x O x true;cases r:f x x true with
     | none=>rw[r]at b;show absurd A (b h)
     | some c =>
       rw[r]at b;have h1:c.1<=h:=b.2 h A;have h2:=L x c O r
       lia
    show br (λ_ _ _=>dX λl=>dI λ_ _ _ _ c _=>?_) (Q u w)
    have l:=c u true d B;show mj (λc h k r=>?_) (RM.JD hL1 (show u<g.N.p from w) l i)
    show(dz (aZ.of H) ir 14#(iJ D G f (bH p g.N (gC J) m rx (F _ _ M) (by lia) ⟨C,λj d e=>let⟨n,w0⟩:=all j d e;⟨n,w0.same F⟩⟩ λb E z=>18#(λt S=>?_))))
    show q t _ ((s.trans z).trans (ai.new S)) (.inr (bh d.2 _ aa c h k))
def Sa(F:Nat->Nat->Prop)(H:Hp)(v:V):Prop:=∃(c:Addr) (l r u:Nat),v = .ref c/\H c=17#([.int (l:Int),.int (r:Int),.int (u:Int)])/\F l r
def Sa.tups(h:Sa F H v)(s:fT H Y):Sa F Y v:=let⟨c,l,r,u,e,hc,h⟩:=h;⟨c,(cC l r u e (s _ _ hc) h)⟩
def Ku:Sp:=114#(∃(l:Addr) (f:List V) (x:Nat) (F:Nat->Nat->Prop) (S:Nat->Prop),G=[.ref l,.int (x:Int)]/\H l=some (.lst f)/\(∀v∈f,Sa F H v)/\S x/\(∀y l r,S y->F l r->S (y^^^r))/\∀c (y u:Nat) H',ai H H'->H' c=17#([.int (y:Int),.int (u:Int)])->S y->Q (.ref c) H')
def HL:Sp:=λa H Q _=>∃(l b:Addr) (f:List V) (d B L:Nat) (F G:Nat->Nat->Prop),a=[.ref l,.ref b]/\H l=some (.lst f)/\(∀v∈f,Sa F H v)/\H b=17#([.int (d:Int),.int (B:Int),.int (L:Int)])/\f.length<=200/\G d B/\(∀l r,F l r->G l r/\G l (r^^^B))/\∀u o Y,ai H Y->Y u=some (.lst o)->o.length=f.length+1->(∀v∈o,Sa G Y v)->Q (.ref u) Y
def Kv:Sp:=114#(∃l B n,G=[.ref l]/\H l=1#(aC B)/\B.length<=200/\RM.QF B/\(∀b∈B,b<2^n)/\∀u o Y,ai H Y->Y u=some (.lst o)->o.length=B.length->(∀v∈o,Sa (λl _=>l<n) Y v)->Q (.ref u) Y)
def Kw:Sp:=114#(141#(∃l R,G=[.ref w,.ref l]/\130#0/\H l=1#(aC R)/\R.length<=200/\RM.Base g.N R/\99#(.bl true)))
def E2(C:Addr):Sp:=λG H Q E=>141#(∃l R,G=[.ref w,.ref l]/\130#0/\H l=1#(aC R)/\R.length<=200/\RM.Base g.N R/\∀D z Y,ai H Y->Y D=1#(aC z)->z.length=R.length->201#(∀m∈z,m<155#0))
def xP:Ok T T.xE 2 Ku:=by
 have dM:=dM T;show T.xE.ok gK 2#0
 .revert h;show ki λl f x F S=>dI λp C N R w q=>?_;subst p
  show af _ (ae (bF 2 gK.nd (pv 1))
   (ae (bF 3 gK.nd ao)
   (ae (dQ PassesOwn.never rx (r8 K (pv 0)) (yM K (n:=3) rx (aM (bq 4 gK.nd) (aM (bq 5 gK.nd) (aM (bq 6 gK.nd) cX))))
   (ak (bD (eO (aF dM P T.jD.c aL (bW (pv 2) (pv 4)))) (ae (vR (i:=2) gK.nd rx (Or.inl rx) (pv 5) yK)
   (ak (vR (i:=3) gK.nd rx (Or.inl rx) (pv 6) yK))) aO)))
   (ak (ay (cU (bW (pv 2) (pv 3)))))))) ?_
  show JL ?_;intro c d I b W e;show(0#(av l rx 29#C (iX (K:=K) (a:=l) (xs:=f) (λi M Z=>∃(y u:Nat) (D j X:Option V),M=[some (.ref l),8#(x:Int),8#(y:Int),8#(u:Int),D,j,X]/\Z=H/\S y) (kZ x 0 (cC none none none rx rx R)) (by intro i M Z _;show fX λ_ _=>bz λ_ _ _ _ z _=>?_;show by rw[z];show aK.of C) ?_ ?_)))
  .intro i v t M Z Y;show fX λy u=>bz λD j X r k g=>?_;subst r k
   show dX (λc=>bz λd B m o L J=>?_) (N v (iu Y));subst o
   show bh c _ rx (aZ.of L) rx (kZ _ _ 49#0);show(0#(aV _ d rx 14#(gE (λ_=>?_) λ_=>kZ y u (cC _ _ _ rx rx g))))
   show(0#(bT 14#(ah rx (bT (kZ (y^^^B) (u^^^m) (cC (8#(d:Int)) (8#(B:Int)) (8#(m:Int)) ?_ rx (w y d B g J)))))));change[_,_,some (V.int (Builtin.bitXor _ _)),some (V.int (Builtin.bitXor _ _)),_,_,_]=_;rw[xor_int,xor_int]
  .intro M Z;show fX λy u=>bz λD j X O U g=>?_;subst O U
   show(0#18#(λc L=>q c y u _ (ai.new L) aa g))
def uD:Ok T T.ux 2 HL:=by
 have dM:=dM T;show T.ux.ok qV λ_ A _ s H b Q E P h=>?_
 .revert h;show ki λl b f A B=>bz λE F G t C=>dI λg U c d x q=>?_;subst t
  show af _ (ae (bF 2 qV.nd (bu (bB (pv 1))))
   (ae (dQ PassesOwn.never rx (r8 K (pv 0)) (bq 3 qV.nd)
   (ak (bD (eO (aF dM P T.jD.c aL (bW (ee K (pv 3)) (ee K (pv 1))))) (ak (263#(dN C! L! M! cy (pv 2) (bB (cU (aN (ee K (pv 3)) (bW (aB ju (ee K (pv 3)) (ee K (pv 1))) (aB ju (ee K (pv 3)) (ee K (pv 1)))))))))) (ak (263#(dN C! L! M! cy (pv 2) (bB (pv 3))))))))
   (ak (ay (pv 2))))) ?_
  show GP ?_;intro c e h i W;show 146#18#(λD s=>?_)
  have c:ai H (η H D (.lst [.ref b])):=ai.new s;have k:η H D (.lst [.ref b]) D=1#([.ref b]):=aa;generalize η H D (.lst [.ref b])=S at c k;show 14#(av l rx 29#(c _ _ C) (iX (K:=K) (a:=l) (xs:=f) (λi M Z=>∃m I,M=[some (.ref l),240#0,214#0,m]/\ai H Z/\19#Z/\I.length=i+1/\∀v∈I,Sa G Z v) (dU none _ rx c k rx (λv h=>by rw[a!.mp h];show⟨b,(cC A B E rx (c _ _ U) d)⟩)) (by intro i M Z _;show aA λ_ _ _ z _=>?_;show aK.of (z _ _ C)) ?_ ?_))
  .intro i v b M Z Y;show fX λm I=>kG λn N e f k=>?_;subst n
   show dX (λc=>bz λp l t O L R=>?_) (g v (iu Y));subst O
   have b:=(k6.mp Y).1;have y:=N _ _ L;have X:=N _ _ U;have n:∀{w:Hp} {d:Addr} {r u:Nat},ai Z w->w d=17#([.int (p:Int),.int (r:Int),.int (u:Int)])->G p r->48#(I++[V.ref d])=i+1+1/\∀v∈I++[V.ref d],Sa G (η w D 66#(I++[.ref d])) v:=λ{w d r u} b J c=>⟨by rw[U',f];rfl,λv h=>by
    have g:fT w (η w D 66#(I++[.ref d])):=fT.put (b _ _ e);rcases d!.mp h with h|h
    .show(k v h).tups (b.tups.trans g)
    .rw[a!.mp h];show⟨d,(cC p r u rx (g _ _ J) c)⟩⟩
   show 14#(dz (aZ.of y) ir 28#(dz (aZ.of X) gJ (aV _ A rx (ah rx (gE (λ_=>?_) λ_=>?_)))))
   .show 146#⟨100#(aK.of e),ah rx (dz (aZ.of y) gJ 14#(dz (aZ.of y) ir 28#(dz (aZ.of X) ir (bT (ah rx (dz (aZ.of y) (aE (j:=2) rx) (ah rx (dz (aZ.of X) (aE (j:=2) rx) (bT 18#(λd J=>?_))))))))))⟩
    dsimp only at J ⊢;rw[xor_int,xor_int]at *;have b:=ai.new (o:=.tup [.int (p:Int),.int 7#(l^^^B),.int 7#(t^^^E)]) J;obtain⟨g,c⟩:=n b aa (x p l R).2;show cF D _ _ rx rx (b _ _ e) (iN (by lia)) (dU _ _ rx ((N.trans b).put s) aa g c)
   .obtain⟨g,c⟩:=n 186#0 y (x p l R).1;show 146#⟨100#(aK.of e),ah rx (cF D _ _ rx rx e (iN (by lia)) (dU _ _ rx (N.put s) aa g c))⟩
  .intro M Z;show fX λm I=>kG λw N e f k=>?_;subst w
   show 14#(q D I Z N e f k)
def kY:Ok T T.sH 3 Kv:=by
 have xP:=xP T;have uD:=uD T;show T.sH.ok jB 2#0
 .revert h;show gZ λl B n=>dI λb C c G J q=>?_;subst b
  show af _ (ae (bF 1 jB.nd (bu bS))
   (ae (dQ PassesOwn.never rx (Lv K (by rfl) T.gV 131#0) (yM K (n:=2) rx (aM (bq 2 jB.nd) (aM (bq 3 jB.nd) cX)))
   (ae (bF 4 jB.nd (aF xP P T.xE.c aL 269#(pv 3)))
   (ak (bD (az mu (ee K (pv 4)) ao (aH _)) (ak (bF 1 jB.nd (aF uD P T.ux.c aL 269#(cU (aN (aB jt (O5 PySem.F.plainAttrs_int adl adm Lr (ee K (pv 4))) ao) (bW (ee K (pv 4)) (aB ju (ee K (pv 4)) (aB qx ao (pv 2))))))))) aO))))
   (ak (ay (pv 1))))) ?_
  show JM ?_;intro b f I c d;show 18#(λD b=>?_)
  have F:ai H (61#H):=ai.new b;have k:η H D 185#0 D=1#([]):=aa;generalize 61#H=S at F k;show 14#(av l rx 29#(F _ _ C) (FQ (K:=K) (a:=l) (xs:=aC B) (λi M Z=>∃j f A m E,M=[some (.ref l),some (.ref j),A,m,E]/\ai H Z/\Z j=some (.lst f)/\f.length=i/\∀v∈f,Sa (λl r=>l<n/\RM.Sp (B.take i) r) Z v) ⟨D,(bH [] none none none rx F k rx (137#0))⟩ (by intro i M Z _;show fX λ_ _=>bz λ_ _ _ _ z _=>?_;show aK.of (z _ _ C)) ?_ ?_))
  .intro i x c M Z O;show fX λj f=>bV λA m E b N s Y z d=>?_;subst b
   show aj (λb U e=>?_) (cS O);subst e
   have e:=(k6.mp U).1;have t:ai Z (η Z c (182#(.int (b:Int)))):=ai.new d;have d:η Z c (182#(.int (b:Int))) c=17#([.int (i:Int),.int (b:Int)]):=aa;generalize η Z c (182#(.int (b:Int)))=w at t d;show aq c _ rx (aZ.of d) 49#0;show(0#(cD j f b _ (λy=>RM.Sp (B.take i) (b^^^y)) rx (t _ _ s) (λv k=>(z v k).tups t.tups) (by change RM.Sp _ (b^^^b);rw[j_];show .zero) (λy l r R W=>by change RM.Sp _ (b^^^(y^^^r));rw[<-i?];show R.xor W.2) (λc y u d x L X=>?_)))
   have g:B.take (i+1)=B.take i++[b]:=by rw[E!,U];rfl
   have p:∀{r},RM.Sp (B.take i) r->RM.Sp (B.take (i+1)) r:=λh=>h.mono λc L=>.mem (by rw[g];show R4 _ L)
   have w:RM.Sp (B.take (i+1)) y:=by
    have:=(p X).xor (.mem (b:=b) (by rw[g];show j4 _ h!))
    rwa [ad2 b y,i?,j_,u?]at this
   have g:y≠0:=λe=>G i b U (by rw[e,u?]at X;show X)
   have F:y<2^n:=w.lt λc L=>J c (List.mem_of_mem_take L)
   show 14#(dz (aZ.of L) gJ (bT 28#(mW (by lia) ?_)))
   show(0#(dz (aZ.of L) gJ 46#(ah rx ⟨rfl,bT 14#(dz (aZ.of L) gJ 28#(dz (aZ.of L) ir (ah rx (bT ⟨85#3#0,bT 18#(λd J=>?_)⟩))))⟩)))
   dsimp only at J ⊢;rw[QG g,oF,xor_int]at *;have C:=ai.new (o:=.tup [.int 7#y.log2,.int (y:Int),.int 7#(u^^^2^i)]) J;have b:=(t.trans x).trans C;show vM j d f _ (bH _ _ _ (λl r=>l<n/\RM.Sp (B.take (i+1)) r) rx (b _ _ s) (λv k=>(z v k).tups b.tups) aa (iI (by lia) ⟨(w_ g).mpr F,w⟩ (λl r h=>bj ⟨h.1,p h.2⟩ h.1 ((p h.2).xor w)) λy G t D x H C=>?_))
   show⟨y,(bH G _ _ _ rx ((N.trans b).trans D) x (by lia) C)⟩
  .intro M Z;show fX λj f=>bV λA m E g N s Y z=>?_;subst g
   rw[aD]at Y;show 14#(q j f Z N s Y λv k=>let⟨c,l,r,u,e,L,h⟩:=z v k;⟨c,(cC l r u e L h.1)⟩)
def xQ:Ok T T.xF 9 Kw:=by
 have Ko:=Ko T;have jJ:=jJ T;have kY:=kY T;show T.xF.ok Ai 2#0
 .revert h;show 285#(gZ λg l t=>dI λy j C m a q=>?_);subst y
  show af _ (ae (bD (PW.pt (j5 (az nL (44#(pv 1)) (aF Ko P T.Kf.c aL 131#0) (aH _)) (iK (iL (eO (bI (S6 K rfl) (by rfl) T.L0 _z (bB (ck (own:=["ring"]) (fq:=["web"]) (js:=[0]) (fb Ai) rfl (r8 K (pv 1)) 6#(154#(["ring","web"])) 75#0 6#(aF jJ P T.jF.c aL 269#(pv 0)))))))))) (ak (ay qf)) aO)
   (ak (ay (cY cT (44#(aF kY P T.sH.c aL (bB (pv 1)))) (44#(pv 1)) (aH _))))) ?_
  show gu ?_;intro v f;have X:=a.len;show 14#(qm rx (127#C) 28#(191#(av g rx j λS F=>4#(x7 (by rw[aD,X]) ?_))))
  have L:=F _ _ C;show 14#(av l rx 29#L (λD M=>bQ (xs:=aC t) (λi I Z=>ai S Z/\19#Z/\I=(List.replicate i true).map V.bl) (bj (ai.new M) aa rx) (λi I Z _ z=>bj 53#(z.1 _ _ L) z.2.1 (by rw[z.2.2,Δ,R?];show Ξ _)) (j? (iN (by rw[aD];lia))) ?_ ?_))
  .intro i x I Z O;show dW λN e c=>?_;subst c
   show aj (λr b o=>?_) (cS O);subst o
   obtain⟨R,W⟩:=a.ring r (iu b);show 46#0#(191#(dU g r rx (j.same (F.trans N)) W R λw u=>iI (u _ _ e) ((N.trans u).put M) aa (by rw[List.replicate_succ',o!];rfl)))
  .intro I Z;show dW λN e k=>?_;subst k
   show kZ D _ (bA rx (aK.of e) _ rx ?_);rw[show(List.replicate (aC t).length true).all id=true from by rw[l?];show λb U=>(List.mem_replicate.mp U).2]
   show cZ 14#(bN l t J.length rx (dF (N _ _ L) m ((RM.LX t).mp a.ind) (λb U=>(a.ring b U).2) λn o w u d Y _=>?_))
   show(qm rx (127#d) 14#(qm rx (.inl 53#(u _ _ (N _ _ L))) ⟨rfl,?_⟩));rw[eK (by rw[Y,aD])]
   show q w (160#u)
def rM:Fx T T.rC 10 (E2 a.rz):=by
 have xQ:=xQ T;have kY:=kY T;have dM:=dM T;have eW:=eW T;show T.rC.Cz jg 2#0
 .revert h;show gZ λG p J=>gZ λg l R=>dI λb Q d e c q=>?_;subst b
  show af _ (ae (bD (iL (eO (aF xQ P T.xF.c aL 27#(pv 1)))) (104#T.RD) aO)
   (ae (bF 2 jg.nd (aF kY P T.sH.c aL (bB (pv 1))))
   (ae (bF 3 jg.nd (bu bS))
   (ae (uS rx (111#(44#(pv 1))) (yJ (i:=4) jg.nd rx (Or.inr rx))
   (ak (263#(dN C! L! M! cy (pv 3) (bB (aF eW P T.ji.c aL 27#(ck (own:=["lead","row","places"]) (fq:=["place"]) (js:=[4]) (fb jg) rfl (r8 K (pv 2)) 6#(yM K (n:=3) rfl (aM (154#(["lead","row","places","place"])) (aM (bq 1 (jn ["lead","row","places","place"])) (aM (bq 2 (jn ["lead","row","places","place"])) cX)))) 6#(iD (eO (aF dM P T.jD.c aL (bW (pv 2) (pv 3))))) 6#(pv 0))))))))
   (ak (ay (pv 3))))))) ?_
  show Eh ?_;intro v f b i W j;show(0#(iJ G p J (bN g l R rx (dF Q d e c λS F=>14#(cZ ?_)))))
  show 14#(bN l R J.length rx (dF (F _ _ d) e ((RM.LX R).mp c.ind) (λb U=>(c.ring b U).2) λx o Z N j f B=>?_))
  show 18#(λD r=>?_)
  have u:ai Z (61#Z):=ai.new r;have b:η Z D 185#0 D=1#(aC []):=aa;generalize 61#Z=w at u b;have c:=160#u;have P:H D=none:=(F.trans N).free r;show 14#(qm rx (.inl 53#(c _ _ d)) 28#(bj (by rw[aD];lia) (by rw[aD];lia) ?_))
  show oO (lo:=0) (n:=((aC R).length:Int).toNat) (λi M X=>∃E f,M=[some (.ref G),some (.ref l),some (.ref x),214#0,E]/\ai H X/\ai Z X/\X D=1#(aC f)/\f.length=i/\∀m∈f,m<155#0) (aV none [] rx (dF c u b rx (137#0))) ?_ ?_
  .intro i c M X Y;show fX λE f=>dI λb w v s u A=>?_;subst b
   rw[aD,l!]at Y;rw[k?];have c:=v _ _ j;show 146#⟨100#(aK.of s),0#(av x rx 29#c (λC F=>bQ (xs:=o) (λj I t=>ai X t/\159#(t C)/\∃b,I=aC b/\b.length<=j/\∀k∈b,k<J.length) (bj (ai.new F) aa (av [] rx (Ξ _) (137#0))) (by intro j I t _;show cE λz y b e l _=>?_;show bj 53#(z _ _ c) y (by rw[e,aD];show l)) (j? (iN (by lia))) ?_ ?_))⟩
   .intro j x I t O;show cE λe o b c l h=>?_;subst c
    show dX (λc=>bz λd z H y L j=>?_) ((B x (iu O)).tups (v.trans e).tups);subst y
    show bh c _ rx (aZ.of L) rx (kZ _ _ (aR rx _ _ rx (bh _ _ rx rx rx (0#(aV _ i rx 232#0)))));show gE (λ_=>14#(iI o (e.put F) aa (av (b++[d]) ((dc _ _).symm) (298#l) λk B=>?_))) λ_=>bj e o (av b rx (Nat.le_succ_of_le l) h)
    rcases d!.mp B with B|B
    .show h k B
    .rw[a!.mp B];show j
   .intro I t;show cE λe o b c l h=>?_;subst c
    show cD G p J C _ rx (Q.same (w.trans e)) g.Fv o h ?_;show bC D _ _ rx rx (e _ _ s) (aR (iN (by rw[aD];lia)) _ (f++[orM b]) rx (dF ((w.trans e).put P) ((v.trans e).put r) (by rw[aa,dc]) (by rw[U',u];rfl) λm d=>?_))
    rcases d!.mp d with d|d
    .show A m d
    .rw[a!.mp d];show DU h
  .intro M X;show fX λE f=>dI λz w v s u A=>?_;subst z
   rw[aD,l!]at u;show 14#(q D f X w s u A)
def Od(t1 C:Addr)(c e:Pos):Sp:=λG H Q _=>∃w p J,∃g:aJ p J,G=[.ref w]/\130#0/\H t1=112#(fC (kK "least_ways") c)/\H C=112#(fC (kK "by_length") e)/\
 ∀D R Y,ai H Y->Y D=1#(aC R)->201#(RM.Base g.N R)
def gx:Ok T T.jX 10 318#Od:=by
 have n7:=n7 T;have i0:=i0 T;have gw:=gw T;have rL:=rL T;show T.jX.ok dS 2#0
 .revert h;show 285#(dX λg=>kG λb j Yb WM q=>?_);subst b
  show af _ (ae (iE (i:=1) dS.nd rfl rfl (own:=["chord"]) (fq:=[]) (js:=[]) (fb dS) rfl (r8 K (aF n7 P T.vC.c aL 131#0)) 6#(154#(["chord"])) 75#0 6#(aB qx ao (pv 0)))
   (ae (bF 2 dS.nd (bu bS))
   (ae (uL PassesOwn.never (az mu (44#(pv 1)) ao (aH _)) (ae (dB (i:=3) dS.nd rx (Or.inr rx) (D9 K (pv 1)))
   (ae (dB (i:=4) dS.nd rx (Or.inr rx) (ee K (aF i0 P T.mL.c qC 27#(pv 3))))
   (ae (263#(dN C! L! M! cy (pv 2) (bB (pv 4))))
   (ak (iE (i:=1) dS.nd rfl rfl (own:=["later"]) (fq:=["marks","ring"]) (js:=[3,4]) (fb dS) rfl (r8 K (dH (WH K) (pv 1) (eB ao) fu)) 6#(154#(["later","marks","ring"])) 75#0 6#(iw (eO (aF gw P T.jW.c aL (bW (pv 2) (pv 0)))) (aB ju (pv 0) (pv 1)) (pv 0))))))))
   (ak (ay (aF rL P T.mK.c aL 27#(pv 2))))))) ?_
  show Aj ?_;intro b f c d e i k;have b:=g.len;have b:g.N.dR.length<=24:=by
   have:g.N.dR.length<=48#31#g.N.n:=N! ..;rw[K!]at this;have W:g.N.n=J.length:=rfl
   lia
  have b:(100:Nat)<sizeLine:=by decide
  show 14#(191#(av g rx j λDc S d k b=>av Dc rx 29#b λX f=>bQ (K:=K) (a:=Dc) (xs:=aC g.N.dR) (λi I Z=>ai S Z/\159#(Z X)/\I=aC ((g.N.dR.take i).map λc=>2^c)) (bj (ai.new f) aa rx) (λi I Z _ z=>bj 53#(z.1 _ _ b) z.2.1 (by rw[z.2.2,aD,Δ,O!];lia)) (dZ (by rw[aD];lia)) ?_ ?_))
  .intro i x I Z O;show dW λN e Y=>?_;subst Y
   obtain⟨c,d,rfl⟩:∃c,g.N.dR[i]?=some c/\x = .int (c:Int):=by
    unfold aC at O;rw[j!]at O;show aj (λc R W=>?_) (vN.mp O)
    show af c R W.symm
   have b:=(RM.fJ.mp (iu d)).1;have b:c<J.length:=b;show 46#(ah rx (bT (dF (85#3#0) e (N.put f) aa ?_)))
   rw[E!,d];change _=aC (List.map _ (List.take i g.N.dR++[c]));rw[o!,List.map_singleton,dc];dsimp only;rw[oF]
  intro I Z;show dW λN e b=>?_;subst b
  rw[aD,I!]at e;show 18#(λF b=>?_)
  have u:ai Z (η Z F 185#0):=ai.new b;have m:=u _ _ e;have f:η Z F 185#0 F=1#(aC []):=aa;have hF0:H F=none:=(k.trans N).free b;have r:X≠F:=λz=>by rw[<-z,e]at b;cases b
  have e:=(k.trans N).trans u;generalize η Z F 185#0=w at m f e;have t:g.N.dR.Nodup:=RM.MU;have Z:=C2 g;show⟨λn M d=>∃X l k s w y,M=[304#0,some (.ref X),some (.ref F),w,y]/\ai H d/\d X=1#(aC k)/\d F=1#(aC l)/\X≠F/\(∀b∈l,g.N.Ring b/\b<2^g.N.n)/\RM.LW l/\RM.Wt g.N l k s/\n=k.length,iJ _ X [] (bH _ _ none none rx e m f (dF r (137#0) RM.Tv (RM.Wt.start t) rx)),?_⟩
  intro n M d;show sX λX l k s=>aS λw y e u E=>dI λP Z7 N Q f h=>?_;subst e h
  show 14#(qm rx (127#E) (bT 28#(gE (λn=>?_) (λn=>?_))))
  case refine_2 =>
   have C : ¬(0:Int)<((aC k).length:Int):=λz=>n (eK z)
   have e:k=[]:=adM (by rw[aD]at C;lia)
   subst e;have U:l.length=g.N.dR.length:=by
    have:=f.sum;rw[f_]at this
    lia
   show(0#(191#(cC g F l rx (j.same u) (dF P (by lia) (λm d=>(N m d).2) (u _ _ WM) λD v h r A L t=>?_))))
   show q D v h (u.trans A) L (RM.Base.perm ⟨U,N,Q⟩ t)
  have n:(0:Int)<((aC k).length:Int):=lZ n;rw[aD]at n;show⟨λq Y=>∃X l d s w y,q=[304#0,some (.ref X),some (.ref F),w,y]/\ai H Y/\Y X=1#(aC d)/\Y F=1#(aC l)/\X≠F/\(∀b∈l,g.N.Ring b/\b<2^g.N.n)/\RM.LW l/\RM.Wt g.N l d s/\d.length<k.length,λq Y=>sX λX l d s=>aS λw y e D r=>dI λt v C L M S=>gB _ S X (cD l d s w y e D r t v (iI C L M rx)),?_⟩
  obtain⟨m,k,rfl⟩:∃m d,k=m::d:=by
   cases k with
   | nil=>simp at n
   | cons m d=>show kZ m d rfl
  have s:m<155#0:=f.lt m h!;show 14#(fN (aK.of E) gJ (?_));show aG (λr d n q=>?_) f.odd
  show(0#(191#(bh g _ rx (j.same u) (u _ _ Yb) (.inl (av m rx s (λr h A t=>?_))))))
  rcases t with⟨j,_⟩|⟨e,G,D,B,M,w⟩
  .show aj (λx O t=>?_) (RM.Gv Z m d n)
   rw[q]at t;show absurd t (j x _ O)
  show(dz (aZ.of D) ir (?_));have d:=A _ _ P;have q:=A _ _ E;have j:l.length<=24:=by have:=f.sum;lia
  show 146#⟨(100#(aK.of d)),ah rx (cF F _ _ rx rx d (by rw[aD];lia) ?_)⟩
  have p:ai H (η h F 66#(aC l++171#e)):=(u.trans A).put hF0;have j:η h F 66#(aC l++171#e) F=1#(aC (l++[e])):=by rw[aa,dc]
  have n:η h F 66#(aC l++171#e) X=1#(aC (m::k)):=162#Z7
  generalize η h F 66#(aC l++171#e)=d at p j n;have h:l7 (aC (m::k)) (some (1:Int)) none=aC k:=F6 (m::k) (i:=1) 23#0
  have q:=f.next w
  revert q;show br λr A _ q=>?_
  have r:k.length<=24:=by have:=f.sum;rw[y!]at this;lia
  show(0#(aq X _ rx (aK.of n) (λc L=>?_)))
  rw[h];have C:ai H (η d c (.lst (aC k))):=p.trans (ai.new L);have p:=ai.new L (o:=.lst (aC k)) _ _ j;have j:η d c (.lst (aC k)) c=1#(aC k):=aa;generalize η d c (.lst (aC k))=n at C p j;show av c rx 29#j λr h=>bQ (K:=K) (a:=c) (xs:=aC k) (λi I d=>ai n d/\159#(d r)/\I=aC ((k.take i).map λv=>if g.N.par e v=true then v^^^m else v)) (bj (ai.new h) aa rx) (λi I d _ z=>bj 53#(z.1 _ _ j) z.2.1 (by rw[z.2.2,aD,Δ,O!];lia)) (dZ (by rw[aD];lia)) ?_ ?_
  .intro i x I d O;show dW λn j s=>?_;subst s
   obtain⟨v,s,rfl⟩:∃v,k[i]?=some v/\x = .int (v:Int):=by
    unfold aC at O;rw[j!]at O;show aj (λc R W=>?_) (vN.mp O)
    show af c R W.symm
   have c:v<155#0:=f.lt v (sY _ (iu s));have t:47#7#(e&&&v)<=1000:=Ω (bits_le (adV _ c)) (by lia)
   have u:∀y,(if g.N.par e v=true then v^^^m else v)=y->aC ((k.take i).map λv=>if g.N.par e v=true then v^^^m else v)++171#y=aC ((k.take (i+1)).map λv=>if g.N.par e v=true then v^^^m else v):=λy x=>by
    rw[E!,s];change _=aC (List.map _ (List.take i k++[v]));rw[o!,List.map_singleton,dc,x]
   show 46#0#(bH _ _ e v rx rx rx t (λk i=>232#0))
   rw[LJ (g:=g) c];have W:=n.trans i;have R:=i _ _ j;cases U:g.N.par e v with
   | true =>
     show eu (0#(bT (iI R (W.put h) aa ?_)));dsimp only;rw[xor_int];show u _ (ο U)
   | false=>show cZ 124#(iI R (W.put h) aa (u _ (ξ (by rw[U];decide))))
  .intro I d;show dW λn j t=>?_;subst t
   rw[aD,I!]at j;show kZ r (l++[e]) (bH _ A _ _ rx (C.trans n) j (n _ _ p) (dF (λz=>?_) (λb U=>?_) (RM.Q8 Q (f.fM m h!) w) q (by rw[Δ];simp)))
   .rw[z,p]at h;cases h
   .rcases d!.mp U with U|U
    .show N b U
    .rw[a!.mp U];show⟨B,M⟩
def E3(t:Addr)(e:Pos):Sp:=λG H Q _=>141#(∃m:Nat,136#(m:Int)/\130#0/\m<155#0/\H t=112#(fC (kK "least_ways") e)/\∀b Y,ai H Y->Q (.ref b) Y)
def Yc(n:Nat)(H:Hp)(v:V):Prop:=∃(c:Addr) (r:Nat) (x y:V),v = .ref c/\H c=17#([.int (r:Int),x,y])/\r<2^n
def Yc.tups(h:Yc n H v)(s:fT H Y):Yc n Y v:=let⟨c,r,x,y,e,hc,h⟩:=h;⟨c,(cC r x y e (s _ _ hc) h)⟩
def RS(t1 C:Addr)(c e:Pos):Sp:=λG H Q _=>∃w p J,∃g:aJ p J,G=[.ref w]/\130#0/\H t1=112#(fC (kK "least_ways") c)/\H C=112#(fC (kK "by_length") e)/\
 ∀b o Y,ai H Y->Y b=some (.tup o)->o.length<=24->(∀v∈o,Yc J.length Y v)->Q (.ref b) Y
def AU(g:aJ p ts)(h:RM.Base g.N b):b.length<=24:=by
 rw[h.len];have:=g.len;have R:g.N.dR.length<=48#31#g.N.n:=N! ..;rw[K!]at R;have W:g.N.n=ts.length:=rfl
 lia
def pW:Ok T T.pL 7 (E3 a.bg aX):=by
 have eL:=eL T;have fj:=fj T;show T.pL.ok Bw 2#0
 .revert h;show 285#(fX λg m=>kG λL j d i q=>?_);subst L
  show 84#(ay (aF fj P T.iG.c aL (bB (aF eL P T.h9.c aL 27#(pv 1)))));have M:=g.p2;show(0#(191#(dU g m rx j d i λD c v S r F k t=>?_)))
  obtain⟨C,all⟩:=id t;show iJ D c v (bH p g.N (gC J) m rx k (by lia) t λb Z N=>q b Z (F.trans N))
def pX:Ok T T.pM 11 318#RS:=by
 have gx:=gx T;have rM:=rM T;have pW:=pW T;show T.pM.ok jP 2#0
 .revert h;show 285#(dX λg=>kG λY j W M q=>?_);subst Y
  show af _ (ae (bF 1 jP.nd (aF gx P T.jX.c aL 131#0))
   (ae (bF 2 jP.nd (aF rM P T.rC.c qC 27#(pv 1)))
   (ak (ay (193#(ck (own:=["ring","own"]) (fq:=["web"]) (js:=[0]) (fb jP) rfl (zj K (by rfl) T.Hy 269#(pv 2)) 6#(yM K (n:=2) rfl (aM (154#(["ring","own","web"])) (aM (bq 1 (jn ["ring","own","web"])) cX))) 75#0 6#(cU (aN (pv 0) 269#(aF pW P T.pL.c aL (bW (pv 2) (pv 1))))))))))) ?_
  show jf ?_;intro b f;have b:=g.len;show 14#(191#(j3 g rx j W M λD R S F b f=>?_))
  have c:=AU g f;show(0#(191#(bN g D R rx (dF (j.same F) b (by lia) f λk l Z N e c C=>?_))))
  have c:=N _ _ b;have A:=F.trans N;show(0#(bh D k rx 29#c 29#e (λX z=>qD (xs:=aC R) (ys:=aC l) (by rw[aD,aD];lia) (λi I w=>ai Z w/\159#(w X)/\I.length=i/\∀v∈I,Yc J.length w v) (iI (ai.new z) aa rx (137#0)) (by intro i I w _;show mj λd b m _=>?_;show iI 53#(d _ _ c) 53#(d _ _ e) b (by lia)) (dZ (by rw[aD];lia)) ?_ ?_)))
  .intro i x y e I w O c;show mj λu s d U b=>?_
   show aj (λr x k=>?_) (cS O);subst k
   show aj (λm l i=>?_) (cS c);subst i
   have k:ai w (η w e (.tup [.int (r:Int),.int (m:Int)])):=ai.new b;have i:=(A.trans u).trans k;show aq e _ rx (aZ.of aa) (aR rx _ _ rx (bh _ _ rx rx rx (0#14#(ah rx (191#(dU g m rx (j.same i) (C m (iu l)) (i _ _ W) λb t y=>18#(λc L=>?_)))))))
   have e:=(k.trans y).trans (ai.new (o:=.tup [.int (r:Int),.int (m:Int),.ref b]) L);have C:=e _ _ s;show dF C ((u.trans e).put z) aa (by rw[U',d];rfl) λv l=>?_
   show 316#l
   .show(U v z).tups (e.tups.trans (fT.put C))
   .rw[a!.mp z];show⟨c,(cC r _ _ rx (fT.put C _ _ aa) ((f.ring r (iu x)).2))⟩
  .intro I w;show mj λu s d U=>?_
   rw[aD]at d;show aV X _ rx (.inl ⟨aK.of s,λl C=>q l I _ ((A.trans u).trans (ai.new C)) aa (by lia) λv h=>(U v h).tups (ai.new C).tups⟩)
def Kx(t1 C:Addr)(c e:Pos):Sp:=λG H Q _=>∃w p J,∃g:aJ p J,G=[.ref w]/\130#0/\H t1=112#(fC (kK "least_ways") c)/\H C=112#(fC (kK "by_length") e)/\
 ∀D R Y,ai H Y->Y D=1#(302#(R.map (G! J)))->201#(RM.Base g.N R)
def xR:Ok T T.xG 11 318#Kx:=by
 have gx:=gx T;have iZ:=iZ T;show T.xG.ok Ak 2#0
 .revert h;show 285#(dX λg=>kG λL j n M q=>?_);subst L
  show 84#(ay (ck (own:=["ring"]) (fq:=["web"]) (js:=[0]) (fb Ak) rfl (r8 K (aF gx P T.jX.c aL 131#0)) 6#(154#(["ring","web"])) 75#0 6#(aF iZ P T.mJ.c qC 269#(pv 0))))
  have W:=g.Fv;show 14#(191#(j3 g rx j n M λD R S F m l=>?_))
  have c:=AU g l;show av D rx 29#m λX f=>bQ (K:=K) (a:=D) (xs:=aC R) (λi I Z=>ai S Z/\159#(Z X)/\I=302#((R.take i).map (G! J))) (bj (ai.new f) aa rx) (λi I Z _ z=>bj 53#(z.1 _ _ m) z.2.1 (by rw[z.2.2,Δ,Δ,O!];lia)) (dZ (by rw[aD];lia)) ?_ ?_
  .intro i x I Z O;show dW λN e Y=>?_;subst Y
   show aj (λr b k=>?_) (cS O);subst k
   have d:=(l.ring r (iu b)).2;show 46#0#⟨B,(bC p J _ rx (j.same (F.trans N)) W (.inl (av r rx d (λw u=>iI (u _ _ e) ((N.trans u).put f) aa ?_))))⟩
   rw[E!,b];change _=List.map V.int (List.map (G! J) (List.take i R++[r]));rw[o!,o!];rfl
  .intro I Z;show dW λN e o=>?_;subst o
   rw[aD,I!]at e;show q X R Z (F.trans N) e l
def HM(C:Addr)(f:Str):Sp:=114#(∃x u v,G=[.ref x,u,v]/\H x=some (u7 x (.ref C) none)/\∀d,H d=none->d≠x->Q .eM (η (η H x (u7 x (.ref C) (some d))) d (.xd [(f,v)])))
def B7(e b:Addr):Sp:=λG H Q E=>∃w p J,∃g:aJ p J,∃S,136#S/\130#0/\rK J S (181#(.ref e)) λm =>
 (g.N.iO m->99#.eM)/\∀(c:Nat) d Y,ai H Y->(nN p J (m:Int))[0]?=some c->Y d=some (.xd [("point",.int (c:Int))])->E (.ref b) (some d) Y
def lT(T:317#a):i5 P w K mg base uQ 1 a.lM a.lN ["self","words","point"] (HM a.bE "point"):=by
 show T.AJ.ok yw (λG H Q E h=>?_) (λ_ A _ s H G Q E b h=>?_)
 .revert h;show cK λx u v L _=>?_;subst L
  rfl
 .revert h;show bz λx u v Y O q=>?_;subst Y
  show af _ (ae (cg (Gm T.xi_NotEven T.mR (by rfl) T.rJ 27#(pv 1)))
   (ak (LO T.xi_NotEven (pv 0) (pv 2)))) ?_
  show gp ?_;intro c;show(0#(bC x none [u] rx (dl rx) O (λZ D=>?_)))
  rw[Qq O]at D;subst D;show(0#(av x rx O (λd J y=>q d J y)))
def pY:Fx T T.pJ 6 (B7 a.eV a.bE):=by
 have ia:=ia T;have lT:=lT T;show T.pJ.Cz tH 2#0
 .revert h;show 285#(aA λg S k Y q=>?_);subst k
  show af _ (ae (bF 2 tH.nd (aF ia P T.kN.c dJ.passes 27#(pv 1)))
   (ak (bD (az (Pa K P.units) (pv 2) (bu bS) (aH _)) (ak (CV dJ rx (by rfl) T.xK T.xi_NotEven T.mR lT (P.mono 3#0) T.AK (bW aW (D9 K (pv 2))))) aO))) ?_
  show Bt ?_;intro v f;show(0#⟨B,(bC p J S rx Y g.Fv ?_)⟩);rcases q with⟨m,rfl,I,q,f⟩|⟨M,q⟩
  case inr=>show .inr ⟨M,q⟩
  show .inl (av m rx I (λD n F L=>(ah rx 18#(λl C=>?_))))
  have N:ai H (η n l 185#0):=F.trans (ai.new C);have u:η n l 185#0 D=1#(aC (nN p J (m:Int))):=ai.new C _ _ L;have w:η n l 185#0 l=1#([]):=aa;generalize η n l 185#0=Z at N u w;show dU _ _ (.lst (aK.of u) (i9 _)) (.lst (aK.of w) .nil) (iV _) rx 232#0;rw[DK]
  by_cases t:nN p J (m:Int)=[]
  .rw[eK t];show cZ (q ((F1 g I).mp t) _ N)
  .rw[fV t];obtain⟨c,i⟩:∃c,(nN p J (m:Int))[0]?=some c:=by
    cases e:nN p J (m:Int) with
    | nil=>show absurd e t
    | cons x r=>show⟨x,rfl⟩
   show eu 14#(fN (aK.of u) (aE (j:=0) (oH i)) 18#(λx O=>cC x _ _ rx aa λd e y=>b8 rx (some d) ?_ ?_))
   .rw[au (e! y),aa]
   .show f c d _ (λb o U=>?_) i ?_
    .have X:=N b o U;have R:b≠x:=cf X O;have W:b≠d:=λz=>by rw[z]at X;rw[au y]at e;rw[e]at X;cases X
     rw[lC R,au W,au R,au R];show X
    .rw[lC y,aa]
def Oe:Sp:=114#(141#(∃S,∃m x t:Nat,G=[.ref w,.int S,.int (x:Int)]/\S=(m:Int)/\130#0/\m<155#0/\(g.N.oN m x)[0]?=some t/\99#(.int (t:Int))))
def Ky:Sp:=114#(141#(∃t x:Nat,G=[.ref w,.int (t:Int),.int (x:Int)]/\130#0/\t<J.length/\287#7#(g.N.VG t x)))
def AV:Sp:=λG H Q _=>∃w p J,∃g:aJ p J,∃S,∃m:Nat,136#S/\S=(m:Int)/\130#0/\m<155#0/\g.N.iO m/\m≠0/\
 ∀(r:Nat) H',ai H H'->r≠0->g.N.iO r->r<155#0->(∀k,320#0=true->12#0=true)->Q (.int (r:Int)) H'
def Of(e b:Addr):Sp:=λG H Q E=>∃w p J,∃g:aJ p J,∃S,136#S/\130#0/\rK J S (181#(.ref e)) λm =>
 (g.N.iO m->∀D Y (ls:List Nat),ai H Y->Y D=1#(aC ls)->ls.length<=24->201#(∀r∈ls,r<155#0))/\
 ∀(c:Nat) d Y,ai H Y->(nN p J (m:Int))[0]?=some c->Y d=some (.xd [("point",.int (c:Int))])->E (.ref b) (some d) Y
def TQ(u v z:V):l7 [u,v,z] none (some 2)=[u,v]:=rfl
def Wo(x u v:Nat):Vf (.int (x:Int)) [.int (u:Int),.int (v:Int)]=11#(u=x\/v=x):=by
 have e:([.int (u:Int),.int (v:Int)]:List V)=aC [u,v]:=rfl;rw[e,qJ];show q?.mpr ?_;simp[eq_comm]
def Og{g:aJ p ts}{m x:Nat}(d:m<2^ts.length):(251#0).filter (λt=>11#(g.N.a t=x\/g.N.b t=x))=g.N.oN m x:=by
 rw[iz d,List.filter_filter];unfold RM.Net.oN;show _L λk _=>?_
 rw[Bool.and_comm,_W]
def AW:Ok T T.AF 3 Oe:=by
 have bX:=bX T;show T.AF.ok De 2#0
 .revert h;show 285#(ki λg S m x a=>dI λL Y b d s q=>?_);subst L Y
  show 84#(ay (D9 K (ck (own:=["tie"]) (fq:=["web","point"]) (js:=[0,2]) (fb De) rfl (r8 K (aF bX P T.gv.c aL (bB (pv 1)))) 6#(154#(["tie","web","point"])) 6#(iD (az (WI K) (pv 2) (dH (Sv K) (bR (Mu K) (ee K (pv 1)) (pv 0)) fu (eB ao)) (88#0))) 6#(pv 0))))
  show aA (λc a R W M=>?_) (id b.ex)
  have a:=M.length;have n:=g.len;have l:47#(m:Int)<=J.length:=bits_le d;show 14#(av m rx (by lia) (λD a o F r=>av D rx 29#r λC w=>bQ (xs:=aC (251#0)) (we (λt=>11#(g.N.a t=x\/g.N.b t=x)) (251#0) a C) (.start w) (λi I Z _ f=>⟨aK.of (f.1 _ _ r),f.len⟩) ?_ ?_ ?_))
  .rw[aD];show dZ (Ω (N! _ _) ?_);rw[K!]
   lia
  .intro i y I Z X f;show aj (λt v k=>?_) (cS X);subst k
   have e:=oA d (iu v);show aj (λb c a=>?_) (tV (g:=g) M e)
   have N:=F.trans f.1;show 46#0#(dz 97#(N _ _ R) ir 14#(dz 97#(N _ _ W) (aE (j:=t) c) (?_)));show 14#(bh b _ rx 97#(N _ _ a) (λz=>absurd (show HT.ig 3 3 (some 2)=3 from z.2) 3#0) (λu O=>?_))
   rw[TQ];show(qm rx (284#aa) (bj rx rx 232#0));dsimp only;rw[Wo];cases U:11#(g.N.a t=x\/g.N.b t=x) with
   | true=>show 124#(f.yes w (ai.new O) v U)
   | false=>show f.no (ai.new O) v U
  .intro I Z f;rw[aD]at f;have O:=f.fin;rw[Og d]at O;show(fN (aK.of O) (aE (j:=0) (oH s)) (q Z (F.trans f.1)))
def xS:Ok T T.xC 1 Ky:=by
 show T.xC.ok Ab 2#0
 .revert h;show 285#(dX λg=>aS λt x o a d q=>?_);subst o
  show af _ (ae (bF 3 Ab.nd (bR (Mu K) 70#0 (pv 1)))
   (ak (ay (iw (az cT (ee K (pv 3)) (pv 2) (aH _)) (ee K (pv 3)) (ee K (pv 3)))))) ?_
  show gp ?_;intro v;show aA (λi f R W M=>?_) (id a.ex)
  show aj (λb c m=>?_) (tV (g:=g) M d)
  show 14#(188#28#(dz (aZ.of W) (aE (j:=t) c) (?_)));show 14#(dz (aZ.of m) gJ (ah rx 4#(?_)));rw[jd];unfold RM.Net.VG at q
  by_cases e:g.N.a t=x
  .rw[ο e]at q;rw[eK e];show eu 14#(dz (aZ.of m) ir (q))
  .rw[ξ e]at q;rw[fV e];show cZ 14#(dz (aZ.of m) gJ (q))
def nC:Ok T T.nk 4 AV:=by
 have bX:=bX T;have AW:=AW T;have xS:=xS T;have eW:=eW T;show T.nk.ok fO 2#0
 .revert h;show gZ λs p J=>cK λg S m a=>dI λb A d u i q=>?_;subst a b
  show af _ (ae (bF 2 fO.nd (bu (bB (ee K (bR (Mu K) 70#0 (D9 K (aF bX P T.gv.c aL (bB (pv 1)))))))))
   (ae (bF 3 fO.nd (bu bS))
   (ae (bF 4 fO.nd (pv 1))
   (ae (uL PassesOwn.never 170#(qn K (dN C! PySem.F.slot_list_count PySem.F.type_list_count Pk (pv 2) (bB 122#(sZ mV ao)))) (ae (bF 5 fO.nd (aF AW P T.AF.c aL (aN (pv 0) (bW (pv 4) 122#(sZ mV ao)))))
   (ae (263#(dN C! L! M! cy (pv 3) (bB (pv 5))))
   (ae (263#(dN C! L! M! cy (pv 2) (bB (aF xS P T.xC.c aL (aN (pv 0) (bW (pv 5) 122#(sZ mV ao)))))))
   (ak (vR (i:=4) fO.nd rx (Or.inl rx) (aB qx ao (pv 5)) yK))))))
   (ak (ay (aF eW P T.ji.c aL 27#(dH (WH K) (pv 3) (eB (qn K (dN C! PySem.F.slot_list_index PySem.F.type_list_index Pn (pv 2) (bB 122#(sZ mV ao))))) fu)))))))) ?_
  show Ac ?_;intro a b I c f e x h;show aA (λb f R W a=>?_) (id A.ex)
  have b:=g.len;have b:=g.p2;have b:47#(m:Int)<=J.length:=bits_le d;show aj (λc e b=>?_) (AR i)
  have i:((31#g.N.n).filter λk=>12#0)[0]?=some c:=by change((31#J.length).filter _)[0]?=some c;rw[<-iz d];show e
  have f:=RM.g9 d b;show aj (λb l h=>?_) (tV (g:=g) a f)
  show 14#(188#28#(av m rx (by lia) (λD a b F r=>(fN (aK.of r) (aE (j:=0) (oH e)) (dz 97#(F _ _ W) (aE (j:=c) l) (dz 97#(F _ _ h) gJ 18#(λz f=>?_)))))))
  have e:ai H (η a z (.lst [.int 7#(g.N.a c)])):=F.trans (ai.new f);have b:η a z (.lst [.int 7#(g.N.a c)]) z=1#(aC ([]++[g.N.a c])):=aa;generalize η a z (.lst [.int 7#(g.N.a c)])=Z at e b;have x:H z=none:=F.free f;show 18#(λl a=>?_)
  have D:H l=none:=e.free a;have h:l≠z:=e! (cf b a);have f:ai H (η Z l 185#0):=e.trans (ai.new a);have a:η Z l 185#0 z=1#(aC ([]++[g.N.a c])):=by rw[au (e! h)];show b
  have b:η Z l 185#0 l=1#(aC []):=aa;generalize η Z l 185#0=w at f a b;show 146#⟨λk M X=>∃o v L left y,M=[some (.ref s),8#(m:Int),some (.ref z),some (.ref l),some (.int 7#left),y]/\ai H X/\X z=1#(aC (o++[v]))/\X l=1#(aC L)/\RM.Wn g.N m o v L left/\k=p+1-o.length,⟨p+1,(cD [] (g.N.a c) [] m none rx f a b (RM.Wn.start i) rx)⟩,?_⟩
  intro k M X;show ki λo v L left y=>dI λa f c C r n=>?_;subst a n
  have e:=RM.Qu (N:=g.N) d u r;have a:=e.w.len;show 146#⟨100#(aK.of c),0#(fN (aK.of c) (yR o v) (cC z _ _ rx rx (dF c rx (kU _) rx 232#0)))⟩;rw[Jg,MK]
  by_cases U:v∉o
  .rw[eK U];have a:=e.few U;have b:g.N.p=p:=rfl;rw[b]at a;show eu ⟨λM b=>∃i v L left y,M=[some (.ref s),8#(m:Int),some (.ref z),some (.ref l),some (.int 7#left),y]/\ai H b/\b z=1#(aC (i++[v]))/\b l=1#(aC L)/\RM.Wn g.N m i v L left/\i.length=o.length+1,λM b=>ki λi v L left y=>dI λa n t w B E=>af (p+1-i.length) (by lia) (cD i v L left y a n t w B rx),?_⟩
   obtain⟨t,B⟩:=RM.XG (N:=g.N) d u r U;show dW (λ_ d O=>?_) (RM.tU.mp (iu B))
   show(0#14#(ah rx (fN (aK.of c) (yR o v) (iJ s p J (cD g _ left v t rx rx (A.same f) e.DW B λb a=>?_)))))
   have m:t<J.length:=RM.g9 e.DW d;have i:=a _ _ c;have d:=a _ _ C;show 146#⟨100#(aK.of d),ah rx (cF l _ _ rx rx d (iN (by rw[aD];lia)) ?_)⟩
   have d:ai H (η b l 66#(aC L++171#t)):=(f.trans a).put D;have Y:η b l 66#(aC L++171#t) z=1#(aC (o++[v])):=by rw[au (e! h)];show i
   have i:η b l 66#(aC L++171#t) l=1#(aC (L++[t])):=by rw[aa,dc]
   generalize η b l 66#(aC L++171#t)=a at d Y i;show 146#⟨100#(aK.of Y),0#14#(ah rx (fN (aK.of Y) (yR o v) (iJ s p J (bC g t v rx (A.same d) m (cF z _ _ rx rx Y (iN (by rw[aD,U'];simp;lia)) ?_)))))⟩
   have n:=RM.Wn.next r U B;generalize g.N.VG t v=u at n;have m:ai H (η a z 66#(aC (o++[v])++171#u)):=d.put x;have b:η a z 66#(aC (o++[v])++171#u) z=1#(aC (o++[v]++[u])):=by rw[aa,dc (o++[v]) u]
   have d:η a z 66#(aC (o++[v])++171#u) l=1#(aC (L++[t])):=by rw[au h];show i
   generalize η a z 66#(aC (o++[v])++171#u)=h at m b d;show(0#(bT ⟨85#3#0,bT (cD (o++[v]) u (L++[t]) (left^^^2^t) (8#(t:Int)) ?_ m b d n 23#0)⟩))
   change[_,_,_,_,some (V.int (Builtin.bitXor _ (1*2^(t:Int).toNat))),_]=_;rw[oF,xor_int]
  .rw[fV U];show cZ ?_;have U:v∈o:=Classical.not_not.mp U;show aj (λi Y u=>?_) (P0 U e.nd)
   have a:=(k6.mp Y).1;show(0#(ah rx ⟨100#(aK.of c),ah rx 14#(fN (aK.of c) (yR o v) (bH z _ _ i rx rx c rx ⟨kU _,(bA (by rw[aD,U'];simp;lia) u _ rx (aq l _ rx (aK.of C) λa O=>?_))⟩))⟩))
   rw[F6 L (by lia)]
   show mj (λb c d t=>?_) (e.closes Y)
   show cD s p J a (L.drop i) rx (A.same (f.trans (ai.new O))) g.Fv aa (λk B=>e.w.lt k (_C B)) (q _ _ (f.trans (ai.new O)) b c d t)
def AX:Fx T T.AG 7 (Of a.eV a.bE):=by
 have pY:=pY T;have nC:=nC T;show T.AG.Cz nX 2#0
 .revert h;show 285#(aA λg S b j q=>?_);subst b
  show af _ (ae (cg (aF pY P T.pJ.c dJ.passes 27#(pv 1)))
   (ae (bF 2 nX.nd (bu bS))
   (ae (bF 3 nX.nd (pv 1))
   (ae (uL PassesOwn.leaving (az mu (pv 3) ao (aH _)) (ae (bF 4 nX.nd (aF nC P T.nk.c aL 27#(pv 3)))
   (ae (263#(dN C! L! M! cy (pv 2) (bB (pv 4))))
   (ak (vR (i:=3) nX.nd rx (Or.inl rx) (pv 4) yK)))))
   (ak (ay (bI (sortedK K) (by rfl) T.Hx PyProof.Rows.boot_sorted (bB (pv 2))))))))) ?_
  show Ni ?_;intro v f I b W c d;have l:=g.len;show(0#(191#(aq g S rx j ?_)));rcases q with⟨m,rfl,d,q,e⟩|⟨b,q⟩
  case inr=>show .inr ⟨b,q⟩
  show .inl (fU m rx d (λu b c=>18#(λF U=>?_)) e)
  have s:H F=none:=c.free U;have e:ai H (η b F 185#0):=c.trans (ai.new U);have c:η b F 185#0 F=1#(aC []):=aa;generalize η b F 185#0=Z at e c;have f:RM.cnt (λk=>12#0) g.N.n<=24:=by
   rw[<-zC (n:=g.N.n) d,iz (n:=J.length) d];show Ω (N! ..) (by rw[K!];show l)
  show 146#⟨λk M b=>∃R left D,M=[304#0,8#(m:Int),some (.ref F),some (.int 7#left),D]/\ai H b/\b F=1#(aC R)/\left<155#0/\g.N.iO left/\(∀r∈R,r<155#0)/\R.length+k<=24/\RM.cnt (λk=>261#k) g.N.n=k,bH _ [] m none rx e c d (iI u (137#0) (by rw[f_,_i];show f) rx),?_⟩
  intro k M b;show bz λR left D w c=>dI λf C d h e o=>?_;subst w o
  show 192#28#(gE (λz=>?_) (λ_=>?_))
  .have z:(0:Int)<7#left:=lZ z;show⟨λM t=>∃R y D,M=[304#0,8#(m:Int),some (.ref F),8#((y:Nat):Int),D]/\ai H t/\t F=1#(aC R)/\y<155#0/\g.N.iO y/\(∀r∈R,r<155#0)/\R.length+RM.cnt (λk=>y.testBit k) g.N.n<=24/\RM.cnt (λk=>y.testBit k) g.N.n<RM.cnt (λk=>261#k) g.N.n,λM t=>bz λR y D b X=>dI λl e o L v w=>af _ w (bC R y D b X l (dF e o L v rx)),?_⟩
   show(0#(191#(cC g _ left rx rx (dF (j.same c) C d (by lia) λr t k l Y e m=>?_))))
   have b:=k _ _ f;have j:=RM.Tw (N:=g.N) l e m;show 146#⟨100#(aK.of b),ah rx (cF F _ _ rx rx b (iN (by rw[aD];lia)) ?_)⟩
   show(0#(bT (bC (R++[r]) (left^^^r) (8#(r:Int)) ?_ ((c.trans k).put s) (by rw[aa,dc]) (dF (K? C e) (RM.iO.xor d Y) (λx O=>?_) (by rw[U',S!];lia) j))))
   .change[_,_,_,some (V.int (Builtin.bitXor _ _)),_]=_;rw[xor_int]
   .rcases d!.mp O with O|O
    .show h x O
    .rw[a!.mp O];show e
  .show 14#(bh F (R.map λx=>((x:Nat):Int)) rx (aK.of (by rw[f,oG])) (by rw[Δ];lia) (λl b C t _=>?_))
   obtain⟨Y,rfl⟩:=RN λx O=>by
    show aj (λy _ L=>?_) (i!.mp (t.mem_iff.mp O));subst L
    show _G y
   show q u l _ Y (c.trans (ai.new C)) (by rw[oG];show aa) ?_ λr P=>?_
   .have:=t.length_eq;rw[Δ,Δ]at this
    lia
   .show aj (λy X e=>?_) (i!.mp (t.mem_iff.mp (i!.mpr (af r P rx))))
    have:y=r:=by lia
    show this▸h y X
def E4(B:Addr):Sp:=λG H Q E=>∃w r p J R,G=[.ref w,.ref r]/\130#0/\H r=1#(aP R)/\(R.length=J.length->Q .eM H)/\(R.length≠J.length->E (.ref B) none H)
def rN:Fx T T.rD 1 (E4 a.rA):=by
 show T.rD.Cz Ei 2#0
 .revert h;show fX λB r=>bV λp J b L j D O c=>?_;subst L
  show 84#(bD (az nL (44#(pv 1)) (44#70#0) (aH _)) (104#T.RE) aO)
  show oX ?_;intro v;show aA (λd f R W M=>?_) (id j.ex)
  have N:=M.length;show 14#(qm rx (127#D) 28#(188#(qm rx (284#W) 4#(?_))));have n:(aP b).length=b.length:=by unfold aP;rw[Δ]
  rw[n,N,jd]
  by_cases e:b.length=J.length
  .rw[eK e];show cZ (O e)
  .rw[fV e];show eu 18#(c e)
def B8:Sp:=114#(∃r:Int,G=[.int r]/\0<=r/\r≠1/\Q .eM H)
def E5:Sp:=114#(∃n r:Int,G=[.int n,.int r]/\0<=r/\Q (.bl (11#(r ∣ n))) H)
def B9:Sp:=λG H Q _=>∃w r N p J,∃g:aJ p J,∃R C L,G=[.ref w,.ref r,.int L,.ref N]/\130#0/\H r=1#(aP R)/\R.length=J.length/\0<=L/\H N=1#(aP C)/\C.length=p/\
 ∀D Y,255#201#(Y D=1#(aC (gz g.N (fK R) L (fK C) J.length)))
def pZ:Ok T T.pN 1 B8:=by
 show T.pN.ok Bx 2#0
 .revert h;show dX λr=>mj λL F R q=>?_;subst L
  show 84#(bD (PW.pt (j5 (az qg (pv 0) ao (aH _)) (iK 170#(pv 0)))) vP aO);show oX ?_;intro v;show 192#232#0;rw[fV (by lia)]
  show cZ (ah rx 4#(?_));rw[fV (λz=>R (V.int.inj z))]
  show cZ q
def rO:Ok T T.rE 1 E5:=by
 show T.rE.ok Ej 2#0
 .revert h;show aA λn r Y F q=>?_;subst Y
  show 84#(ay (iw 170#(pv 1) (cY cT (pv 0) ao (aH _)) (cY cT (aB cG (pv 0) (pv 1)) ao (aH _))));show 146#4#(gE (λm=>?_) (λm=>?_))
  .have m:=V.int.inj (lZ m);subst m;show 146#⟨rfl,?_⟩;rw[Gi];show q
  .have m:r≠0:=λe=>m (eK (k! V.int e))
   show(0#(bT (bj (by lia) rx ?_)))
   rw[Jh];show q
def p5:Ok T T.pO 2 B9:=by
 have rO:=rO T;show T.pO.ok jQ 2#0
 .revert h;show ki λB r c p J=>dX λg=>bz λs C L k i=>dI λG d E A b q=>?_;subst k
  show af _ (ae (bF 4 jQ.nd (bu bS))
   (ae (dQ PassesOwn.never rx (u3 K (by rfl) T.gV (bB 70#0)) (yM K (n:=2) rx (aM (bq 5 jQ.nd) (aM (bq 6 jQ.nd) cX)))
   (ak (bD (iL (eO (aF rO P T.rE.c aL (bW (aB jt (aB jt (bR (g7 K) (pv 3) (ee K (pv 6))) (bR (g7 K) (pv 3) (ee K (pv 6)))) 123#(pv 5)) (pv 2))))) (ak (263#(dN C! L! M! cy (pv 4) (bB (pv 5))))) aO)))
   (ak (ay (pv 4))))) ?_
  show By ?_;intro v d I b;show aA (λd f R W e=>?_) (id i.ex)
  have k:=e.length;have b:=g.len;show 18#(λD h=>?_)
  have F:ai H (61#H):=ai.new h;have b:η H D 185#0 D=1#(aC (gz g.N (fK s) L (fK C) 0)):=aa;generalize 61#H=S at F b;show 14#(dz 97#(F _ _ R) ir (av d rx ⟨_,aZ.of (F _ _ W)⟩ (wk (K:=K) (a:=d) (xs:=f) (λi M Z=>∃y X,M=[304#0,some (.ref r),some (.int L),some (.ref c),214#0,y,X]/\ai H Z/\Z D=1#(aC (gz g.N (fK s) L (fK C) i))) (aq none none rx F b) (by intro i M Z _;show aA λ_ _ _ z _=>?_;show aZ.of (z _ _ W)) ?_ ?_)))
  .intro i x l M Z O;show aA λy X o N b t=>?_;subst o
   have d:i<J.length:=161#(k6.mp O).1
   show aj (λc f m=>?_) (tV (g:=g) e d)
   rw[O]at f;cases f;have u:ai H (η Z l (.tup [65#(i:Nat),.ref c])):=N.trans (ai.new t);have e:η Z l (.tup [65#(i:Nat),.ref c]) l=17#([65#(i:Nat),.ref c]):=aa;have Y:η Z l (.tup [65#(i:Nat),.ref c]) D=_:=ai.new t _ _ b;generalize η Z l (.tup [65#(i:Nat),.ref c])=w at u e Y;have c:g.N.a i<p:=g.N.al i d;have U:g.N.b i<p:=g.N.bl i d;show aq l _ rx (aZ.of e) 49#0;show(0#(dz 97#(u _ _ m) ir (fN 53#(u _ _ A) (aE (j:=g.N.b i) (int_at (by lia))) 14#(ah rx (dz 97#(u _ _ m) gJ (fN 53#(u _ _ A) (aE (j:=g.N.a i) (int_at (by lia))) (bT 28#(ah rx (fN 53#(u _ _ G) (aE (j:=i) (int_at (by lia))) (bT (ah rx (kZ _ _ (bA rx E _ rx ?_)))))))))))))
   have e:=Ji g.N (fK s) L (fK C) i;have c:48#(gz g.N (fK s) L (fK C) i)<=24:=by
    unfold gz;show Ω (N! _ _) (by rw[K!];lia)
   have c:11#(L ∣ C.getD (g.N.b i) 0-C.getD (g.N.a i) 0-s.getD i 0)=11#(L ∣ fK C (g.N.b i)-fK C (g.N.a i)-fK s i):=rfl;rw[c];cases c:11#(L ∣ fK C (g.N.b i)-fK C (g.N.a i)-fK s i) with
   | true =>
     rw[c,ο rfl,H?]at e;show cZ (aq _ _ rx u (by rw[e];show Y))
   | false =>
     rw[c,ξ n!]at e;show eu (ah rx ⟨100#(aK.of Y),ah rx (cF D _ _ rx rx Y (iN (by rw[aD];lia)) (aq _ _ rx (u.put h) (by rw[e,aa,dc])))⟩)
  .intro M Z;show aA λy X O N b=>?_;subst O
   rw[k]at b;show 14#(q D Z h N b)
def vF:Sp:=λG H Q _=>∃w r p J,∃g:aJ p J,∃R:List Int,G=[.ref w,.ref r]/\130#0/\H r=1#(aP R)/\R.length=J.length/\
 ∀D Y,255#201#(Y D=1#(aP (ik p (220#R))))
def Ca:Sp:=λG H Q _=>∃w r p J,∃g:aJ p J,∃R L,G=[.ref w,.ref r,.int L]/\130#0/\H r=1#(aP R)/\R.length=J.length/\0<=L/\L≠1/\
 (RM.Fit g.N (fK R) L (220#R)->∀T D Y,H T=none->255#(Y T=17#([.str "heights",.ref D])->Y D=1#(aP (ik p λx=>if L=0 then RM.fz g.N (fK R) J.length x else RM.fz g.N (fK R) J.length x%L))->Q (.ref T) Y))/\
 (∀c T Y,(gz g.N (fK R) L (220#R) J.length)[0]?=some c->H T=none->ai H Y->Y T=17#([.str "ring",.int 7#(g.N.ring c)])->Q (.ref T) Y)
def HN{p:Nat}{ts:List ko}{g:aJ p ts}:gz g.N row r (fK (ik p z)) ts.length=gz g.N row r z ts.length:=by
 unfold gz;show _L λk B=>?_
 have B:k<ts.length:=z!.mp B;have W:g.N.a k<p:=g.N.al k B;have U:g.N.b k<p:=g.N.bl k B;change(! 11#(r ∣ (ik p z).getD _ 0-(ik p z).getD _ 0-row k))=_;rw[qK W,qK U]
def Oh(h:k∈gz N row r z n):k<n/\¬ r ∣ z (N.b k)-z (N.a k)-row k:=by
 unfold gz at h;rw[J!,z!,X_,decide_eq_false_iff_not]at h;show h
def Oi(p:Nat):55#p=aP (ik p λ_=>0):=by
 have:∀p:Nat,55#p=aP (List.replicate p 0):=λp=>by
  induction p with
  | zero=>rfl
  | succ p E =>
    rw[U?,I_,E,U?];rfl
 rw[this];unfold ik
 congr 1
 rw[List.map_const',K!]
def jM:Ok T T.jI 2 vF:=by
 have cM:=cM T;show T.jI.ok bU 2#0
 .revert h;show sX λx r p J=>fX λg A=>kG λL c D b q=>?_;subst L
  show af _ (ae (bF 2 bU.nd (bx (Pu rx) (by rfl) T.xJ C_ (bB (bx zk (by rfl) T.c6 ac9 (bB 70#0)))))
   (ae (bF 3 bU.nd (aB IS (bu (bB ao)) 70#0))
   (ae (dQ PassesOwn.never rx (u3 K (by rfl) T.gV (bB 70#0)) (yM K (n:=2) rx (aM (bq 4 bU.nd) (aM (bq 5 bU.nd) cX)))
   (ak (bD (az nL 122#(ee K (pv 5)) 122#(ee K (pv 5)) (aH _)) (ae (bF 6 bU.nd (aB jt (aB eR (bR (g7 K) (pv 3) (ee K (pv 5))) 123#(pv 4)) (bR (g7 K) (pv 3) (ee K (pv 5)))))
   (ae (dB (i:=7) bU.nd rx (Or.inr rx) (bI (vU rx) (by rfl) T.Rw adC (bW 122#(ee K (pv 5)) 122#(ee K (pv 5)))))
   (ae (dB (i:=8) bU.nd rx (Or.inr rx) (iw (az cT 122#(ee K (pv 5)) (pv 7) (aH _)) (pv 6) (sZ mV (pv 6))))
   (ae (iE (i:=3) bU.nd rfl rfl (own:=["height","least"]) (fq:=["moved","lift"]) (js:=[7,8]) (fb bU) rfl (zj K (by rfl) T.Hy (bW (pv 3) (pv 2))) 6#(yM K (n:=2) rfl (aM (154#(["height","least","moved","lift"])) (aM (bq 1 (jn ["height","least","moved","lift"])) cX))) 75#0 6#(iw (az cT (pv 1) (pv 2) (aH _)) (aB eR (pv 0) (pv 3)) (pv 0)))
   (ak (bF 2 bU.nd (aF cM P T.fQ.c aL (aN (pv 2) (bW (ee K (pv 5)) (ee K (pv 5))))))))))) aO)))
   (ak (ay (pv 3)))))) ?_
  show vp ?_;intro v d e b f h i k l;show aA (λi f R W t=>?_) (id c.ex)
  have wp:=g.p2;have b:=g.len;have YU:=t.length;show 14#(dz (aZ.of R) gJ 28#(λb c=>bh b p rx aa (by lia) λl C=>?_))
  have F:ai H (η 300#b l (.lst (v7 p))):=(ai.new c).trans (ai.new C);have v:η 300#b l (.lst (v7 p)) l=1#(jc (g.N.eo 0) p):=aa;generalize η 300#b l (.lst (v7 p))=S at F v;show 18#(λb d=>?_)
  have c:ai S (η S b (.lst [.int 0])):=ai.new d;show 14#(dz 97#(c _ _ (F _ _ R)) gJ (kZ b (p:Int) (ah rx 46#(dF aa (by lia) (by lia) (by rw[l!];change 1*p<=sizeLine;show 74#0) λe d=>?_))))
  have m:=c.trans (ai.new (o:=301#0) d);have u:η (η S b (.lst [.int 0])) e (301#0) e=1#(aP (ik p (RM.fz g.N (fK A) 0))):=by
   rw[aa,l!,Oi];rfl
  generalize η (η S b (.lst [.int 0])) e (301#0)=Z at m u;have b:=F.trans m;show(ah rx (dz 97#(b _ _ R) ir (av i rx ⟨_,aZ.of (b _ _ W)⟩ (wk (K:=K) (a:=i) (xs:=f) (λk M w=>∃s h G L P Q S,M=[some (.ref x),some (.ref r),some (.ref s),some (.ref h),G,L,P,Q,S]/\ai H w/\w s=1#(jc (g.N.eo k) p)/\w h=1#(aP (ik p (RM.fz g.N (fK A) k)))/\H h=none)
   (iJ l e none (bH none none none none rx b (m _ _ v) u (F.free (c.free d)))) (by intro i M Z _;show sX λ_ _ _ _=>bz λ_ _ _ _ z _=>?_;show aZ.of (z _ _ W)) ?_ ?_))))
  .intro k x r M w O;show sX λs h G L=>bV λP Q S c u b e E l=>?_;subst c
   have B:k<J.length:=161#(k6.mp O).1
   show aj (λc f m=>?_) (tV (g:=g) t B)
   rw[O]at f;cases f;have f:ai w (η w r (.tup [65#(k:Nat),.ref c])):=ai.new l;have t:η w r (.tup [65#(k:Nat),.ref c]) r=17#([65#(k:Nat),.ref c]):=aa;generalize η w r (.tup [65#(k:Nat),.ref c])=y at f t;have c:=u.trans f;have b:=f _ _ b;have e:=f _ _ e;have v:g.N.a k<p:=g.N.al k B;have f:g.N.b k<p:=g.N.bl k B;have B:=RM.zo (N:=g.N) k;have l:g.N.kH k = ! 11#(309#g.N.a=309#g.N.b):=rfl;show aq r _ rx (aZ.of t) 49#0;show(0#(dz 97#(c _ _ m) gJ (fN (aK.of b) (aE (j:=g.N.a k) (cV v)) 14#(ah rx (dz 97#(c _ _ m) ir (fN (aK.of b) (aE (j:=g.N.b k) (cV f)) 4#(?_)))))));rw[jd]
   by_cases d:309#g.N.a=309#g.N.b
   .rw[eK d]at l;rw[l,ξ 3#0]at B
    rw[eK d];show cZ (iJ s h _ (bH _ _ _ _ rx c (by rw[B];show b) (by rw[RM.Qj l];show e) E))
   rw[fV d]at l;rw[l,ο (by rfl)]at B
   have C:=RM.Qk (row:=fK A) (N:=g.N) (j:=k) l;rw[fV d];show eu (0#(dz 97#(c _ _ m) gJ (fN (aK.of e) (aE (j:=g.N.a k) (int_at (by rw[fh];show v))) 14#(ah rx (fN 53#(c _ _ D) (aE (j:=k) (int_at (by lia))) (bT 28#(ah rx (dz 97#(c _ _ m) ir (fN (aK.of e) (aE (j:=g.N.b k) (int_at (by rw[fh];show f))) (bT (?_)))))))))))
   rw[qK v,qK f];show(0#(dz 97#(c _ _ m) gJ (fN (aK.of b) (aE (j:=g.N.a k) (cV v)) 14#(ah rx (dz 97#(c _ _ m) ir (fN (aK.of b) (aE (j:=g.N.b k) (cV f)) (aV _ _ rx ?_)))))));show(0#(dz 97#(c _ _ m) ir (fN (aK.of b) (aE (j:=g.N.b k) (cV f)) (ah rx 4#(?_)))));rw[DO,jd]
   by_cases U:309#g.N.b=max (309#g.N.a) (309#g.N.b)
   case' pos =>
    rw[eK U];simp only[ο U]at C;show eu 232#0
   case' neg =>
    rw[fV U];simp only[ξ U]at C;show cZ (0#(?_))
   all_goals
    show(0#(bh h s rx 29#e 29#b (λD l=>qD (xs:=aP (ik p (RM.fz g.N (fK A) k))) (ys:=jc (g.N.eo k) p) (by rw[iA,fg,fh]) (zJ (RM.fz g.N (fK A) (k+1)) 31#p y D) (.start l) (λi I t _ z=>bj 53#(z.1 _ _ e) 53#(z.1 _ _ b) z.len) (by rw[fg,fh];show 74#0) ?_ ?_)))
    .intro i x y d I t O X z F;obtain⟨Y,rfl⟩:=uZ X;rw[int_at (by rw[fh];show Y),qK Y]at O
     cases O;show aq d _ rx (aZ.of aa) (aR rx _ _ rx (bh _ _ rx rx rx (0#4#(?_))));rw[jd];have r:=C i
     by_cases d:g.N.eo k i=max (309#g.N.a) (309#g.N.b)
     .rw[ο d]at r;rw[eK d];show eu (0#(bT (z.next l (ai.new F) (U_ Y) (by rw[r];rfl))))
     .rw[ξ d]at r;rw[fV d];show cZ 14#(z.next l (ai.new F) (U_ Y) (by rw[r]))
    .intro I t z;rw[fg,fh]at z;have r:t D=1#(aP (ik p (RM.fz g.N (fK A) (k+1)))):=by
      rw[z.2.1,z.2.2,l_ (by rw[K!];show Ξ _)]
      rfl
     have X:=c.trans z.1;show(0#(dz 97#(X _ _ m) gJ 14#(dz 97#(X _ _ m) ir (cD s (g.N.eo k) p (g.N.a k) (g.N.b k) rx (z.1 _ _ b) wp v f (λd t y Y i=>?_)))))
     show iJ d D _ (bH _ _ _ _ rx (X.trans Y) (by rw[B];show i) (Y _ _ r) (c.free l))
  .intro M w;show sX λs h G L=>bV λP Q S c u b e E=>?_;subst c
   rw[YU]at e;show 14#(q h w E u e)
def p7(T:317#a):i5 P w K mg base uQ 6 a.kM a.pC ["web","row","rest"] Ca:=by
 have rN:=rN T;have pZ:=pZ T;have jM:=jM T;have p5:=p5 T;have ic:=ic T;show T.vD.ok iB (λG H Q E h=>?_) (λ_ A _ s H G Q E b h=>?_)
 .revert h;show sX λw r p J=>cK λg R L o _=>?_;subst o
  rfl
 .revert h;show sX λB r p J=>bz λg R L e s=>dI λc d f i O A=>?_;subst e
  show af _ (ae (cg (aF rN b T.rD.c qC 27#(pv 1)))
   (ae (cg (aF pZ b T.pN.c aL (bB (pv 2))))
   (ae (bF 3 iB.nd (aF jM b T.jI.c aL 27#(pv 1)))
   (ae (bF 4 iB.nd (aF p5 b T.pO.c aL (aN (pv 0) (aN (pv 1) (bW (pv 2) (pv 3))))))
   (ae (bD (az (Pa K b.units) (pv 4) (bu bS) (aH _)) (ak (ay (cU (bW aW (aF ic b T.kO.c qC 27#(D9 K (pv 4))))))) aO)
   (ae (bD (az mu (pv 2) ao (aH _)) (ak (iE (i:=3) iB.nd rfl rfl (own:=["height"]) (fq:=["rest"]) (js:=[2]) (fb iB) rfl (r8 K (pv 3)) 6#(154#(["height","rest"])) 75#0 6#(aB cG (pv 0) (pv 1)))) aO)
   (ak (ay (cU (bW aW (pv 3))))))))))) ?_
  show BA ?_;intro v h I b W e k l;have M:=g.p2;have b:=g.len;show(0#⟨B,(bH r p J R rx s c (λ_=>14#(fU L rx f i ?_)) λz=>absurd d z)⟩)
  show(0#(vM B r p J (dU g R rx s c d λD S h F k=>?_)))
  show(0#14#(ah rx ⟨B,(vM r D p J (bH g R _ L rx (s.same F) (F _ _ c) d (iI f k (fh _ _) λb Z e N q=>?_)))⟩))
  rw[HN]at q;have c:=F.trans N;show 146#18#(λl b=>dU _ _ (.lst 53#(ai.new b _ _ q) (i9 _)) (.lst (aK.of aa) .nil) (iV _) rx 232#0)
  rw[DK];have u:ai Z (η Z l 185#0):=ai.new b;generalize η Z l 185#0=e at u;have o:=c.trans u;have Y:=u _ _ (N _ _ k)
  by_cases m:gz g.N (fK R) L (220#R) J.length=[]
  .rw[eK m];have O:=O (MP.mp m);show cZ 14#(bT 28#(gE (λt=>?_) (λt=>?_)))
   .have t:0<L:=lZ t;show 14#(av D rx 29#Y (λC d=>bQ (xs:=aP (ik p (220#R))) (zJ (λy:Int=>y%L) (ik p (220#R)) e C) (.start d) (λi c b _ f=>⟨aK.of (f.1 _ _ Y),f.len⟩) (dZ (by rw[fg,fh];lia)) ?_ ?_))
    .intro i y c b X f;unfold aP at X;rw[j!]at X;show aj (λn x U=>?_) (vN.mp X);subst U
     show 46#0#(bT ⟨t,f.next d 186#0 x rfl⟩)
    .intro c b f;rw[fg]at f;show 146#18#(λX n=>O X C _ ((o.trans f.1).free n) (o.free d) ((o.trans f.1).trans (ai.new n)) aa (ai.new n _ _ (f.fin.trans ?_)))
     unfold aP ik;rw[z?,z?,z?]
     congr 1
     congr 1
     show List.map_congr_left λx _=>?_
     change V.int (_%L)=V.int (if L=0 then _ else _%L)
     rw[ξ (by lia)]
   .have c:L=0:=by
     have : ¬ 0<L:=λy=>t (eK y)
     lia
    show 146#18#(λX n=>O X D _ (o.free n) h (o.trans (ai.new n)) aa (ai.new n _ _ (Y.trans ?_)))
    rw[show(λx=>if L=0 then RM.fz g.N (fK R) J.length x else RM.fz g.N (fK R) J.length x%L)=220#R from funext λx=>ο c]
  .rw[fV m];show fX (λc C i=>?_) (List.exists_cons_of_ne_nil m)
   have U:(gz g.N (fK R) L (220#R) J.length)[0]?=some c:=by rw[i];rfl
   obtain⟨t,x⟩:=Oh (iu U);have f:g.N.kH c=false:=RM.MQ t x;show eu (0#(fN 53#(u _ _ q) (aE (j:=0) (oH U)) (191#(aq g _ rx (s.same o) (.inl (av c rx (RM.fJ.mpr ⟨t,f⟩) (λb y=>18#(λX n=>A c X _ U ((o.trans y).free n) ((o.trans y).trans (ai.new n)) aa))))))))
def mh(B n:Nat)(R:Addr)(H:Hp)(v:V):Prop:=∃b l,v = .ref b/\b≠R/\H b=1#(aP l)/\l.length=n/\∀j:Nat,(l.getD j 0).natAbs<2^B
def mh.same(h:mh B n R H v)(s:ai H Y):mh B n R Y v:=by
 revert h;show aS λb l e G U h=>?_
 show bh b l e G (s _ _ U) h
def mh.put(h:mh B n R H v):mh B n R (η H R o) v:=by
 revert h;show aS λb l e G U h=>?_
 show bh b l e G (by rw[au G];show U) h
def mh.mono(h:mh B n R H v)(c:B<=C):mh C n R H v:=by
 revert h;show fX λb l=>kG λe G U a h=>?_
 show dU b l e G U a λj=>g! (h j) (o? 3#0 c)
def DY{ys:List V}(h:∀v∈ys,mh B n R H v)(Y:i<ys.length):∃b l,ys[i]?=240#0/\b≠R/\H b=1#(aP l)/\l.length=n/\∀j:Nat,(l.getD j 0).natAbs<2^B:=by
 show br (λb l e h=>?_) (h _ (X? Y))
 show aV b l (by rw[<-e];show A! Y) h
def AY{ys:List V}{F:V->Prop}(h:∀x∈ys,F x)(U:F v):∀x∈ys.set i v,F x:=λx O=>(List.mem_or_eq_of_mem_set O).elim (h x) λe=>e▸U
def TR:Sp:=λG H Q _=>∃(t:Addr) (o:List V) (B n k:Nat),G=[.ref t,.int (k:Int)]/\H t=some (.lst o)/\o.length=n/\(∀v∈o,mh B n t H v)/\n<=12/\k<n/\
 (∀(i:Nat) b l,k<=i->i<n->o[i]?=240#0->b≠t->H b=1#(aP l)->l.length=n->(∀j:Nat,(l.getD j 0).natAbs<2^B)->l.getD k 0≠0->287#(i:Int))/\Q .eM H
def Kz:Sp:=λG H Q _=>∃(F a:Addr) (r l:List Int) (n k B:Nat) (d:Int),G=[.ref F,.ref a,.int (k:Int),.int d]/\H F=1#(aP r)/\H a=1#(aP l)/\r.length=n/\l.length=n/\n<=12/\k<n/\
 d≠0/\d.natAbs<2^1000/\B<=1000/\(∀j:Nat,(r.getD j 0).natAbs<2^B)/\(∀j:Nat,(l.getD j 0).natAbs<2^B)/\
 ∀D u Y,255#(Y D=1#(aP u)->u.length=n->201#(∀j:Nat,(u.getD j 0).natAbs<2^(2*B+1)))
def Wq:Sp:=114#(∃t o n,G=[.ref t]/\H t=some (.lst o)/\o.length=n/\n<=9/\(∀v∈o,mh 5 n t H v)/\∀(z:Int) H',ai H H'->z.natAbs<2^1535->Q (.int z) H')
def bb:Nat->Nat
 | 0=>5
 | i+1=>2*bb i+1
def L4(h:i<=j):bb i<=bb j:=by
 induction h with
 | refl=>show Ξ _
 | step _ E=>show Ω E (by change _<=2*bb _+1;lia)
def RT{x y u v d:Int}(O:x.natAbs<2^B)(X:y.natAbs<2^B)(G:u.natAbs<2^B)(U:v.natAbs<2^B):((x*y-u*v).fdiv d).natAbs<2^(2*B+1):=by
 show d_ (Ω (Int.natAbs_fdiv_le_natAbs _ _) (Int.natAbs_sub_le _ _)) ?_;rw[_Y,_Y,Q?,Nat.two_mul,Nat.pow_add,Nat.mul_two];show Nat.add_lt_add (Nat.mul_lt_mul'' O X) (Nat.mul_lt_mul'' G U)
def nD:Ok T T.nq 1 TR:=by
 show T.nq.ok qX 2#0
 .revert h;show fX λt o=>bz λB n k L d=>dI λe x S y p c=>?_;subst L
  show af _ (ae (dQ PassesOwn.never rx (r5 (by rfl) T.c6 269#(44#(pv 0))) (bq 2 qX.nd)
   (ak (bD (az nL (bR (g7 K) 267#(pv 2) (pv 1)) ao (aH _)) (ak (ay (pv 2))) aO)))
   (ak (ay dG))) ?_
  show qY ?_;intro v f I;show(0#(qm rx (127#d) (aq _ _ rx (iI (by lia) (by lia) (by lia) (by lia)) ?_)))
  show g4 (lo:=(k:Int)) (n:=_) (λi M Z=>∃u,M=[some (.ref t),8#(k:Int),u]/\Z=H) (af none rx rx) ?_ ?_
  .intro i M Z Y;show aj λu q w=>?_;subst q w
   have X:(k:Int)+(i:Int)=7#(k+i):=by lia
   rw[X];have r:k+i<n:=by lia
   show fX (λb l=>kG λU m a C g=>?_) (DY x (i:=k+i) (by lia))
   show(0#(fN (aK.of d) (aE (j:=k+i) U) 14#(fN (aK.of a) (aE (j:=k) (jv (by lia))) 4#(?_))))
   by_cases F:l.getD k 0=0
   .show x7 (k! V.int F) (ah rx (rx))
   .show Dh (λz=>F (V.int.inj z)) 14#(p (k+i) b l (by lia) r U m a C g F)
  .intro M Z;show aj λu a O=>?_;subst a O
   show c
def nE:Ok T T.nu 1 Kz:=by
 show T.nu.ok qZ 2#0
 .revert h;show ki λF a r l n=>bz λk B d U R=>dI λW c L S u=>dI λJ v w b f q=>?_;subst U
  show af _ (ak (ay (ck (own:=["number","lead"]) (fq:=["row","lead_row","step","divisor"]) (js:=[0,1,2,3]) (fb qZ) rfl (zj K (by rfl) T.Hy 27#(pv 1)) 6#(yM K (n:=2) rfl (aM (154#(["number","lead","row","lead_row","step","divisor"])) (aM (bq 1 (jn ["number","lead","row","lead_row","step","divisor"])) cX))) 75#0 6#(aB Qd (aB jt (aB yN (bR (g7 K) (pv 3) (pv 4)) (pv 0)) (aB yN 122#(pv 4) (pv 1))) (pv 5))))) ?_
  have p:∀{x:Int},x.natAbs<2^B->x.natAbs<2^1000:=λh=>g! h (o? 3#0 w)
  show(0#(bh F a rx 29#R 29#W (λD m=>qD (xs:=aP r) (ys:=aP l) (by rw[fg,fg,c,L]) (Gd (λi=>(l.getD k 0*r.getD i 0-r.getD k 0*l.getD i 0).fdiv d) H D) (.start m) (λi I C _ z=>bj 53#(z.1 _ _ R) 53#(z.1 _ _ W) z.len) (by rw[fg,c];show 74#0) ?_ ?_)))
  .intro i x y e I Z O X z t;obtain⟨Y,rfl⟩:=zI O;obtain⟨_,rfl⟩:=zI X;have N:=ai.new (o:=.tup [.int (r.getD i 0),.int (l.getD i 0)]) t;have j:=N _ _ (z.1 _ _ R);have g:=N _ _ (z.1 _ _ W);show aq e _ rx (aZ.of aa) (aR rx _ _ rx (bh _ _ rx rx rx ?_));show(0#(fN (aK.of g) (aE (j:=k) (jv (by rw[L];show u))) 14#(bT 173#(mulOk_of (p (f k)) (p (b i))))))
   show(0#(fN (aK.of j) (aE (j:=k) (jv (by rw[c];show u))) 14#(bT ⟨mulOk_of (p (b k)) (p (f i)),bT 28#(bT 173#⟨J,v⟩)⟩)))
   show z.next m N rfl
  .intro I Z z;rw[fg,c]at z;show q D _ Z m z.1 (by rw[z.2.1,z.2.2]) (fh _ _) λj=>?_
   by_cases e:j<n
   .rw[MO _ e];show RT (f k) (b j) (b k) (f j)
   .rw[B!,List.getElem?_eq_none (by rw[fh];lia)]
    show I? _
def nF:Ok T T.nv 2 Wq:=by
 have nD:=nD T;have nE:=nE T;show T.nv.ok cW 2#0
 .revert h;show gZ λt a n=>dI λc b p S g q=>?_;subst c
  show af _ (ae (bF 1 cW.nd (bx (Pb K) (by rfl) T.xJ C_ 131#0))
   (ae (bF 2 cW.nd ao)
   (ae (bF 3 cW.nd ao)
   (ae (dQ PassesOwn.never rx (111#(44#(pv 1))) (bq 4 cW.nd)
   (ae (bF 5 cW.nd (aF nD P T.nq.c aL 269#(pv 4)))
   (ae (bD (az tL (pv 5) dG (aH _)) (ak (ay ao)) aO)
   (ae (bD (az nL (pv 5) (pv 4) (aH _)) (ae (bF 6 cW.nd 123#(pv 5))
   (ae (lj 123#(pv 4) (vQ (pv 1) (pv 5) set_list))
   (ae (lj (pv 6) (vQ (pv 1) (pv 4) set_list))
   (ak (bF 2 cW.nd (sZ mV (pv 2))))))) aO)
   (ae (dQ PassesOwn.never rx (r5 (by rfl) T.c6 (bW (aB eR (pv 4) ao) (44#(pv 1)))) (bq 7 cW.nd)
   (ak (lj (aF nE P T.nu.c aL (aN 123#(pv 7) (aN 123#(pv 4) (bW (pv 4) (pv 3))))) (vQ (pv 1) (pv 7) set_list))))
   (ak (bF 3 cW.nd (bR (g7 K) 123#(pv 4) (pv 4)))))))))
   (ak (ay (aB qw (pv 2) (pv 3)))))))) ?_
  show Al ?_;intro d f I X7 r s x c u k e i l m o;show 14#(qm rx (127#b) (λR A=>?_))
  have m:ai H (η H R (.lst a)):=ai.new A;have k:η H R (.lst a) R=some (.lst a):=aa;have g:∀v∈a,mh 5 n R (η H R (.lst a)) v:=λv c=>by
   show aS (λb l e _ U h=>?_) (g v c)
   show bh b l e (cf U A) (m _ _ U) h
  generalize η H R (.lst a)=b at m k g;show 14#(qm rx (127#k) 28#(bj (by lia) (by lia) ?_))
  show g4 (lo:=0) (n:=_) (λi M Z=>∃o f d P y X b,M=[some (.ref t),303#0,some (.int f),some (.int d),P,y,X,b]/\ai H Z/\Z R=some (.lst o)/\o.length=n/\(∀v∈o,mh (bb i) n R Z v)/\d≠0/\d.natAbs<2^bb (i-1)/\f.natAbs<=1)
   (vM a 1 1 none (bC none none none rx m k (dF p g 3#0 3#0 3#0))) ?_ ?_
  .intro i M Z Y;show sX λo f d P=>bz λy X b a N=>dI λx S C d0 db G=>?_;subst a
   have W:i<n:=by lia
   rw[k?];show(0#(cD R o _ n i rx x S C (by lia) (bj W (λB F p a k g Q E ll1 Y hnz=>?_) ?_)))
   case refine_2=>show 146#4#(mW rx (q 0 _ N (10#0)))
   have dlt:d.natAbs<2^1000:=g! db (o? 3#0 (Ω (L4 (151#(i-1<=7))) 3#0))
   have L:∀(k:Ends) (w:Hp) (s:List V) (I:Int) (y:Option V),I.natAbs<=1->ai H w->w R=some (.lst s)->s.length=n->(∀v∈s,mh (bb i) n R w v)->s[i]?=some (.ref F)->w F=1#(aP p)->
    (∀M Z,(∃o f d P y X b,M=[some (.ref t),303#0,some (.int f),some (.int d),P,y,X,b]/\ai H Z/\Z R=some (.lst o)/\o.length=n/\(∀v∈o,mh (bb (i+1)) n R Z v)/\d≠0/\d.natAbs<2^bb (i+1-1)/\f.natAbs<=1)->k.nx M Z)->
    X7 k [some (.ref t),303#0,some (.int I),some (.int d),8#(i:Int),8#(B:Int),y,b] w:=λk w s I y G u D z a l E e=>by
    show 192#28#(qm rx (127#D) (aq _ _ rx (iI (by lia) (by lia) (by lia) (by lia)) ?_))
    show g4 (lo:=(i:Int)+1) (n:=_) (λm M k=>∃o X b,M=[some (.ref t),303#0,some (.int I),some (.int d),8#(i:Int),8#(B:Int),X,b]/\ai H k/\k R=some (.lst o)/\o.length=n/\(∀v∈o,mh (bb (i+1)) n R k v)/\(∀(r:Nat) v,i<r->i+1+m<=r->o[r]?=some v->mh (bb i) n R k v)/\o[i]?=some (.ref F)/\k F=1#(aP p))
     (bC s _ _ rx u D (dF z (λv c=>(a v c).mono (L4 (Q! _))) (λr v _ _ c=>a v (iu c)) l E)) ?_ ?_
    .intro m M k l;show bz λH X b O a=>dI λs Z8 RU Yd t w=>?_;subst O
     have l:(i:Int)+1+(m:Int)=7#(i+1+m):=by lia
     rw[l];have U:i+1+m<n:=by lia
     have O:=A! (l:=H) (i:=i+1+m) (by lia)
     show fX (λc1 J=>kG λg l z rl rb=>?_) (Yd (i+1+m) _ (by lia) (Ξ _) O)
     rw[g]at O;show(0#(fN (aK.of s) (aE (j:=i+1+m) O) 14#(ah rx (fN (aK.of s) (aE (j:=i) t) 28#(ah rx (vM c1 F J p (bH n i (bb i) d rx z w rl (dF ll1 (by lia) W d0 (dF dlt (Ω (L4 (151#(i<=7))) 3#0) rb Y λD u H6 U l hD6 ll' lb'=>?_)))))))))
     have n:D≠R:=λe=>by rw[e,s]at U;cases U
     show(0#(bH R H _ (i+1+m) rx rx (l _ _ s) (sd (by lia)) ?_))
     show bC _ _ _ rx ((a.trans l).put A) aa (dF (by rw[M?];show Z8) (AY (λv c=>((RU v c).same l).put) (mh.put (dU D u rx n hD6 ll' lb'))) (λr v m W c=>?_) ?_ (by rw[au Q];show l _ _ w))
     .rw[E_ (by lia)]at c
      show((Yd r v m (by lia) c).same l).put
     .rw[E_ (by lia)]
      show t
    .intro M k;show bz λH X b l a=>dI λs Z8 RU _ t w=>?_;subst l
     show(0#(fN (aK.of s) (aE (j:=i) t) 14#(fN (aK.of w) (aE (j:=i) (jv (by lia))) (?_))))
     show e _ _ (vM H I (p.getD i 0) _ (bC _ _ _ rx a s (dF Z8 RU hnz (Y i) G)))
   show 146#46#(ah rx (j6 96#0 (0#4#(?_))))
   by_cases e:B=i
   .subst e;show x7 rx ?_;change X7 _ _ _;show(L _ Z o f _ G N x S C g E λ_ _ h=>h)
   .show Dh (λz=>e (161#(V.int.inj z))) ?_
    show aS (λa r D l m u=>?_) (DY C (i:=i) (by lia))
    show(0#(fN (aK.of x) (aE (j:=B) g) (?_)));show(0#(fN (aK.of x) (aE (j:=i) D) 14#(ah rx (bH R o _ B rx rx x (sd (by lia)) ?_))))
    show(0#14#(bH R _ _ i rx rx aa (sd (by rw[M?];lia)) 28#(ah rx (?_))))
    change X7 _ _ _;show L _ _ _ (-f) _ (by lia) ((N.put A).put A) aa (by rw[M?,M?];show S) (λv c=>(AY (AY C (bh a r rx l m u)) (dU F p rx Q E ll1 Y) v c).put.put) (S_ (by rw[M?];lia)) (by rw[au Q,au Q];show E) λ_ _ h=>h
  .intro M Z;show sX λo f d P=>bz λy X b a N=>dI λx S C d0 db G=>?_;subst a
   show(0#(bT ⟨.inl 178#0,q _ Z N ?_⟩))
   rw[_Y];show d_ (F_ _ G) (by rw[Nat.one_mul];show g! db (o? 3#0 (Ω (L4 (151#(_<=8))) 3#0)))
def KA:Sp:=114#(∃w p J,∃u v:Nat,G=[.ref w,.int (u:Int),.int (v:Int)]/\130#0/\J.length<=24/\∀(n:Nat) H',ai H H'->n<=24->Q (.int (n:Int)) H')
def yH:Sp:=114#(141#(G=[.ref w]/\130#0/\∀D o Y,ai H Y->Y D=some (.lst o)->o.length<=9->201#(∀v∈o,mh 5 o.length D Y v)))
def lU:Ok T T.lO 1 KA:=by
 show T.lO.ok qi 2#0
 .revert h;show 285#(aS λu v L j n q=>?_);subst L
  show 84#(ay (44#(ck (own:=["tie"]) (fq:=["one","other"]) (js:=[1,2]) (fb qi) rfl (YJ K 70#0) 6#(154#(["tie","one","other"])) 6#(iD (PW.pt (qt (az (WI K) (pv 1) (dH (Xu) (pv 0) fu (eB ao)) (88#0)) (mq (az (WI K) (pv 2) (dH (Xu) (pv 0) fu (eB ao)) (88#0)))))) 6#(pv 0))))
  show aA (λg f R W M=>?_) (id j.ex)
  have o:=M.length;show 14#(188#(av g rx ⟨_,aZ.of W⟩ (λD r=>zf (xs:=f) (λi I Z=>ai H Z/\19#Z/\I.length<=i) (150#(Ξ _)) ?_ (74#0) ?_ ?_)))
  .intro i I Z Y;show dW λN e a=>?_
   show bj 97#(N _ _ W) e a
  .intro i x I Z O;show dW λN e a=>?_
   show dX (λt=>bK λd l Y m=>?_) (Paired.tN M O);subst Y
   show 46#0#14#(aq l _ rx (N _ _ m) (λU w b z=>?_))
   have z:w U=17#([.int t.1,.int t.2.1]):=z;show(qm rx (284#z) (bj rx rx 14#(gE (λ_=>?_) λ_=>cZ (bj (N.trans b) (b _ _ e) (by lia)))))
   show(0#14#(aq l _ rx ((N.trans b) _ _ m) (λk X c y=>?_)))
   have y:X k=17#([.int t.1,.int t.2.1]):=y;show(qm rx (284#y) (bj rx rx 14#(gE (λ_=>28#(iI ((b.trans c) _ _ e) (((N.trans b).trans c).put r) aa (by rw[U',S!];lia))) λ_=>bj ((N.trans b).trans c) ((b.trans c) _ _ e) (by lia))))
  .intro I Z;show dW λN e y=>?_
   show(qm rx (127#e) (q _ _ N (by lia)))
def Dm:x∈fB L p↔x<p/\L x=x:=by
 unfold fB;rw[J!,z!,decide_eq_true_eq]
def lV:Ok T T.lP 6 yH:=by
 have jk:=jk T;have ek:=ek T;have lU:=lU T;show T.lP.ok cI 2#0
 .revert h;show 285#(aG λg k H q=>?_);subst k
  show af _ (ae (dB (i:=1) cI.nd rfl (Or.inr rfl) (ck (own:=["piece"]) (fq:=[]) (js:=[]) (fb cI) rfl (r8 K (aF jk P T.rB.c qC 27#(aF ek P T.jE.c aL 131#0))) 6#(154#(["piece"])) 75#0 6#(D9 K (pv 0))))
   (ae (iE (i:=2) cI.nd rfl rfl (own:=["point"]) (fq:=["leasts"]) (js:=[1]) (fb cI) rfl (111#70#0) 6#(154#(["point","leasts"])) 6#(iD (az (Pc K) (pv 0) (pv 1) (88#0))) 6#(pv 0))
   (ae (bF 3 cI.nd (bu bS))
   (ae (dQ PassesOwn.never rx (r8 K (pv 2)) (yJ (i:=4) cI.nd rx (Or.inr rx))
   (ae (iE (i:=5) cI.nd rfl rfl (own:=["other"]) (fq:=["web","one"]) (js:=[0,4]) (fb cI) rfl (r8 K (pv 2)) 6#(154#(["other","web","one"])) 75#0 6#(aF lU P T.lO.c aL (aN (pv 1) (bW (pv 2) (pv 0)))))
   (ak (263#(dN C! L! M! cy (pv 3) (bB (ck (own:=["other","many"]) (fq:=["one"]) (js:=[4]) (fb cI) rfl (zj K (by rfl) T.Hy (bW (pv 2) (pv 5))) 6#(yM K (n:=2) rfl (aM (154#(["other","many","one"])) (aM (bq 1 (jn ["other","many","one"])) cX))) 75#0 6#(iw (az cT (pv 0) (pv 2) (aH _)) (pv 1) (sZ mV (pv 1))))))))))
   (ak (ay (pv 3))))))) ?_
  show yv ?_;intro c d e b f i;show aA (λc f R W b=>?_) (id H.ex)
  have c:=b.length;have b:=g.p2;have wl:=g.len;have c:((2:Int)^J.length-1)=7#(155#0-1):=by
   have h:((2:Int)^J.length)=7#(155#0):=by simp
   have:=I? J.length
   lia
  have d:155#0-1<155#0:=161#(I? J.length)
  generalize b:eJ p J g (155#0-1)=L;have e:∀x,L (L x)=L x:=λx=>by rw[<-b];show RM.g8 _ _
  have v:∀x,L x<=x:=λx=>by rw[<-b];show RM.yO _ _
  have e:48#(fB L p)<=p:=by
   have:=N! (λx=>11#(L x=x)) 31#p
   rw[K!]at this;show this
  show(0#(bC B p J rx H g.Fv (191#(aq g _ rx H (.inl (av (155#0-1) c d (λD ys S i F f e=>av D rx 29#f ?_)))))))
  rw[b]at e;have s:ys.length=48#(fB L p):=by rw[e.length,Δ]
  intro k b;show bQ (xs:=ys) (λi I Z=>ai S Z/\159#(Z k)/\I=aC ((fB L p).take i)) (bj (ai.new b) aa rx) ?_ (74#0) ?_ ?_
  .intro i I Z Y;show dW λN d c=>?_;subst c
   show bj 53#(N _ _ f) d (by rw[aD,O!];show h_ _ _)
  .intro i x I Z O;show dW λN d u=>?_;subst u
   show aj (λl C=>dX λbb=>mj λU _ _ j=>?_) (Paired.tN e O);subst U
   rw[j!]at C;show aj (λr c t=>?_) (vN.mp C);subst t
   have e:=Dm.mp (iu c);show 4#(fN 53#(N _ _ j) (aE (j:=0) (oH (I6 v e.2 e.1))) (iI d (N.put b) aa ?_));rw[E!,c];show(dc _ _).symm
  .intro I Z;show dW λN d b=>?_;subst b
   rw[s,I!]at d;have j:=F.trans N;show 14#(dz 97#(j _ _ R) gJ 28#(85#(λs f=>fG (lo:=0) (m:=(p:Int).toNat) (λi I w=>ai Z w/\159#(w s)/\∃b,I=aC b/\b.length<=i-1) (bA (ai.new f) aa [] rx (Ξ _)) (by intro i I w _;show bG λ_ z b e l=>?_;show⟨z,by rw[e,aD];lia⟩) (74#0) ?_ ?_)))
   .intro i I w Y;show bG λc A b O t=>?_;subst O
    rw[k?];show 46#0#(qm rx (.inl 53#(c _ _ d)) (bA rx (kU _) _ rx (gE (λU=>?_) λ_=>bA c A b rx (by lia))))
    have r:i≠0:=λe=>by
     subst e;rw[qJ,eK (Dm.mpr ⟨g.p1,Nat.le_zero.mp (v 0)⟩)]at U;cases U
    show 146#⟨A,(bA (c.put f) aa (b++[i]) ((dc _ _).symm) (by rw[U',S!];lia))⟩
   .intro I w;show bG λc f b d t=>?_;subst d
    have Z:=j.trans c;have c:b.length<=9:=by lia
    have dk:36#b.length:=74#0
    show 18#(λd A=>?_)
    have c:ai w (η w d 185#0):=ai.new A;have g:η w d 185#0 d=1#([]):=aa;generalize η w d 185#0=j at c g;show(ah rx (av s rx 29#(c _ _ f) (uM (K:=K) (a:=s) (xs:=aC b) (λi M t=>∃R S ys,M=[304#0,some (.ref k),some (.ref s),some (.ref d),R,S]/\ai w t/\t d=1#ys/\ys.length=i/\∀v∈ys,mh 5 b.length d t v)
     (cF none none [] rx c g rx (137#0)) (by intro i M t _;show bz λ_ _ _ _ z _=>?_;show aK.of (z _ _ f)) ?_ ?_)))
    .intro i y M t Y;show bV λR S ys c E D L Q=>?_;subst c
     show aj (λu c g=>?_) (cS Y);subst g
     have i:=E _ _ f;have f:=(k6.mp c).1;show 14#(av s rx 29#i (λW Y=>bQ (xs:=aC b) (λj I r=>ai t r/\159#(r W)/\∃g,I=aC g/\g.length=j/\∀c∈g,c<=24) (bj (ai.new Y) aa (av [] rx rx (137#0))) (by intro j I r _;show cE λz y g e l _=>?_;show bj 53#(z _ _ i) y (by rw[e,aD];lia)) (by rw[aD];show dk) ?_ ?_))
     .intro j x I r O;show cE λk G g C F P=>?_;subst C
      show aj (λv U X=>?_) (cS O);subst X
      show 46#0#14#(kZ B p (bC J u v rx (H.same ((Z.trans E).trans k)) wl λc f w N=>iI (w _ _ G) ((k.trans w).put Y) aa (av (g++[c]) ((dc _ _).symm) (by rw[U',F];rfl) λx O=>?_)))
      rcases d!.mp O with O|O
      .show P x O
      .rw[a!.mp O];show N
     .intro I r;show cE λk G g p F P=>?_;subst p
      rw[aD]at F;have B:=k _ _ i;show 146#⟨100#53#(k _ _ D),0#(bh s W rx 29#B 29#G (λi u=>qD (xs:=aC b) (ys:=aC g) (by rw[aD,aD,F]) (λj I f=>ai r f/\159#(f i)/\∃l,I=aP l/\l.length=j/\∀x∈l,x.natAbs<=24) (bj (ai.new u) aa (av [] rx rx (137#0))) (by intro j I f _;show cE λz y l e p _=>?_;show iI 53#(z _ _ B) 53#(z _ _ G) y (by rw[e,fg];lia)) (by rw[aD];show dk) ?_ ?_))⟩
      .intro j x y b I f O X;show cE λw g l s p C h=>?_;subst s
       show aj (λv U s=>?_) (cS O);subst s
       show aj (λc N s=>?_) (cS X);subst s
       have s:=P c (iu N);have y:=ai.new (o:=.tup [.int (v:Int),.int (c:Int)]) h;have s:∀z:Int,z.natAbs<=24->η f b (.tup [.int (v:Int),.int (c:Int)]) i=1#(aP l)/\ai r (η (η f b (.tup [.int (v:Int),.int (c:Int)])) i 66#(aP l++[.int z]))/\η (η f b (.tup [.int (v:Int),.int (c:Int)])) i 66#(aP l++[.int z]) i=1#(aP l++[.int z])/\∃h,aP l++[.int z]=aP h/\h.length=j+1/\∀x∈h,x.natAbs<=24:=λz B=>iI (y _ _ g) ((w.trans y).put u) aa (av (l++[z]) ((zH _ _).symm) (by rw[U',p];rfl) λx O=>by
        rcases d!.mp O with O|O
        .show C x O
        .rw[a!.mp O];show B)
       show aq b _ rx (aZ.of aa) (aR rx _ _ rx (bh _ _ rx rx rx ?_));show(0#4#(gE (λ_=>14#(s _ (by lia))) λ_=>14#(ah rx (s _ (by lia)))))
      .intro I f;show cE λw g l X p C=>?_;subst X
       rw[aD]at p;have O:=k.trans w;have b:i≠d:=(cf (k _ _ D) u).symm;show cF d ys _ rx rx (O _ _ D) (iN (by lia)) (cF _ _ _ rx ((E.trans O).put A) aa (by rw[U',L];rfl) λv U=>?_)
       rcases d!.mp U with U|U
       .show((Q v U).same O).put
       .rw[a!.mp U];show mh.put (dU i l rx b g p (λj=>?_))
        rw[B!];cases e:l[j]? with
        | none=>decide
        | some x=>show d_ (C x (iu e)) 3#0
    .intro M t;show bV λR S ys u E D L Q=>?_;subst u
     rw[aD]at L;show 14#(q d ys t (Z.trans E) D (by lia) (by rw[L];show Q))
def ym(C:Addr):Sp:=λG H Q E=>∃p x k,G=[.int p,x]/\Gg H x k/\(nU p k->∀b Y,ai H Y->Y b=17#(aP k)->Q (.ref b) Y)/\(¬ nU p k->181#(.ref C))
def HP(C:Addr):Sp:=λG H Q E=>∃p l f q,G=[.int p,.ref l]/\(H l=some (.lst f)\/H l=some (.tup f))/\Paired (Gg H) f q/\
 (GoodW p q->∀w b o Y,ai H Y->Y w=17#([.int p,.ref b])->Y b=some (.tup o)->Paired (ql Y) o q->Q (.ref w) Y)/\(¬ GoodW p q->181#(.ref C))
def uE:Fx T T.uw 1 (ym a.gi):=by
 show T.uw.Cz yj 2#0
 .revert h;show dX λp=>aS λA d L c m s=>?_;subst L;obtain⟨b,rfl,U⟩:=c
  show af _ (ae (bD (az nL (44#(pv 1)) ao (aH _)) (104#T.n5) aO)
   (ae (dQ PassesOwn.leaving rx (YJ K (cU (bW (bR (WG K) (pv 1) ao) (bR (WG K) (pv 1) ao)))) (bq 2 yj.nd)
   (ak (bD (PW.pt (j5 (az qg (pv 2) ao (aH _)) (iK (az FG (pv 2) (pv 0) (aH _))))) (104#T.n5) aO)))
   (ae (bD (az cT (bR (WG K) (pv 1) ao) (bR (WG K) (pv 1) ao) (aH _)) (104#T.n5) aO)
   (ae (bD (PW.pt (j5 (az qg (bR (WG K) (pv 1) ao) ao (aH _)) (iK (az mu (bR (WG K) (pv 1) ao) (yL (by rfl) T.NU) (aH _))))) (104#T.n5) aO)
   (ak (ay (193#(pv 1)))))))) ?_
  show GN ?_;intro e f I g i k l c B;have f:aK K H b (aP d)\/aZ K H b (aP d):=U.imp aK.of aZ.of
  by_cases C:d.length=3
  .show gZ (λx y z k=>?_) (Pp d C);subst k
   show 14#(bh b _ rx f rx 28#(x7 rx ?_));show 14#(vY f (v:=.int x) gJ 28#(vY f (v:=.int y) ir ⟨(dl rx),λq d=>av q rx ⟨_,aZ.of aa⟩ ?_⟩))
   have c:ai H (η H q (.tup [.int x,.int y])):=ai.new d;have X:aK K (η H q (.tup [.int x,.int y])) b (aP [x,y,z])\/aZ K (η H q (.tup [.int x,.int y])) b (aP [x,y,z]):=f.imp c.seq c.sqT;have r:η H q (.tup [.int x,.int y]) b=1#(aP [x,y,z])\/η H q (.tup [.int x,.int y]) b=17#(aP [x,y,z]):=U.imp (c _ _) (c _ _);have d:η H q (.tup [.int x,.int y]) q=17#([.int x,.int y]):=aa;generalize η H q (.tup [.int x,.int y])=S at c X d r;have D:∀{e:Prop},e->(nU p [x,y,z]->¬ e)->E (.ref a.gi) none S:=λR W=>s (λg=>W g R) _ c
   show Du (K:=K) (a:=q) (xs:=[.int x,.int y]) (λi M Z=>∃v,M=[some (.int p),240#0,v]/\Z=S/\(1<=i->0<=x/\x<p)/\(2<=i->0<=y/\y<p)) (fU none rx rx (λz=>by lia) (λz=>by lia)) (by intro i M Z _;show aG λ_ _ e _=>?_;show by rw[e];show aZ.of d) ?_ ?_
   .intro i J M Z Y;show dX λv=>mj λo O e k=>?_;subst o O
    have l:i=0\/i=1:=by
     have:=(k6.mp Y).1;simp at this
     lia
    rcases l with rfl|rfl
    .cases(26#Y);show 192#28#(gE (λd=>?_) (λu=>(0#(bT (ah rx (gE (λN=>?_) (λF=>?_)))))))
     .show 18#(D (lZ d) λg=>by have h:0<=x:=(oM g).a0;lia)
     .show 18#(D (lZ N) λg=>by have h:x<p:=(oM g).a1;lia)
     .have R : ¬ x<0:=λz=>u (eK z)
      have W : ¬ x ≥ p:=λz=>F (eK z)
      show 14#(bj rx (λ_=>by lia) (λz=>by lia))
    .cases(26#Y);show 192#28#(gE (λd=>?_) (λu=>(0#(bT (ah rx (gE (λN=>?_) (λF=>?_)))))))
     .show 18#(D (lZ d) λg=>by have h:0<=y:=(oM g).b0;lia)
     .show 18#(D (lZ N) λg=>by have h:y<p:=(oM g).b1;lia)
     .have R : ¬ y<0:=λz=>u (eK z)
      have W : ¬ y ≥ p:=λz=>F (eK z)
      show 14#(bj rx (λ_=>e (Ξ _)) (λ_=>by lia))
   .intro M Z;show dX λv=>mj λi t e k=>?_;subst i t
    obtain⟨A,i⟩:=e 23#0
    obtain⟨o,e⟩:=k 23#0
    show 14#(vY X (v:=.int x) gJ 28#(vY X (v:=.int y) ir 4#(gE (λn=>?_) (λY=>?_))))
    .show 18#(D (V.int.inj (lZ n)) λg z=>(oM g).ne z)
    have O:x≠y:=λz=>Y (eK (k! V.int z))
    show 14#(vY X (v:=.int z) (aE (j:=2) rx) (bT 28#(gE (λd=>?_) (λu=>(ah rx (vY X (v:=.int z) (aE (j:=2) rx) (bT (ah rx (gE (λN=>?_) (λF=>?_))))))))))
    .show 18#(D (lZ d) λg=>by have h:1<=z:=(oM g).l0;lia)
    .show 18#(D (lZ N) λg=>by have h:z<=1000000000000000000000000000000:=(oM g).l1;lia)
    have R : ¬ z<1:=λw=>u (eK w)
    have W : ¬ z > 1000000000000000000000000000000:=λw=>F (eK w)
    have J:nU p [x,y,z]:=af (x,y,z) rx ⟨A,i,o,e,O,by change 1<=z;lia,by change z<=_;lia⟩
    rcases r with r|r
    .show 14#(aV b _ rx (.inl ⟨aK.of r,λl C=>m J l _ (c.trans (ai.new C)) aa⟩))
    .show 14#(aV b _ rx (.inr ⟨aZ.of r,m J b _ c r⟩))
  .show 14#(bh b _ rx f rx 28#(Dh (λz=>C ?_) 18#(s (λg=>C (Qh g)) _ 186#0)))
   have:=V.int.inj z;rw[fg]at this
   lia
def p8:Fx T T.pI 2 (HP a.gi):=by
 have uE:=uE T;show T.pI.Cz yi 2#0
 .revert h;show dX λp=>bV λl xs q n C t s d=>?_;subst n
  show af _ (ae (bD (PW.pt (j5 (az qg (pv 0) ao (aH _)) (iK (az mu (pv 0) (yL (by rfl) T.B0) (aH _))))) (104#T.n5) aO)
   (ae (bD (az mu (44#(pv 1)) (yL (by rfl) T.Hz) (aH _)) (104#T.n5) aO)
   (ak (ay (cU 27#(193#(Qg dJ (own:=["tie"]) (fq:=["points"]) (js:=[0]) (fb yi) rfl (piS K (pv 1)) 6#(154#(["tie","points"])) 75#0 6#(aF uE P T.uw.c XC 269#(pv 0))))))))) ?_
  show GL ?_;intro b f c e;have i:aK K H l xs\/aZ K H l xs:=C.imp aK.of aZ.of;have f:=t.length;have b:∀{e:Prop},e->(GoodW p q->¬ e)->181#(.ref a.gi):=λR W Y c=>d (λg=>W g R) Y c
  show 192#28#(gE (λh=>?_) (λe=>(ah rx (bT (ah rx (gE (λc=>?_) (λF=>?_)))))))
  .show 18#(b (lZ h) (λg=>161#g.1) _ 186#0)
  .show 18#(b (lZ c) (λg=>161#g.2.1) _ 186#0)
  have h : ¬ p<1:=λz=>e (eK z)
  have e : ¬ p > 10:=λz=>F (eK z)
  show 14#(aq l xs rx i (aq _ _ rx rx 28#(gE (λc=>?_) (λF=>?_))))
  .show 18#(b (lZ c) (λg=>161#g.2.2.1) _ 186#0)
  have b : ¬7#xs.length > 24:=λz=>F (eK z)
  show 146#(?_);have start:∀D,H D=none->((λ(i:Nat) (I:List V) (Z:Hp)=>ai H Z/\19#Z/\Paired (ql Z) I (q.take i)/\I.length=i/\∀k∈q.take i,nU p k) 0 [] (61#H)):=λD r=>dF (ai.new r) aa (by rw[List.take_zero];show .nil) rx λk S=>by rw[List.take_zero]at S;cases S
  have B:∀(D:Addr),H D=none->∀(i:Nat) (x:V) (I:List V) (Z:Hp),xs[i]?=some x->(ai H Z/\19#Z/\Paired (ql Z) I (q.take i)/\I.length=i/\∀k∈q.take i,nU p k)->
   ym a.gi [.int p,x] Z (λv X=>19#X/\(ai H (η X D 66#(I++[v]))/\η X D 66#(I++[v]) D=1#(I++[v])/\Paired (ql (η X D 66#(I++[v]))) (I++[v]) (q.take (i+1))/\48#(I++[v])=i+1/\∀k∈q.take (i+1),nU p k)) E:=by
   intro D r i x I Z O;show kG λN J y w v=>?_
   show aj (λk j M=>?_) (Paired.tN t O)
   show bC p x k rx (M.same N) (λg b X c U=>?_) λL X c=>d (λg=>L (g.2.2.2 k (iu j))) _ (N.trans c)
   have u:19#X:=c _ _ J;show⟨u,(dF ((N.trans c).put r) aa ?_ (by rw[U',S!,w]) λm d=>?_)⟩
   .rw[E!,j];show Paired.snoc (244#(z.tups (c.tups.trans (fT.put u)))) (af b rx (fT.put u _ _ U))
   .rw[E!,j]at d;show 316#d
    .show v m z
    .have z:m=k:=by simpa using z
     rw[z];show g
  have b:∀(D:Addr) (I:List V) (Z:Hp),H D=none->(ai H Z/\19#Z/\Paired (ql Z) I (q.take xs.length)/\I.length=xs.length/\∀k∈q.take xs.length,nU p k)->
   ∀u,Z u=none->36#([V.int p,.ref u]:List V).length/\∀L,η Z u (.tup I) L=none->Q (.ref L) (η (η Z u (.tup I)) L (.tup [.int p,.ref u])):=by
   intro D I Z r;show kG λN J y w v u c=>?_
   show 18#(λL j=>?_)
   have d:ai Z (η Z u (.tup I)):=ai.new c;have M:=d.trans (ai.new (o:=.tup [.int p,.ref u]) j);rw[f,I!]at y v;show s (iI (by lia) (by lia) (by lia) v) L u I _ (N.trans M) aa ?_ (244#(z.same M))
   rw[au (cf aa j),aa]
  rcases C with C|C
  .show .inl 14#(av l rx ⟨xs,aK.of C⟩ (λD r=>bQ (xs:=xs) (λi I Z=>ai H Z/\19#Z/\Paired (ql Z) I (q.take i)/\I.length=i/\∀k∈q.take i,nU p k) (start D r) ?_ (dZ (by lia)) ?_ ?_))
   .intro i I Z _;show kG λN J y w _=>?_
    show bj 53#(N _ _ C) J (v_ w)
   .intro i x I Z O U;show 46#0#(B D r i x I Z O U)
   .intro I Z U;show aV D I rx (.inl ⟨aK.of U.2.1,b D I Z r U⟩)
  .show .inr 14#(av l rx ⟨xs,aZ.of C⟩ (λD r=>zf (xs:=xs) (λi I Z=>ai H Z/\19#Z/\Paired (ql Z) I (q.take i)/\I.length=i/\∀k∈q.take i,nU p k) (start D r) ?_ (dZ (by lia)) ?_ ?_))
   .intro i I Z _;show kG λN J y w _=>?_
    show bj 97#(N _ _ C) J (v_ w)
   .intro i x I Z O U;show 46#0#(B D r i x I Z O U)
   .intro I Z U;show aV D I rx (.inl ⟨aK.of U.2.1,b D I Z r U⟩)
def xT(h:n<10^60):((n:Nat):Int).natAbs.log2<1920:=by
 rw[W?]
 by_cases e:n=0
 .rw[e];decide
 .show(w_ e).mpr (u_ h 3#0)
def yX{b:Str}(k:∀y∈ss,y.length<=B)(h:ss.length*B+ss.length*b.length<=16777216):PySem.JoinOk b ss=true:=by
 unfold PySem.JoinOk;rw[PySem.StrLaws.joinFits k h];rfl
def L5:Str.ofString "0"=⟨#[48]⟩:=10#0
def Z9:209#("0123456789":Str)=[48,49,50,51,52,53,54,55,56,57]:=10#0
def TU(c:Nat):c∈209#("0123456789":Str)↔48<=c/\c<=57:=by
 rw[Z9];simp only[Z',q_,or_false]
 lia (splits:=30)
def mS(h:n<=1000000):n<=sizeLine:=Ω h 3#0
def len_list(x:Str):x.length=x.cps.toList.length:=205#0
def Ye{x:Str}(h0 : ¬ x.length=0)(b : ¬ 60<x.length):Tx.kq x=((x.cps.toList.map λc=>11#(c∈209#("0123456789":Str))).all id&&(! 11#(x.cps.toList[0]?=some 48) || 11#(x=Str.ofString "0"))):=by
 unfold Tx.kq;rw[fV h0,fV b,ad0];simp only[Bool.not_false,W!]
 congr 2
 show funext λc=>q?.mpr (TU c).symm
def numsOf(k:List Str):List Nat:=k.map λx=>(Tx.valZ x).toNat
def E6:Sp:=114#(∃x:Str,G=[.str x]/\x.length<=1000000/\99#(.bl (Tx.kq x)))
def yI:Sp:=λG H Q _=>∃l k,G=[.ref l]/\H l=1#(k.map V.str)/\k.length<=1000000/\(∀x∈k,x.length<=1000000)/\
 (k.all Tx.kq=true->∀D Y,ai H Y->201#(Y D=1#(aC (numsOf k))))/\(k.all Tx.kq=false->99#.eM)
def gW:Ok T T.kh 1 E6:=by
 show T.kh.ok vq 2#0
 .revert h;show aG λx L O q=>?_;subst L
  show af _ (ae (bD (PW.pt (j5 170#(bI oq (by rfl) T.dm _d 131#0) (iK (az mu (bI oq (by rfl) T.dm _d 131#0) (yL (by rfl) T.AL) (aH _))))) (ak (ay qf)) aO)
   (ak (ay (qu (bI (S6 K rfl) (by rfl) T.L0 _z (bB (ck (own:=["sign"]) (fq:=[]) (js:=[]) (fb vq) rfl (S8 K (pv 0)) 6#(154#(["sign"])) 75#0 6#(cY Ml (pv 0) (S7 (by rfl) T.NV) (88#0))))) (oj (Uk (cY nL (bR (Uw K) (pv 0) ao) aW (aH _)) (oj (cY cT (pv 0) aW (aH _))))))))) ?_
  show gu ?_;intro v f;have l:36#x.length:=Ω O 3#0
  have n:=len_list x;show(0#(bj l rx 232#0))
  by_cases F:x.length=0
  .have q:=q H 186#0;rw[show Tx.kq x=false by unfold Tx.kq;rw[eK F];rfl]at q
   show mW (by rw[F];rfl) q
  show j6 (λz=>161#(V.int.inj z)) ?_
  show(0#⟨l,(aq _ _ rx rx 232#0)⟩)
  by_cases b:60<x.length
  .have q:=q H 186#0;rw[show Tx.kq x=false by unfold Tx.kq;rw[eK b];simp]at q
   show mW (by lia) q
  show j6 (by lia) ?_
  show 124#(ah rfl (λD r=>Qw (x:=x) (λi I Z=>ai H Z/\19#Z/\I=((x.cps.toList.take i).map λc=>11#(c∈209#("0123456789":Str))).map V.bl) (150#rfl) ?_ l ?_ ?_))
  .intro i I Z _;show dW λN e Y=>?_;subst Y
   show⟨e,by rw[Δ,Δ,O!];show h_ _ _⟩
  .intro i I Z Y;show dW λN e k=>?_;subst k
   show 46#(ah rfl (aV (⟨#[x.cps.getD i 0]⟩:Str) ("0123456789":Str) rfl (dF rfl e (N.put r) aa ?_)));have Y:i<x.cps.size:=Y;have g:x.cps.toList[i]?=some (x.cps.getD i 0):=by
    rw[Array.getElem?_toList];simp[Y]
   rw[PySem.StrLaws.found_one,E!,g,H_,o!,o!];rfl
  .intro I Z;show dW λN e o=>?_;subst o
   rw[n,I!]at e;have q:=q Z N;rw[Ye F b]at q;show aq D _ rfl (aK.of e) ?_;cases g:(x.cps.toList.map λc=>11#(c∈209#("0123456789":Str))).all id with
   | false =>
     rw[g]at q;show af false rx (cZ q)
   | true =>
     rw[g,W!]at q;show af true rx (eu ?_);obtain⟨a,U⟩:∃a,x.cps.toList[0]?=some a:=⟨_,A! (by lia)⟩
     rw[U]at q;show 14#(bN x 0 a rx (dF rx l (aE (j:=0) U) rx ?_))
     by_cases d:a=48
     .subst d;rw[eK (k! V.str L5.symm)];rw[eK rfl]at q;show af false rfl (cZ 124#⟨rfl,?_⟩);rw[show 11#(V.str x=V.str (Str.ofString "0"))=11#(x=Str.ofString "0") from q?.mpr ⟨V.str.inj,k! V.str⟩]
      show q
     .have k : ¬ V.str ⟨#[a]⟩=V.str (Str.ofString "0"):=λz=>d (by
       rw[L5]at z;injection z with z
       injection z with z
       simpa using z)
      rw[fV (λz=>d (26#z))]at q
      show af true ?_ (eu q);rw[fV k];rfl
def dD:Ok T T.gR 2 yI:=by
 have gW:=gW T;show T.gR.ok kB 2#0
 .revert h;show fX λl k=>dI λz C b j q p=>?_;subst z
  show af _ (ae (bD (iL (eO (bI (S6 K rfl) (by rfl) T.L0 _z (bB (ck (own:=["word"]) (fq:=[]) (js:=[]) (fb kB) rfl (r8 K (pv 0)) 6#(154#(["word"])) 75#0 6#(aF gW P T.kh.c aL 131#0)))))) (ak (ay dG)) aO)
   (ak (ay (ck (own:=["word"]) (fq:=[]) (js:=[]) (fb kB) rfl (r8 K (pv 0)) 6#(154#(["word"])) 75#0 6#(bx tD (by rfl) T.Rv adD 131#0))))) ?_
  show gu ?_;intro v f;show 14#(av l rx 29#C (λD r=>bQ (xs:=k.map V.str) (λi I Z=>ai H Z/\19#Z/\I=((k.take i).map Tx.kq).map V.bl) (150#rx) ?_ (by rw[Δ];show mS b) ?_ ?_))
  .intro i I Z _;show dW λN e U=>?_;subst U
   show bj 53#(N _ _ C) e (by rw[Δ,Δ,O!];show h_ _ _)
  .intro i y I Z X;show dW λN e t=>?_;subst t
   rw[j!]at X;show aj (λx O n=>?_) (vN.mp X);subst n
   show 4#(av x rx (j x (iu O)) (λw u=>iI (u _ _ e) ((N.trans u).put r) aa (by rw[E!,O,H_,o!,o!];rfl)))
  .intro I Z;show dW λN e n=>?_;subst n
   rw[Δ,I!]at e;show aq D (k.map Tx.kq) rx (aK.of e) ?_;rw[show(k.map Tx.kq).all id=k.all Tx.kq by rw[ad0];rfl]
   cases g:k.all Tx.kq with
   | false=>show 124#(eu (p g _ N))
   | true =>
     show 14#(cZ 28#(av l rx 29#(N _ _ C) (λd a=>bQ (xs:=k.map V.str) (λi I w=>ai Z w/\159#(w d)/\I=aC (numsOf (k.take i))) (bj (ai.new a) aa rx) ?_ (by rw[Δ];show mS b) ?_ ?_)))
     .intro i I w _;show dW λu Y c=>?_;subst c
      show bj 53#(u _ _ (N _ _ C)) Y ?_;unfold numsOf;rw[aD,Δ,O!];show h_ _ _
     .intro i y I w X;show dW λu Y o=>?_;subst o
      rw[j!]at X;show aj (λx O L=>?_) (vN.mp X);subst L
      show mj (λB c _ m=>?_) (Tx.JG (l?.mp g x (iu O)))
      show 4#(aq x _ rx B (dF m Y (u.put a) aa ?_));unfold numsOf;rw[E!,O,H_,o!];change _++[V.int (Tx.valZ x)]=aC (_++[(Tx.valZ x).toNat]);rw[dc,adP c]
     .intro I w;show dW λu Y U=>?_;subst U
      rw[Δ,I!]at Y;show q g d w (N.trans u) Y
def Up(n:Nat)(L:List Nat):Prop:=(∀i k:Nat,L[i]?=some k->k<n)/\∀i j k:Nat,L[i]?=some j->L[i+1]?=some k->j<k
noncomputable def upB (n:Nat) (L:List Nat):Bool:=@decide (Up n L) (Classical.propDecidable _)
def Yg(h:Up n L):upB n L=true:=by unfold upB;show @eK _ (Classical.propDecidable _) h
def Yh(h : ¬ Up n L):upB n L=false:=by unfold upB;show @fV _ (Classical.propDecidable _) h
def Wr(h:upB n L=true):Up n L:=by unfold upB at h;show @lZ _ (Classical.propDecidable _) h
def Up.ge(h:Up n L):∀i k:Nat,L[i]?=some k->i<=k:=by
 intro i
 induction i with
 | zero=>intro k _;lia
 | succ i E =>
   intro k B;obtain⟨j,J⟩:∃j,L[i]?=some j:=⟨_,A! (adX (k6.mp B).1)⟩;have:=E j J;have:=h.2 i j k J B
   lia
def Up.len(h:Up n L):L.length<=n:=by
 cases C:L.length with
 | zero=>lia
 | succ m =>
   obtain⟨k,B⟩:∃k,L[m]?=some k:=⟨_,A! (by lia)⟩
   have:=h.ge m k B;have:=h.1 m k B
   lia
def E7:Sp:=114#(∃x:Str,G=[.str x]/\x.length<=1000000/\99#(.bl (Tx.Br x)))
def Oj:Sp:=114#(∃(l:Addr) (L:List Nat) (n:Nat),G=[.ref l,.int (n:Int)]/\H l=1#(aC L)/\99#(.bl (upB n L)))
def Ol(x:Str)(lo Y:190#0)(h:x.length<=1000000):48#(Txt.slice x lo Y)<=1000000:=Ω (Txt.slice_le x _ _) h
def rP:Ok T T.rF 2 E7:=by
 have gW:=gW T;show T.rF.ok Ek 2#0
 .revert h;show aG λx L O q=>?_;subst L
  show 84#(ay (Uk (aF gW P T.kh.c aL 131#0) (oj (qu (cY cT (dH (Ux K) (pv 0) fu (eB ao)) aW (aH _)) (qu (cY nL (pv 0) aW (aH _)) (oj (aF gW P T.kh.c aL (bB (dH (Ux K) (pv 0) (eB ao) fu)))))))));have l:36#x.length:=Ω O 3#0
  show 14#(av x rx O (λZ N=>?_))
  have a:=q Z N;unfold Tx.Br at q a;cases S:Tx.kq x with
  | true =>
    rw[S]at a;show af true rx (eu a)
  | false =>
    rw[S,Bool.false_or]at q a;show af false rx (cZ (0#(fU x rx l rx ?_)))
    by_cases d:Txt.slice x none (some 1)=Str.ofString "-"
    case neg =>
     rw[fV (λy=>d (V.str.inj y))]
     rw[fV d]at a;show af false rx (cZ a)
    rw[eK (k! V.str d)];rw[eK d,W!]at q a;show af true rx (eu (ah rx ⟨rfl,?_⟩))
    by_cases F:x=Str.ofString "-0"
    .rw[eK (k! V.str F)];rw[eK F]at a;show af false rx (cZ a)
    .rw[fV (λy=>F (V.str.inj y))]
     rw[fV F]at q;show af true rx (eu (0#(av x rx l (av _ rx (Ol x _ _ O) λw u=>q w (N.trans u)))))
def lW:Ok T T.lQ 1 Oj:=by
 show T.lQ.ok kC λ_ A _ s H G Q E hr h=>?_
 .revert h;show bz λl X n q2_ C q=>?_;subst q2_
  show af _ (ae (dQ PassesOwn.never rx (Lv K (by rfl) T.gV 131#0) (yM K (n:=2) rx (aM (bq 2 kC.nd) (aM (bq 3 kC.nd) cX)))
   (ak (bD (PW.pt (j5 (az FG (pv 3) (pv 1) (aH _)) (iK (PW.pt (qt (az mu (pv 2) ao (aH _)) (mq (az OU (pv 3) 267#(aB jt (pv 2) ao) (aH _)))))))) (ak (ay qf)) aO)))
   (ak (ay qf))) ?_
  show qY ?_;intro zz0 f I;show 14#(av l rx 29#C (FQ (K:=K) (a:=l) (xs:=aC X) (λi M Z=>(∃v2 m,M=[some (.ref l),8#(n:Int),v2,m])/\ai H Z/\(∀j k:Nat,j<i->X[j]?=some k->k<n)/\∀j u v:Nat,j+1<i->X[j]?=some u->X[j+1]?=some v->u<v) (iI (kZ none none rx) 186#0 (λj k z=>absurd z (by lia)) (λj u v z=>absurd z (by lia))) (λi M Z _ z=>aK.of (z.2.1 _ _ C)) ?_ ?_))
  .intro i x T0 M Z O;show mj λq3_ N R F t=>?_;obtain⟨m,D,rfl⟩:=q3_
   show aj (λc L Yi=>?_) (cS O);subst Yi
   have s3:=N.trans (ai.new (o:=182#(.int (c:Int))) t);have W : ¬ Up n X->99#(.bl false):=λz Y p=>by
    have y:=q Y p;rw[Yh z]at y;show y
   show aq T0 _ rx (aZ.of aa) 49#0;show(0#(bT 232#0))
   by_cases b:c<n
   case neg=>show mW (by lia) (W (λu=>b (u.1 i c L)) _ s3)
   have d:∀j k:Nat,j<i+1->X[j]?=some k->k<n:=λj k J B=>by
    by_cases e:j=i
    .subst e;rw[L]at B;cases B;show b
    .show R j k (by lia) B
   show j6 (by lia) ?_
   cases i with
   | zero=>show 124#(bT (ah rfl (j6 3#0 (iI (kZ _ _ rfl) s3 d (λj u v z=>absurd z (by lia))))))
   | succ i =>
     obtain⟨j,J⟩:∃j,X[i]?=some j:=⟨_,A! (adX (k6.mp L).1)⟩;show 192#28#(mW (by lia) ?_)
     have S:vW (aC X) (7#(i+1)-1)=8#(j:Int):=by
      rw[151#(7#(i+1)-1=(i:Int))]
      show aE (j:=i) (by unfold aC;rw[j!,J];rfl)
     show(0#14#(bT (fN (v:=.int (j:Int)) 53#(s3 _ _ C) (S) (?_))));show(bT 232#0)
     by_cases r:j<c
     .show j6 (by lia) (iI (kZ _ _ rx) s3 d (λg u v z hu U=>?_))
      by_cases e:g=i
      .subst e;rw[J]at hu;rw[L]at U;cases hu;cases U;show r
      .show F g u v (by lia) hu U
     .show mW (by lia) (W (λu=>r (u.2 i j c J L)) _ s3)
  .intro M Z;show mj λYj N R F=>?_;obtain⟨m,D,rfl⟩:=Yj
   have y:=q _ N;rw[Yg ⟨λi k B=>R i k (by rw[aD];show(k6.mp B).1) B,λi j k J B=>F i j k (by rw[aD];show(k6.mp B).1) J B⟩]at y
   show y
def fR(L:List Nat):List Int:=L.map λk:Nat=>(k:Int)
def E8(L:List Nat):aP (fR L)=aC L:=by
 unfold aP fR aC;rw[z?];rfl
inductive yn(n:Nat):Str->List Int->Prop
 | bare {x:Str} (h:x="lengths"\/x="base"\/x="forests"):yn n x []
 | tR {x:Str} {ks:List Nat} (h:x="even"\/x="cut"\/x="odd") (up:Up n ks) (hl:ks.length<=24):yn n x (fR ks)
 | vG {r:Nat} {zs:List Int} (h1:r≠1) (hr:r<10^60) (hl:zs.length=n) (hz:∀z∈zs,z.natAbs<10^60):yn n "heights" ((r:Int)::zs)
def UJ(H:Hp)(r:Addr)(x:Str)(zs:List Int):Prop:=∃b,H r=17#([.str x,.ref b])/\H b=17#(aP zs)
def nG(x:Str)(k:List Str):List V:=(x::k).map V.str
def Wds(k:List Str):Prop:=k.length<=1000000/\∀x∈k,x.length<=1000000
noncomputable def tiesF (n:Nat) (k:List Str):Option (List Int):=cond (k.all Tx.kq&&upB n (numsOf k)) (some (fR (numsOf k))) none
def RV(n:Nat)(z:List Nat)(g:List Str):Option (List Int):=cond (! 11#(z=[]\/z=[1])&&11#(g.length=n)&&g.all Tx.Br) (some (fR z++g.map Tx.valZ)) none
def TV(n:Nat)(k:List Str):Option (List Int):=cond ((k.take 1).all Tx.kq) (RV n (numsOf (k.take 1)) (k.drop 1)) none
noncomputable def askF (n:Nat) (x:Str) (k:List Str):Option (List Int):=if(x="lengths"\/x="base"\/x="forests")/\k=[] then some [] else if x="even"\/x="cut"\/x="odd" then tiesF n k else if x="heights" then TV n k else none
def xU{m:Type}{o F:Option m}{y:m}(h:cond b o F=some y)(e:F=none):b=true/\o=some y:=by
 cases b with
 | true=>show⟨rfl,h⟩
 | false=>rw[e]at h;cases h
def Ws(S:n<=24)(h:askF n x k=some zs):yn n x zs:=by
 unfold askF at h
 split at h
 .rename_i U
  cases h;show .bare U.1
 split at h
 .rename_i d
  obtain⟨R,W⟩:=xU h rfl;cases W;have p:=Wr (Bool.and_eq_true_iff.mp R).2;show .tR d p (Ω p.len S)
 split at h
 .rename_i N
  obtain⟨R,W⟩:=xU h rfl;obtain⟨M,b⟩:=xU W rfl;simp only[H!,X_,decide_eq_false_iff_not,decide_eq_true_eq]at M;cases k with
  | nil=>show absurd (.inl rfl) M.1.1
  | cons y g =>
    cases b;show mj (λ_ f i _=>?_) (Tx.JG (l?.mp R y h!))
    rw[N];show .vG (r:=(Tx.valZ y).toNat) (zs:=g.map Tx.valZ) (λe=>M.1.1 (.inr (by change[(Tx.valZ y).toNat]=[1];rw[e]))) (by lia) (by rw[Δ];show M.1.2) λz m=>?_
    show aj (λu G c=>?_) (i!.mp m);subst c
    show(Tx.Q9 (l?.mp M.2 u G)).2.1
 .cases h
def L6(H:Hp)(Q:V->Hp->Prop)(x:Str)(o:Option (List Int)):Prop:=(∀U,o=some U->∀r Y,ai H Y->UJ Y r x U->Q (.ref r) Y)/\(o=none->99#.eM)
def E9(F:Nat->Str->List Str->Option (List Int)):Sp:=114#(∃B l p J x k,G=[.ref B,.ref l]/\bO H B p J/\J.length<=24/\H l=1#(nG x k)/\Wds k/\305#x/\L6 H Q x (F J.length x k))
def HQ(x:V)(xs:List V):l7 (x::xs) (some 1) none=xs:=by
 unfold l7;rw[show(some 1:190#0)=some ((1:Nat):Int) from rfl,HT.r7,HT.uO,y!,N? (by lia)]
 change xs.take (xs.length+1-1)=xs;rw[Nat.add_sub_cancel,I!]
def Wu(x:V)(k:List Str):l7 (x::k.map V.str) (some 1) (some 2)=(k.take 1).map V.str:=by
 unfold l7;rw[show(some 1:190#0)=some ((1:Nat):Int) from rfl,show(some 2:190#0)=some ((2:Nat):Int) from rfl,HT.r7,HT.r7]
 cases k with
 | nil=>rfl
 | cons =>
   rw[w!,y!,y!,N? (by lia),N? (by lia)]
   rfl
def Yk(x:V)(k:List Str):l7 (x::k.map V.str) (some 2) none=(k.drop 1).map V.str:=by
 unfold l7;rw[show(some 2:190#0)=some ((2:Nat):Int) from rfl,HT.r7,HT.uO]
 cases k with
 | nil=>rfl
 | cons y g =>
   rw[N? 23#0]
   change(g.map V.str).take _=g.map V.str;rw[l_ 23#0]
def p9:Ok T T.pP 3 (E9 λn _=>tiesF n):=by
 have dD:=dD T;have lW:=lW T;show T.pP.ok tI 2#0
 .revert h;show gZ λB l p=>cK λJ x k t=>dI λj X C S _ q=>?_;subst t
  show af _ (ae (bF 2 tI.nd (aF dD P T.gR.c aL (bB (dH (WH K) (pv 1) (eB ao) fu))))
   (ae (bD (PW.pt (j5 (az tL (pv 2) dG (aH _)) (iK (iL (eO (aF lW P T.lQ.c aL (bW (pv 2) (44#70#0)))))))) (ak (ay dG)) aO)
   (ak (ay (cU (bW (D9 K (pv 1)) (193#(pv 2)))))))) ?_
  show jR ?_;intro v y I;have q:L6 H Q x (tiesF J.length k):=q;unfold tiesF at q;have C:H l=1#(.str x::k.map V.str):=C;show(0#(aq l _ rx (aK.of C) (λc L=>?_)))
  rw[HQ];have F:ai H (η H c 66#(k.map V.str)):=ai.new L;show aV c k rx (dF aa S.1 S.2 (λg D Z N e=>?_) λg Z N=>?_)
  case refine_2=>show 146#4#(eu (q.2 (by rw[g];rfl) _ (F.trans N)))
  rw[g,W!]at q;have m:=F.trans N;show aA (λd f R W M=>?_) (id (j.same m).ex)
  show 146#4#(cZ ?_);show(0#(188#(aq d f rx (284#W) ?_)));rw[M.length];show cC D (numsOf k) J.length rx e λw u=>?_
  cases i:upB J.length (numsOf k) with
  | false=>show 124#(eu (q.2 (by rw[i];rfl) _ (m.trans u)))
  | true =>
    show 14#(cZ ?_);show 14#(fN 53#((m.trans u) _ _ C) gJ (?_));show 14#(aV D (aC (numsOf k)) rx (.inl ⟨aK.of (u _ _ e),λb U=>18#(λr O=>?_)⟩))
    have a:=ai.new (o:=.tup [.str x,.ref b]) O;show q.1 _ (by rw[i];rfl) r _ (((m.trans u).trans (ai.new U)).trans a) (af b aa (by rw[E8];show a _ _ aa))
def Fb(a b:Str):PyData.eqv (.str a) (.str b)=decide (a=b):=by
 rw[show PyData.eqv (.str a) (.str b)=(a==b) by simp[PyData.eqv]]
 by_cases h:a=b
 .rw[eK h];show k_.mpr h
 .rw[fV h];show 172#h
def Yl(a b c x:Str):([PyData.str a,.str b,.str c].any λe=>PyData.eqv e (.str x))=11#(x=a\/x=b\/x=c):=by
 rw[P?,P?,P?,List.any_nil,Fb,Fb,Fb,Bool.or_false,<-_W,<-_W]
 congr 1
 rw[eq_comm (a:=a),eq_comm (a:=b),eq_comm (a:=c)]
def HR:133#(.tuple [PyData.str "lengths",.str "base",.str "forests"]):=10#0
def HS:133#(.tuple [PyData.str "even",.str "cut",.str "odd"]):=10#0
def KC(h:305#x):133#(.str x):=by
 unfold SeqAt.shaped;simp[PyData.canLay0,h,PyData.depth]
def kF:Ok T T.kE 3 (E9 λn _=>TV n):=by
 have dD:=dD T;have rP:=rP T;show T.kE.ok fP 2#0
 .revert h;show gZ λB l p=>cK λJ x k a=>dI λj b C S _ q=>?_;subst a
  show af _ (ae (bF 2 fP.nd (aF dD P T.gR.c aL (bB (dH (WH K) (pv 1) (eB ao) (eB ao)))))
   (ae (bF 3 fP.nd (dH (WH K) (pv 1) (eB ao) fu))
   (ae (bD (PW.pt (j5 (az tL (pv 2) dG (aH _)) (j5 (az (Ju K P.sq) (pv 2) (cU (bW (bu bS) (bu (bB ao)))) (88#0)) (iK (az nL (44#(pv 3)) (44#70#0) (aH _)))))) (ak (ay dG)) aO)
   (ae (bD (iL (eO (bI (S6 K rfl) (by rfl) T.L0 _z (bB (ck (own:=["word"]) (fq:=[]) (js:=[]) (fb fP) rfl (r8 K (pv 3)) 6#(154#(["word"])) 75#0 6#(aF rP P T.rF.c aL 131#0)))))) (ak (ay dG)) aO)
   (ak (ay (cU (bW (D9 K (pv 1)) (193#(aB (IX K) (pv 2) (ck (own:=["word"]) (fq:=[]) (js:=[]) (fb fP) rfl (r8 K (pv 3)) 6#(154#(["word"])) 75#0 6#(bx tD (by rfl) T.Rv adD 131#0)))))))))))) ?_
  show wX ?_;intro v a b c d e;have q:L6 H Q x (TV J.length k):=q;unfold TV at q;have C:H l=1#(.str x::k.map V.str):=C;show(0#14#(aq l _ rx (aK.of C) (λa b=>?_)))
  rw[Wu];have F:ai H (η H a 66#((k.take 1).map V.str)):=ai.new b;have A:∀y∈k.drop 1,y.length<=1000000:=λy X=>S.2 y (_C X)
  have v:48#(k.drop 1)<=1000000:=by rw[J_];have:=S.1;lia
  generalize d:k.drop 1=g at A v q;show aV a (k.take 1) rx (dF aa (by rw[O!];have:=S.1;lia) (λy X=>S.2 y (List.mem_of_mem_take X)) (λh D Z N b=>?_) λh Z N=>?_)
  case refine_2 =>
   rw[h]at q;show(0#(aq l _ rx 53#((F.trans N) _ _ C) (λY f=>?_)))
   show 146#4#(eu (q.2 rx _ (160#(ai.new f))))
  rw[h]at q;have a:48#(numsOf (k.take 1))<=1:=by unfold numsOf;rw[Δ,O!];show h_ _ _
  generalize numsOf (k.take 1)=z at q b a;have q:L6 H Q x (RV J.length z g):=q;unfold RV at q;show(0#(aq l _ rx 53#((F.trans N) _ _ C) (λc L=>?_)))
  rw[Yk,d];have a:ai Z (η Z c 66#(g.map V.str)):=ai.new L;have f:η Z c 66#(g.map V.str) c=1#(g.map V.str):=aa;have s:=a _ _ b;have N:=160#a;generalize η Z c 66#(g.map V.str)=w at a f s N;show 146#4#(cZ ?_);show 146#18#(λb a=>?_)
  have l:ai w (η w b 185#0):=ai.new a;have k:η w b 185#0 b=1#([]):=aa;generalize η w b 185#0=e at l k;show 18#(λd i=>?_)
  have a:ai e (η e d (.lst [.int 1])):=ai.new i;have m:η e d (.lst [.int 1]) d=1#([.int 1]):=aa;generalize η e d (.lst [.int 1])=t at a m;show 18#(λi n=>?_)
  have e:ai t (η t i (.tup [.ref b,.ref d])):=ai.new n;have r:η t i (.tup [.ref b,.ref d]) i=17#([.ref b,.ref d]):=aa;generalize η t i (.tup [.ref b,.ref d])=u at e r;have n:=(l.trans a).trans e;have p:=N.trans n;have l:=n _ _ f;show dU (.list (z.map l9)) [.list (([]:List Nat).map l9),.list ([1].map l9)] (.lst 53#(n _ _ s) (i9 z)) (.tup (aZ.of r) (.cons (.lst 53#((a.trans e) _ _ k) (i9 [])) 233#(.lst 53#(e _ _ m) (i9 [1])))) (iV z) (10#0) ?_
  rw[show([PyData.list (([]:List Nat).map l9),.list ([1].map l9)].any λe=>PyData.eqv e (.list (z.map l9)))=11#(z=[]\/z=[1]) by
   rw[P?,P?,List.any_nil,CN,CN,Bool.or_false,<-_W]
   congr 1
   rw[eq_comm (b:=z),eq_comm (b:=z)]]
  cases d:11#(z=[]\/z=[1]) with
  | true=>show 124#(eu (q.2 (by rw[d];rfl) _ p))
  | false =>
    show 14#(cZ ?_);rw[d,Bool.not_false,W!]at q;show aA (λa f R W M=>?_) (id (j.same p).ex)
    have b:=M.length;have k:48#(g.map V.str)=g.length:=Δ ..;show 14#(aq c (g.map V.str) rx (127#l) ?_);show 14#(188#(bh a f rx (284#W) rx 232#0))
    by_cases a:g.length=J.length
    case neg=>show Dh (by rw[k,b];intro y;have:=V.int.inj y;lia) (q.2 (by rw[fV a];rfl) _ p)
    rw[eK a,W!]at q;show x7 (by rw[k,b,a]) ?_
    show 14#(av c rx 29#l (λw t=>bQ (xs:=g.map V.str) (λi I e=>ai u e/\159#(e w)/\I=((g.take i).map Tx.Br).map V.bl) (bj (ai.new t) aa rx) ?_ (by rw[k];show mS v) ?_ ?_))
    .intro i I e _;show dW λd j Y=>?_;subst Y
     show bj 53#(d _ _ l) j (by rw[Δ,Δ,O!];show h_ _ _)
    .intro i y I e X;show dW λd j m=>?_;subst m
     rw[j!]at X;show aj (λu b r=>?_) (vN.mp X);subst r
     show 4#(av u rx (A u (iu b)) (λf a=>iI (a _ _ j) ((d.trans a).put t) aa (by rw[E!,b,H_,o!,o!];rfl)))
    .intro I e;show dW λd j O=>?_;subst O
     rw[k,I!]at j;have t:=p.trans d;show aq w (g.map Tx.Br) rx (aK.of j) ?_;rw[show(g.map Tx.Br).all id=g.all Tx.Br by rw[ad0];rfl]
     cases h:g.all Tx.Br with
     | false=>show 124#(eu (q.2 (by rw[h];rfl) _ t))
     | true =>
       show 14#(cZ ?_);show 14#(fN 53#(t _ _ C) gJ (?_));show(0#(av c rx 29#(d _ _ l) (λY j=>bQ (xs:=g.map V.str) (λi I f=>ai e f/\159#(f Y)/\I=aP ((g.take i).map Tx.valZ)) (bj (ai.new j) aa rx) ?_ (by rw[k];show mS v) ?_ ?_)))
       .intro i I f _;show dW λa c U=>?_;subst U
        show bj 53#(a _ _ (d _ _ l)) c ?_;unfold aP;rw[Δ,Δ,O!];show h_ _ _
       .intro i y I f X;show dW λa c r=>?_;subst r
        rw[j!]at X;show aj (λu b U=>?_) (vN.mp X);subst U
        show dW (λe _ m=>?_) (Tx.Q9 (l?.mp h u (iu b)))
        show 4#(aq u _ rx e (dF m c (a.put j) aa ?_));unfold aP;rw[E!,b,H_,o!,o!];rfl
       .intro I f;show dW λa c b=>?_;subst b
        rw[k,I!]at c;show bH D Y (aC z) (aP (g.map Tx.valZ)) rx rx 53#((n.trans (d.trans a)) _ _ s) (aK.of c) ⟨?_,λe u=>?_⟩
        .unfold aP;rw[aD,Δ,Δ];show dl (x!.mpr (by change z.length+g.length<=1000;lia))
        .have m:=ai.new (o:=.lst (aC z++aP (g.map Tx.valZ))) u;show aV e _ rx (.inl ⟨aK.of aa,λb U=>18#(λr d=>?_)⟩)
         have c:=ai.new (o:=.tup [.str x,.ref b]) d;show q.1 _ (by rw[h];rfl) r _ ((((t.trans a).trans m).trans (ai.new U)).trans c) (af b aa ?_)
         rw[show aP (fR z++g.map Tx.valZ)=aC z++aP (g.map Tx.valZ) by rw[<-E8];show o!]
         show c _ _ aa
def uF:Ok T T.uy 4 (E9 askF):=by
 have p9:=p9 T;have kF:=kF T;show T.uy.ok GQ 2#0
 .revert h;show gZ λB l p=>cK λJ x k w=>dI λj X C u g q=>?_;subst w
  show af _ (ae (bD (PW.pt (qt (az (Ju K P.sq) (D9 K (pv 1)) 241#T.ES (88#0)) (mq 170#(44#(pv 1))))) (ak (ay (cU (bW (D9 K (pv 1)) (cU bS))))) aO)
   (ae (bD (az (Ju K P.sq) (D9 K (pv 1)) 241#T.EU (88#0)) (ak (ay (aF p9 P T.pP.c aL 27#(pv 1)))) aO)
   (ae (bD (az cT (D9 K (pv 1)) aW (aH _)) (ak (ay (aF kF P T.kE.c aL 27#(pv 1)))) aO)
   (ak (ay dG))))) ?_
  show GR ?_;intro v f I D W e;unfold askF at q;have i:vW (nG x k) 0=some (.str x):=gJ;have t:ow K H (.ref a.pG) (.tuple [.str "lengths",.str "base",.str "forests"]):=.tup (T.ET H) (.cons (.str _) (.cons (.str _) 233#(.str _)));have n:ow K H (.ref a.pH) (.tuple [.str "even",.str "cut",.str "odd"]):=.tup (T.EV H) (.cons (.str _) (.cons (.str _) 233#(.str _)));have R:133#(.str x):=KC g;have c : ¬((x="lengths"\/x="base"\/x="forests")/\k=[])->W { nx:=λ_ Y=>Q .eM Y,rt:=Q} [304#0,some (.ref l)] H:=by
   intro m;rw[ξ m]at q;show 14#(fN (aK.of C) (i) (dU (.str x) _ (.str x) n R HS ?_));rw[Yl]
   by_cases d:x="even"\/x="cut"\/x="odd"
   .rw[ο d]at q;show 14#(mW d (0#(iJ B l p (cC J x k rx j (dF X C u g q)))))
   rw[ξ d]at q;show 14#(j6 d ?_);show 14#(fN (aK.of C) (i) 4#(?_))
   by_cases N:x="heights"
   .rw[ο N]at q;show mW (k! V.str N) (0#(iJ B l p (cC J x k rx j (dF X C u g q))))
   .rw[ξ N]at q;show j6 (λy=>N (V.str.inj y)) (q.2 rx H 186#0)
  show 14#(fN (aK.of C) (i) (dU (.str x) _ (.str x) t R HR ?_));rw[Yl]
  by_cases U:x="lengths"\/x="base"\/x="forests"
  case neg =>
   rw[fV U];show 14#(cZ (c λz=>U z.1))
  rw[eK U];show 14#(eu ?_);show 14#(qm rx (127#C) 4#(?_))
  by_cases S:k=[]
  .rw[ο ⟨U,S⟩]at q;show mW (by rw[S];rfl) ?_
   show 14#(fN (aK.of C) (i) 18#(λb d=>⟨dl rfl,λr O=>?_⟩))
   have N:=ai.new (o:=.tup [.str x,.ref b]) O;show q.1 [] rx r _ ((ai.new d).trans N) (af b aa (N _ _ aa))
  .show j6 (λy=>S ?_) (c λz=>S z.2)
   have y:=V.int.inj y;unfold nG at y;rw[Δ,y!]at y;show R_.mp (by lia)
theorem uG:∀{xs} {ts},Paired (ql H) xs (ts.map tw)->Paired (TupAt H) xs ts
 | _,[],.nil=>.nil
 | _,_::_,.cons h r=>.cons h (uG r)
def Om(h:fR ns=tw t):t=((fR ns).getD 0 0,(fR ns).getD 1 0,(fR ns).getD 2 0):=by
 rw[h];rfl
abbrev TX:=Option (Nat×List ko)
noncomputable def growF (o:TX) (x:Str) (k:List Str):TX :=
 open Classical in match o with
 | none=>if k.all Tx.kq=true/\x="points"/\48#(numsOf k)=1/\GoodW 7#((numsOf k).headD 0) [] then some ((numsOf k).headD 0,[]) else none
 | some (p,J)=>if k.all Tx.kq=true/\GoodW (p:Int) (J.map tw++[fR (numsOf k)]) then some (p,J++[((fR (numsOf k)).getD 0 0,(fR (numsOf k)).getD 1 0,(fR (numsOf k)).getD 2 0)]) else none
def Oo{p:Nat}{ts:List ko}(h:GoodW (p:Int) (ts.map tw++[fR ns])):fR ns=tw ((fR ns).getD 0 0,(fR ns).getD 1 0,(fR ns).getD 2 0)/\aJ p (ts++[((fR ns).getD 0 0,(fR ns).getD 1 0,(fR ns).getD 2 0)]):=by
 revert h;show mj λR W M T=>?_
 show aj (λt e a=>?_) (T (fR ns) (j4 _ h!))
 rw[<-Om e];show⟨e,by lia,by lia,?_,λu G=>?_⟩
 .rw[U',Δ]at M;rw[U'];show M
 .rcases d!.mp G with G|G
  .show aj (λZ f q=>?_) (T (tw u) (R4 _ (i!.mpr (af u G rx))))
   obtain⟨v,i,C⟩:=u;injection f with R f
   injection f with W f
   injection f with M f
   rw[show(v,i,C)=Z by rw[show v=Z.1 from R,show i=Z.2.1 from W,show C=Z.2.2 from M]]
   show q
  .rw[a!.mp G];show a
def Oq(H:Hp)(v:V):TX->Prop
 | none=>v = .eM
 | some (p,J)=>∃B,v = .ref B/\bO H B p J/\aJ p J
def Fc:Sp:=λG H Q _=>∃v l x k o,G=[v,.ref l]/\H l=1#(nG x k)/\Wds k/\Oq H v o/\
 (∀y,growF o x k=some y->∀w Y,ai H Y->Oq Y (.ref w) (some y)->Q (.ref w) Y)/\(growF o x k=none->99#.eM)
def rQ:Ok T T.rG 3 Fc:=by
 have dD:=dD T;have p8:=p8 T;show T.rG.ok vt 2#0
 .show af _ (ae (bF 2 vt.nd (aF dD P T.gR.c aL (bB (dH (WH K) (pv 1) (eB ao) fu))))
   (ae (bD (az tL (pv 2) dG (aH _)) (ak (ay dG)) aO)
   (ae (Td K rx rx rx (by rfl) T.HA (λE b c t=>(ae (bD (az uN (pv 0) dG (aH _)) (ak (ay (aF p8 P T.pI.c t (bW 70#0 (aB (IX K) (bx (Pb K) (by rfl) T.xJ C_ (bB 70#0)) (bu (bB (pv 2)))))))) aO)
   (ak (bD (PW.pt (qt (az cT (D9 K (pv 1)) aW (aH _)) (mq 170#(44#(pv 2))))) (ak (ay (aF p8 P T.pI.c t (bW (D9 K (pv 2)) (bu bS))))) aO)))) (λU b=>(ak (ay dG))))
   (ak (ay dG))))) ?_
  show El ?_;intro c d I b
  revert h;show ki λv l x f o=>dI λc C S u q b=>?_;subst c
  have C:H l=1#(.str x::f.map V.str):=C;unfold growF at q b;show(0#(aq l _ rx (aK.of C) (λc L=>?_)))
  rw[HQ];have F:ai H (η H c 66#(f.map V.str)):=ai.new L;show aV c f rx (dF aa S.1 S.2 (λA D Z N e=>?_) λA Z N=>(ah rx 4#(eu (b ?_ _ (F.trans N)))))
  case refine_2=>obtain _ | ⟨_,_⟩:=o<;>show ξ λz=>by rw[A]at z;cases z.1
  have m:=F.trans N;show 146#4#(cZ ?_);show⟨λd g Y=>d = .ref a.gi/\∀c,ai Y c->Q .eM c,?_,?_⟩
  case refine_2 =>
   rintro d g Y ⟨rfl,k⟩;show⟨T.N3,λU d=>k _ (ai.new d)⟩
  generalize numsOf f=E at q b e;obtain _|⟨p,J⟩:=o
  .obtain rfl:v = .eM:=u;show 146#4#(cZ ?_);show 14#(fN 53#(m _ _ C) gJ 4#(?_))
   by_cases O:x="points"
   case neg=>show j6 (λy=>O (V.str.inj y)) (b (ξ λz=>O z.2.1) _ m)
   show mW (k! V.str O) ?_;show 14#(qm rx (127#e) 4#(?_))
   by_cases R:E.length=1
   case neg =>
    show j6 (λy=>?_) (b (ξ λz=>R z.2.2.1) _ m)
    rw[aD]at y;have:=V.int.inj y
    lia
   obtain⟨n,rfl⟩:=List.length_eq_one_iff.mp R;show mW (by rw[aD];rfl) ?_
   show 14#(fN (aK.of e) gJ 18#(λl i=>?_))
   have o:=m.trans (315#i);show bH (n:Int) l [] [] rx (.inl aa) .nil (λc X v F t f j U C=>q _ (ο (iI A O R c)) X t (o.trans f) (av X rx ⟨v,F,j,U,uG (ts:=[]) C⟩ ?_)) λx t f=>46#(λr s=>b (ξ λz=>x z.2.2.2) _ ((o.trans f).trans s))
   have d:=c.1;have g:=c.2.1;show⟨by change 1<=n;lia,by change n<=10;lia,r! _,(137#0)⟩
  .revert u;show aG λB k j g=>?_;subst k
   show aA (λd f R W M=>?_) (id (j.same m).ex)
   have h:=M.length;have h:=g.len;show 146#4#(eu ?_);show 14#(dz (aZ.of R) gJ 28#(188#(?_)));show aq d f rx (284#W) λn g=>?_
   have u:ai Z (η Z n (.lst f)):=ai.new g;have d:η Z n (.lst f) n=some (.lst f):=aa;generalize η Z n (.lst f)=w at u d;show 146#18#(λl i=>?_)
   have o:ai w (η w l (.lst [.ref D])):=ai.new i;show bH n l f [.ref D] rx rx 53#(o _ _ d) (aK.of aa) ⟨dl (x!.mpr (by change f.length+1<=1000;lia)),λO y=>?_⟩
   have U:=u.trans (o.trans (ai.new (o:=.lst (f++[.ref D])) y));have C:Paired (Gg (η (η w l (.lst [.ref D])) O 66#(f++[.ref D]))) (f++[.ref D]) (J.map tw++[fR E]):=by
    show Paired.snoc (Paired.imp' (λ_ _ z=>Gg.same U (ql.tie z)) (Gh M)) (af D rx (.inl ?_))
    rw[E8];show U _ _ e
   show bH (p:Int) O (f++[.ref D]) (J.map tw++[fR E]) rx (.inl aa) C (λc X v F t s h g e=>?_) λx t s=>46#(λr d=>b (ξ λz=>x z.2) _ (((m.trans U).trans s).trans d))
   obtain⟨b,d⟩:=Oo c;show q _ (ο ⟨A,c⟩) X t ((m.trans U).trans s) (av X rx ⟨v,F,h,g,uG ?_⟩ d);rw[o!];rw[b]at e;show e
def Dp:Str.ofString "\n"=⟨#[10]⟩:=10#0
def yo:Str.ofString " "=⟨#[32]⟩:=10#0
theorem sO:∀{l},x∈Tx.eU c l->x=c\/∃p∈l,x∈p
 | [],h=>nomatch h
 | [p],h=>.inr (af p h! h)
 | p::q::r,h=>by
   rcases d!.mp (show x∈p++c::Tx.eU c (q::r) from h) with h|h
   .show .inr (af p h! h)
   .rcases Z'.mp h with h|h
    .show .inl h
    .rcases sO h with h|⟨y,X,h⟩
     .show .inl h
     .show .inr (af y (sY _ X) h)
abbrev RowW:=Str×Str×List Str
structure jN(n c:Nat)(t:Str):Prop where
 len:t.cps.toList.length<=n
 cnt:t.cps.toList.count 10<=c
 ok:∀x∈t.cps.toList,x<1114112
structure Fd(t:Str)(YV:List RowW):Prop where
 rows:Txt.split t "\n"=YV.map (·.1)
 words:∀r∈YV,Txt.split r.1 " "=r.2.1::r.2.2
 small:t.length<=900000
 few:YV.length<=150
 wd:∀r∈YV,r.1.length<=900000/\Wds r.2.2/\305#r.2.1
def Ym{x:Str}(h:∀y∈x.cps.toList,y<1114112):305#x:=by
 unfold PyData.strOk;rw[Array.all_eq_true'];show λy X=>eK (h y (Array.mem_toList_iff.mpr X))
theorem Dq:∀{l} {p},p∈l->(∀y∈p,y∈Tx.eU c l)/\p.length<=48#(Tx.eU c l)
 | [q],p,h=>by rw[a!.mp h];show⟨λ_ h=>h,Ξ _⟩
 | q::r::l,p,h=>by
   change(∀y∈p,y∈q++c::Tx.eU c (r::l))/\p.length<=48#(q++c::Tx.eU c (r::l));rw[U',y!];rcases Z'.mp h with rfl|h
   .show⟨λy X=>R4 _ X,by lia⟩
   .obtain⟨R,W⟩:=Dq (c:=c) h;show⟨λy X=>j4 _ (sY _ (R y X)),by lia⟩
theorem qa:∀{l},l.length<=48#(Tx.eU c l)+1/\l.length<=(Tx.eU c l).count c+1
 | []=>⟨r! _,r! _⟩
 | [_]=>⟨g? (r! _),g? (r! _)⟩
 | p::q::l=>by
   have E:=qa (c:=c) (l:=q::l);change(q::l).length+1<=48#(p++c::Tx.eU c (q::l))+1/\(q::l).length+1<=(p++c::Tx.eU c (q::l)).count c+1;rw[U',y! (as:=Tx.eU c (q::l)),p_,List.count_cons_self]
   lia
def parts{x:Str}:x.cps.toList=Tx.eU c ((Txt.split x ⟨#[c]⟩).map (·.cps.toList)):=by
 rw[<-Tx.iP,show Str.join ⟨#[c]⟩ (Txt.split x ⟨#[c]⟩)=x from ac3 x ⟨#[c]⟩]
def part_of(h:s∈Txt.split x ⟨#[c]⟩):(∀y∈s.cps.toList,y∈x.cps.toList)/\s.length<=x.length:=by
 have e:=Dq (c:=c) (l:=(Txt.split x ⟨#[c]⟩).map (·.cps.toList)) (p:=s.cps.toList) (i!.mpr (af s h rx));rw[<-parts]at e;rw[len_list,len_list];show e
def TY(h:jN 900000 140 t):∃g,Fd t g:=by
 have C:t.length<=900000:=by rw[len_list];show h.len
 have J:∀s:Str,(Txt.split s " ").headD s::(Txt.split s " ").tail=Txt.split s " ":=λs=>by
  cases e:Txt.split s " " with
  | nil=>show absurd e (Tx.oU _ _)
  | cons=>rfl
 show⟨(Txt.split t "\n").map λs=>(s,(Txt.split s " ").headD s,(Txt.split s " ").tail),⟨by rw[z?];show(List.map_id _).symm,λr P=>?_,C,?_,λr P=>?_⟩⟩
 .show aj (λs _ L=>?_) (i!.mp P);subst L
  show(J s).symm
 .rw[Δ,Dp];have e:=(qa (c:=10) (l:=(Txt.split t ⟨#[10]⟩).map (·.cps.toList))).2;rw[<-parts,Δ]at e;have:=h.cnt
  lia
 .show aj (λs a Y=>?_) (i!.mp P);subst Y
  rw[Dp]at a;obtain⟨R,W⟩:=part_of a;have M:∀y∈Txt.split s " ",(∀z∈y.cps.toList,z∈s.cps.toList)/\y.length<=s.length:=λy X=>part_of (by rw[yo]at X;show X)
  have e:=(qa (c:=32) (l:=(Txt.split s ⟨#[32]⟩).map (·.cps.toList))).1;rw[<-parts,Δ,<-len_list,<-yo]at e;have T:=M _ (by rw[<-J s];show h!)
  show bj (Ω W C) ⟨by change(Txt.split s " ").tail.length<=_;rw[List.length_tail];lia,λy X=>Ω (M y (List.mem_of_mem_tail X)).2 (by lia)⟩ (Ym λy X=>h.ok _ (R _ (T.1 _ X)))
abbrev Sb:=TX×Nat
noncomputable def stepF (st:Sb) (x:Str) (k:List Str):Option Sb :=
 open Classical in if st.1 = none \/ (st.2 = 0 /\ x = "tie") then (growF st.1 x k).map λy => (some y, 0) else (askF (st.1.elim 0 (·.2.length)) x k).map λ_ => (st.1, st.2 + 1)
noncomputable def runF:Sb->List RowW->Nat->Sb ⊕ Nat
 | st,[],_=>.inl st
 | st,r::rs,i=>(stepF st r.2.1 r.2.2).elim (.inr i) λq=>runF q rs (i+1)
abbrev Ask:=Str×List Int
def KD(n:Nat)(as:List Ask):Prop:=∀q∈as,yn n q.1 q.2
def AZ(H:Hp)(v:V)(q:Ask):Prop:=∃r,v = .ref r/\UJ H r q.1 q.2
def rR(q:Ask):PyData:=.tuple [.str q.1,.tuple (q.2.map PyData.int)]
def AZ.tups(s:fT H Y)(h:AZ H v q):AZ Y v q:=by
 revert h;show dX λr=>bK λe b R W=>?_
 show⟨r,(b8 e b (s _ _ R) (s _ _ W))⟩
def TZ{K:bY}(h:AZ H v q):ow K H v (rR q):=by
 revert h;show dX λr=>bK λk b R W=>?_;subst k
 show .tup (aZ.of R) (.cons (.str _) 233#(.tup (aZ.of W) (Ge q.2)))
theorem A0{K:bY}:∀{xs} {as},Paired (AZ H) xs as->DatVs K H xs (as.map rR)
 | _,_,.nil=>.nil
 | _,_,.cons h r=>.cons (TZ h) (A0 r)
def RW(h:yn n x zs):133#(.str x):=by
 cases h with
 | bare h=>rcases h with rfl | rfl | rfl<;>decide +kernel
 | tR h=>rcases h with rfl | rfl | rfl<;>decide +kernel
 | vG=>decide +kernel
def L7{q:Ask}(h:yn n q.1 q.2):305#q.1:=by
 have e:=RW h;have D:=SeqAt.canLay_of_shaped e
 simpa[PyData.canLay0]using D
def T3{q:Ask}(h:yn n q.1 q.2):(rR q).canLay0=true:=by
 simp only[rR,PyData.canLay0,PyData.canLayAll0,L7 h,lay_ints,t_]
def RX(q:Ask):(rR q).depth<=2:=by
 have e:(rR q).depth=max 0 (max (149#(q.2.map PyData.int)+1) 0)+1:=by simp[rR,PyData.depth,PyData.depthAll]
 rw[e,CU]
 decide
theorem HU:∀{as},KD n as->225#(as.map rR)=true
 | [],_=>rfl
 | q::r,h=>by
   have E:=HU (as:=r) λy X=>h y (sY _ X)
   simp only[w!,PyData.canLayAll0,E,t_,T3 (h q h!)]
theorem Dr:∀as:List Ask,149#(as.map rR)<=2
 | []=>r! _
 | q::r=>by
   change max (PyData.depth (rR q)) (149#(r.map rR))<=2;show Nat.max_le.mpr ⟨RX q,Dr r⟩
def yp(h:KD n as):133#(.list (as.map rR)):=by
 unfold SeqAt.shaped;have e:(PyData.list (as.map rR)).canLay0=225#(as.map rR):=by simp[PyData.canLay0]
 rw[e,HU h,W!];show eK ?_;have D:PyData.depth (PyData.list (as.map rR))=149#(as.map rR)+1:=by simp[PyData.depth]
 have:=Dr as
 lia
def HV{as:List Ask}:(PyData.eqv (.list (as.map rR)) (.list (([]:List Nat).map l9)))=11#(as.length=0):=by
 cases as with
 | nil=>simp[PyData.eqv,PyData.eqvAll]
 | cons=>simp[PyData.eqv,PyData.eqvAll]
def Rep(H:Hp)(p:V)(I:List V)(st:Sb):Prop:=∃k,Oq H p st.1/\Paired (AZ H) I k/\KD (st.1.elim 0 (·.2.length)) k/\k.length=st.2/\(st.1=none->st.2=0)
def Oq.tups(s:fT H Y):∀{o},Oq H v o->Oq Y v o
 | none,h=>h
 | some (_,_),⟨B,e,j,g⟩=>av B e (j.tups s) g
def Rep.same{st:Sb}(s:ai H Y)(h:Rep H p I st):Rep Y p I st:=by
 revert h;show aG λk a y C=>?_
 show av k (a.tups s.tups) (244#(z.tups s.tups)) C
def HW(H:Hp)(v:V)(st:Sb):Prop:=∃r p F I,v = .ref r/\H r=17#([p,.ref F])/\159#(H F)/\Rep H p I st/\I.length<=150
def Fe(C:Addr):Sp:=λG H Q E=>∃t g,G=[.str t]/\Fd t g/\
 (∀st,runF (none,0) g 0 = .inl st->∀v Y,ai H Y->HW Y v st->Q v Y)/\(∀m,runF (none,0) g 0 = .inr m->∀d Y,ai H Y->Y d=some (.xd [("row",.int ((m:Int)+1))])->E (.ref C) (some d) Y)
abbrev YW(H:Hp)(t:Str)(g:List RowW)(F D:Addr)(i:Nat)(M:St)(b:Hp):Prop:=∃st p I m a y X,M=[some (.str t),some p,some (.ref F),m,a,y,X]/\ai H b/\b D=some (.lst ((g.map (·.1)).map V.str))/\159#(b F)/\I.length<=i/\Rep b p I st/\runF (none,0) g 0=runF st (g.drop i) i
def nH(T:317#a):i5 P w K mg base uQ 1 a.jV a.ni ["self","words","row"] (HM a.aY "row"):=by
 show T.BY.ok As (λG H Q E h=>?_) (λ_ A _ s H G Q E b h=>?_)
 .revert h;show cK λx u v L _=>?_;subst L
  rfl
 .revert h;show bz λx u v Y O q=>?_;subst Y
  show af _ (ae (cg (Gm T.xi_NoText T.mR (by rfl) T.rJ 27#(pv 1)))
   (ak (LO T.xi_NoText (pv 0) (pv 2)))) ?_
  show gp ?_;intro c;show(0#(bC x none [u] rx (dl rx) O (λZ D=>?_)))
  rw[Qq O]at D;subst D;show(0#(av x rx O (λd J y=>q d J y)))
def i3:Fx T T.mO 5 (Fe a.aY):=by
 have rQ:=rQ T;have uF:=uF T;have nH:=nH T;show T.mO.Cz eG 2#0
 .revert h;show aS λt A b C q e=>?_;subst b
  show af _ (ae (bF 1 eG.nd dG)
   (ae (bF 2 eG.nd (bu bS))
   (ae (dQ PassesOwn.leaving rx (Qz K (by rfl) T.gV (bB (qn K (dN C? _u _v u9 (pv 0) (bB aW))))) (yM K (n:=2) rx (aM (bq 3 eG.nd) (aM (bq 4 eG.nd) cX)))
   (ae (bF 5 eG.nd (qn K (dN C? _u _v u9 (pv 4) (bB aW))))
   (ae (bD (PW.pt (j5 (az tL (pv 1) dG (aH _)) (iK (PW.pt (qt (az (DH K P.units) (pv 2) (bu bS) (aH _)) (mq (az cT (D9 K (pv 5)) aW (aH _)))))))) (ae (bF 1 eG.nd (aF rQ P T.rG.c aL 269#(pv 5)))
   (ak (bF 6 eG.nd (cY uN (pv 1) dG (aH _))))) (ae (263#(dN C! L! M! cy (pv 2) (bB (aF uF P T.uy.c aL 269#(pv 5)))))
   (ak (bF 6 eG.nd (cY uN 122#(sZ mV ao) dG (aH _))))))
   (ak (bD (iL (eO (pv 6))) (ak (CV dJ rx (by rfl) T.HB T.xi_NoText T.mR nH (P.mono 3#0) T.BZ (bW aW (pv 3)))) aO)))))
   (ak (ay (cU 269#(pv 2))))))) ?_
  show Em ?_;intro b f Wi d zz4 zz5 zz6 zz7 g i c;show 18#(λF hF=>?_)
  have g:ai H (η H F 185#0):=ai.new hF;have b:η H F 185#0 F=1#([]):=aa;generalize η H F 185#0=S at g b;have d:(A.map (·.1)).length=A.length:=Δ ..;have c:=C.few;show 124#(aR rfl t ("\n") rfl (dF rfl (10#0) (mS (Ω C.small 3#0)) ?_ λD c=>?_))
  .rw[C.rows,d];show 74#0
  rw[C.rows];have N:ai S (η S D (.lst ((A.map (·.1)).map V.str))):=ai.new c;have d:η S D (.lst ((A.map (·.1)).map V.str)) D=some (.lst ((A.map (·.1)).map V.str)):=aa;have f:=N _ _ b;have j:=g.trans N;have nDF:D≠F:=λe=>by rw[e]at c;rw[c]at b;cases b
  generalize η S D (.lst ((A.map (·.1)).map V.str))=Z at N d f j;show av D rx 29#d (MY (K:=K) (a:=D) (xs:=(A.map (·.1)).map V.str) (YW H t A F D)
   (vM (none,0) .eM [] none (cC none none none rx j (dF d f (Ξ _) (j3 [] rx .nil (137#0) rx (λ_=>rfl)) rx))) (by intro i M w _;show ki λ_ _ _ _ _=>aS λ_ _ _ _ s _=>?_;show aK.of s) ?_ ?_)
  .intro i x B M w O;show sX λst N I v3=>cK λS Z v6 c=>dI λu P E hac rep run b=>?_;subst c
   have c:ai w (η w B (.tup [.int ((i:Int)+1),x])):=ai.new b;show aq B _ rx (aZ.of aa) 49#0;generalize η w B (.tup [.int ((i:Int)+1),x])=G at c;obtain⟨r,B,rfl⟩:∃r,A[i]?=some r/\x = .str r.1:=by
    rw[j!,j!]at O;show aj (λy X b=>?_) (vN.mp O);subst b
    show aj (λr B U=>?_) (vN.mp X);subst U
    show af r B rfl
   have Q:=C.wd r (iu B);have rs:=C.words r (iu B);obtain⟨Y,b⟩:=k6.mp B;rw[List.drop_eq_getElem_cons Y,b]at run;have fin:∀(f:Ends) (v:V) (p:List V) (b:Bool) (S Z:Option V) (d:Hp) (o:Option Sb),stepF st r.2.1 r.2.2=o->ai H d->d D=some (.lst ((A.map (·.1)).map V.str))->d F=some (.lst p)->p.length<=i+1->b=o.isSome->(∀s,o=some s->Rep d v p s)->
    (∀M w,YW H t A F D (i+1) M w->f.nx M w)->
    Wi f [some (.str t),some v,some (.ref F),8#((i:Int)+1),S,Z,some (.bl b)] d:=by
    rintro f v p b S Z d o j m g l k rfl L C;have run:_=(stepF st r.2.1 r.2.2).elim (.inr i) λs=>runF s (A.drop (i+1)) (i+1):=run
    rw[j]at run;cases o with
    | some s=>show 124#(ah rfl (cZ (C _ _ (vM s v p _ (cC _ _ _ rfl m (dF g l k (L _ rfl) run))))))
    | none =>
      show(0#(eu (ah rx 18#(λx O=>cC x _ _ rx aa λd J y=>b8 rx (some d) ?_ ?_))))
      .rw[au (e! y),aa]
      .show e i run d _ (λb o U=>?_) ?_
       .have X:=m b o U;have R:b≠x:=cf X O;have W:b≠d:=λz=>by rw[z]at X;rw[au y]at J;rw[J]at X;cases X
        rw[lC R,au W,au R,au R];show X
       .rw[lC y,aa]
   show 124#(aR rfl r.1 " " rfl (dF rfl (10#0) (mS (Ω Q.1 3#0)) ?_ λW b=>?_))
   .rw[rs];show Ω (g? Q.2.1.1) 3#0
   rw[rs];have m:=c.trans (ai.new (o:=.lst (nG r.2.1 r.2.2)) b);have hW5:η G W 66#(nG r.2.1 r.2.2) W=1#(nG r.2.1 r.2.2):=aa;have wd:=Q.2.1;change zz7 _ _ (η G W 66#(nG r.2.1 r.2.2));generalize η G W 66#(nG r.2.1 r.2.2)=H5 at m hW5;obtain⟨o,k⟩:=st
   revert rep;show dX λY=>kG λO pr oka G hn=>?_
   have grows:∀(f:Ends) (c:Hp),ai w c->c W=1#(nG r.2.1 r.2.2)->k=0->(o=none\/(k=0/\r.2.1="tie"))->(∀M w,YW H t A F D (i+1) M w->f.nx M w)->zz5 (f.on Wi) [some (.str t),some N,some (.ref F),8#((i:Int)+1),some (.str r.1),some (.ref W),v6] c:=by
    intro f c R x v L C;have l:stepF (o,k) r.2.1 r.2.2=(growF o r.2.1 r.2.2).map λy=>(some y,0):=ο L
    obtain rfl:Y=[]:=R_.mp (G.trans v);have U:I=[]:=R_.mp pr.length;show(0#(cD N W r.2.1 r.2.2 o rx x wd (O.tups R.tups) (λy X j b d g=>?_) (λX b d=>?_)))
    .rw[X]at l;show 146#46#(fin _ (.ref j) I _ _ _ b _ l (u.trans (R.trans d)) ((R.trans d) _ _ P) ((R.trans d) _ _ E) (by lia) rx (λs e=>?_) C)
     cases e;show j3 [] g (by rw[U];show .nil) (137#0) rx λz=>nomatch z
    .rw[X]at l;show 146#46#(fin _ .eM I _ _ _ b _ l (u.trans (R.trans d)) ((R.trans d) _ _ P) ((R.trans d) _ _ E) (by lia) rx (λ_ e=>nomatch e) C)
   obtain _|⟨p,J⟩:=o
   .obtain rfl:N = .eM:=O;show 146#4#(eu (grows _ H5 m hW5 (hn rx) (.inl rx) λ_ _ h=>h))
   revert O;show aG λo Wh j g=>?_;subst Wh
   show 146#4#(cZ ?_);have pr5:=Paired.imp' (λ_ _ y=>AZ.tups m.tups y) pr
   show 146#18#(λl6 O=>aq _ _ (.lst 53#(ai.new O _ _ (m _ _ E)) (A0 (Paired.imp' (λ_ _ y=>AZ.tups (ai.new O).tups y) pr5))) (.lst (aK.of aa) (i9 [])) (bA (yp oka) (iV []) _ rx ?_))
   rw[HV];have R:=m.trans (315#O);have x:=ai.new (o:=.lst []) O _ _ hW5;generalize η H5 l6 185#0=c at R x;have O:∀f:Ends,¬(k=0/\r.2.1="tie")->(∀M w,YW H t A F D (i+1) M w->f.nx M w)->zz6 (f.on Wi) [some (.str t),some (.ref o),some (.ref F),8#((i:Int)+1),some (.str r.1),some (.ref W),v6] c:=by
    intro f m C;have l:stepF (some (p,J),k) r.2.1 r.2.2=(askF J.length r.2.1 r.2.2).map λ_=>(some (p,J),k+1):=ξ λz=>z.elim (λy=>nomatch y) m
    have A:∀(v:V) (b:Hp),ai c b->(∀s,stepF (some (p,J),k) r.2.1 r.2.2=some s->Rep (η b F 66#(I++[v])) (.ref o) (I++[v]) s)->(stepF (some (p,J),k) r.2.1 r.2.2).isSome = ! 11#(v = .eM)->zz4 (f.on Wi) [some (.str t),some (.ref o),some (.ref F),8#((i:Int)+1),some (.str r.1),some (.ref W),v6] (η b F 66#(I++[v])):=by
     intro v b d L U;show(0#(fN (v:=v) (aK.of aa) (O1 _ _) ⟨rfl,?_⟩));rw[<-U];show fin _ (.ref o) (I++[v]) _ _ _ _ _ rx ((u.trans (R.trans d)).put hF) ?_ aa (by rw[U',S!];lia) rx L C
     rw[au nDF];show(R.trans d) _ _ P
    show 146#⟨100#53#(R _ _ E),0#(iJ o W p (bC J r.2.1 r.2.2 rx (j.same R) g.len (dF x wd Q.2.2 (λU m i b d k=>?_) λm b d=>?_)))⟩
    .have f:=(R.trans d) _ _ E;have L:fT w (η b F 66#(I++[.ref i])):=(R.trans d).tups.trans (fT.put f);rw[m]at l;show cF F I _ rx rx f (ff (by lia)) (A _ _ d (λs e=>?_) (by rw[l];rfl))
     rw[l]at e;cases e;show j3 (Y++[(r.2.1,U)]) (av o rx (j.tups L) g) (Paired.snoc (Paired.imp' (λ_ _ y=>AZ.tups L y) pr) (AZ.tups (fT.put f) (af i rx k))) (λy X=>?_) ?_ λz=>nomatch z
     .rcases d!.mp X with X|X
      .show oka y X
      .rw[a!.mp X];show Ws g.len m
     .rw[U',G];rfl
    .rw[m]at l;show cF F I _ rx rx ((R.trans d) _ _ E) (ff (by lia)) (A _ _ d (λs e=>by rw[l]at e;cases e) (by rw[l];rfl))
   by_cases v:Y.length=0
   case neg =>
    rw[fV v];show cZ (cZ (O _ (λz=>v (G.trans z.1)) λ_ _ h=>h))
   rw[eK v];show eu 14#(fN (aK.of x) gJ 4#(?_))
   by_cases d:r.2.1="tie"
   case neg =>
    rw[fV (λy=>d (V.str.inj y))]
    show cZ (O _ (λz=>d z.2) λ_ _ h=>h)
   rw[eK (k! V.str d)];show eu (grows _ c R x (G.symm.trans v) (.inr ⟨G.symm.trans v,d⟩) λ_ _ h=>h)
  .intro M w;show sX λst N I v3=>cK λS Z v6 O=>dI λu P E hac rep run=>?_;subst O
   rw[Δ,Δ]at hac run;rw[List.drop_length]at run;show(0#18#(λr B=>q st run _ _ (u.trans (ai.new B)) (bH r N F I rx aa (ai.new B _ _ E) (rep.same (ai.new B)) (by lia))))
def xV(n:Nat)(x:Str):Prop:=10∉x.cps.toList/\x.length<=n
def T4(x:V):Prop:=(∃z:Int,x = .int z/\z.natAbs.log2<1920)\/∃t,x = .str t/\xV 600 t
def L8{n:Nat}(h:n.log2<1920):xV 599 (Tx.kJ n):=by
 show⟨λz=>161#(Tx.vc z),Tx.oR 3#0 ?_⟩
 by_cases e:n=0
 .rw[e];show Nat.pow_pos 3#0
 .show u_ ((w_ e).mp h) (10#0)
def Ma{z:Int}(h:z.natAbs.log2<1920):xV 600 (Tx.iQ z):=by
 show 173#(λy=>161#(Tx.int_sign y))
 by_cases e:0<=z
 .rw[Tx.D0 e];show Ω (L8 (by rw[151#(z.toNat=z.natAbs)];show h)).2 3#0
 .have S:=L8 (n:=(-z).toNat) (by rw[show(-z).toNat=z.natAbs by lia];show h)
  have C:=Tx.QA z (by lia)
  have g:∀x:Str,x.cps.toList.length=x.length:=λx=>205#0
  rw[g,g]at C;have:=S.2
  lia
theorem xW:∀{l},(∀p∈l,p.length<=B)->48#(Tx.eU c l)<=l.length*(B+1)
 | [],_=>r! _
 | [p],h=>by
   have:=h p h!;change p.length<=1*(B+1)
   lia
 | p::q::r,h=>by
   have R:=h p h!;have W:=xW (c:=c) (l:=q::r) λx O=>h x (sY _ O)
   change 48#(p++c::Tx.eU c (q::r))<=((q::r).length+1)*(B+1);rw[U',y!,Nat.succ_mul]
   lia
def A1(L:c≠10)(h:∀s∈ss,xV B s)(k:B<=30000)(C:ss.length<=31):PySem.JoinOk ⟨#[c]⟩ ss=true/\xV (31*(B+1)) (272#(#[c])):=by
 have g:∀x:Str,x.cps.toList.length=x.length:=λx=>205#0
 show 173#(yX (B:=B) (λy X=>(h y X).2) ?_)
 .change ss.length*B+ss.length*1<=_;have:=Nat.mul_le_mul C k
  lia
 .rw[show 272#(#[c])=Str.join ⟨#[c]⟩ ss from _l _ _]
  show 173#(λz=>?_)
  .rw[Tx.iP]at z;rcases sO z with z|⟨q,Y,z⟩
   .show L z.symm
   .show aj (λs l a=>?_) (i!.mp Y);subst a
    show(h s l).1 z
  .rw[<-g,Tx.iP];show Ω (xW (B:=B) λp t=>?_) (by rw[Δ];show F_ _ C)
   show aj (λs l Y=>?_) (i!.mp t);subst Y
   rw[g];show(h s l).2
def HX:Sp:=114#(∃b x f,G=[.str b,.ref x]/\H x=some (.lst f)/\xV 600 b/\f.length<=24/\(∀y∈f,T4 y)/\∀t Y,ai H Y->xV 20000 t->Q (.str t) Y)
def bM:Ok T T.dh 1 HX:=by
 show T.dh.ok mG 2#0
 .revert h;show gZ λb x f=>dI λk O j w U q=>?_;subst k
  show 84#(ay (311#(bB (aB (IX K) (bu 131#0) (ck (own:=["number"]) (fq:=[]) (js:=[]) (fb mG) rfl (r8 K (pv 1)) 6#(154#(["number"])) 75#0 6#(bx vd (by rfl) T.rH E? 131#0))))))
  show 4#18#(λp L=>?_)
  have F:ai H (η H p (.lst [.str b])):=ai.new L;have u:η H p (.lst [.str b]) p=1#([.str b]):=aa;have l:=F _ _ O;generalize η H p (.lst [.str b])=S at F u l;show 14#(av x rx 29#l (λD r=>bQ (xs:=f) (λi I Z=>ai S Z/\19#Z/\∃ss:List Str,I=ss.map V.str/\ss.length<=i/\∀y∈ss,xV 600 y) (150#(av [] rx (Ξ _) λ_ h=>by cases h)) (λi I Z _ z=>bj 53#(z.1 _ _ l) z.2.1 (by show aG (λss o C _=>?_) z.2.2;subst o;rw[Δ];show C)) (dZ (by lia)) ?_ ?_))
  .intro i y I Z X;show cE λN e ss a C M=>?_;subst a
   have g:∀t,xV 600 t->∃v:List Str,ss.map V.str++[.str t]=v.map V.str/\v.length<=i+1/\∀y∈v,xV 600 y:=λt d=>av (ss++[t]) (by rw[o!];rfl) (298#C) λz m=>by
    rcases d!.mp m with m|m
    .show M z m
    .rw[a!.mp m];show d
   rcases U y (iu X) with⟨z,rfl,m⟩|⟨t,rfl,d⟩
   .show 4#(.inl (af z rx (dF m e (N.put r) aa (g _ (Ma m)))))
   .show 4#(.inr (j3 t rx e (N.put r) aa (g _ d)))
  .intro I Z;show cE λN e ss a C M=>?_;subst a
   have J:=A1 (c:=32) (ss:=b::ss) 3#0 (λz m=>by
    rcases Z'.mp m with rfl|m
    .show j
    .show M z m) 3#0 (by rw[y!];lia)
   show bH p D _ _ rx rx 53#(N _ _ u) (aK.of e) ⟨?_,λn d=>?_⟩
   .rw[Δ];show dl (x!.mpr (by change 1+ss.length<=1000;lia))
   .show cF _ n (b::ss) rx rx (aK.of aa) (by rw[yo];show J.1) (q _ _ (160#(ai.new d)) (by rw[yo];show⟨J.2.1,Ω J.2.2 3#0⟩))
def Ff:Sp:=114#(∃m:Nat,G=171#m/\m<2^24/\∀t Y,ai H Y->xV 100 t->Q (.str t) Y)
def UK:Str.ofString "-"=⟨#[45]⟩:=10#0
def Ot(h:n<100):xV 2 (Tx.kJ n):=⟨λz=>161#(Tx.vc z),Tx.oR 3#0 h⟩
def xX(h:n<2^1920):n.log2<1920:=by
 by_cases e:n=0
 .rw[e];decide
 .show(w_ e).mpr h
def cH:Ok T T.gT 3 Ff:=by
 have bX:=bX T;show T.gT.ok vv 2#0
 .revert h;show aG λm L d q=>?_;subst L
  show 84#(ay (311#(bB (ck (own:=["tie"]) (fq:=[]) (js:=[]) (fb vv) rfl (r8 K (aF bX P T.gv.c aL 131#0)) 6#(154#(["tie"])) 75#0 6#(bx eA (by rfl) T.rH E? 131#0)))))
  have C:48#(251#0)<=24:=by
   rw[iz d];show Ω (N! ..) (by rw[K!];show Ξ _)
  show 46#(ah rx (av m rx (Ω (bits_le d) 3#0) (λb S j F R=>av b rx 29#R λD r=>bQ (xs:=aC (251#0)) (λi I Z=>ai S Z/\19#Z/\∃ss:List Str,I=ss.map V.str/\ss.length<=i/\∀y∈ss,xV 2 y) (150#(av [] rx (Ξ _) λ_ h=>by cases h)) (λi I Z _ z=>bj 53#(z.1 _ _ R) z.2.1 (by show aG (λss Y C _=>?_) z.2.2;subst Y;rw[Δ];show C)) (dZ (by rw[aD];show C)) ?_ ?_)))
  .intro i y I Z X;show cE λN e ss k C M=>?_;subst k
   show aj (λn g o=>?_) (cS X);subst o
   have a:=oA d (iu g);show 46#0#(dF (xX (by rw[W?];show u_ a (10#0))) e (N.put r) aa (av (ss++[Tx.kJ n]) (by rw[o!];rfl) (298#C) λz f=>?_))
   rcases d!.mp f with f|f
   .show M z f
   .rw[a!.mp f];show Ot (by lia)
  .intro I Z;show cE λN e ss O a M=>?_;subst O
   rw[aD]at a;have J:=A1 (c:=45) (ss:=ss) 3#0 M 3#0 (by lia)
   show cF _ D ss rx rx (aK.of e) (by rw[UK];show J.1) (q _ _ (F.trans N) (by rw[UK];show⟨J.2.1,Ω J.2.2 3#0⟩))
def YX(Q:VK)(H:Hp):Prop:=∀t Y,ai H Y->xV 20000 t->Q (.str t) Y
def gX(t1:Addr)(c:Pos):Sp:=λG H Q _=>∃w m p J,∃_:aJ p J,∃L:List Nat,G=[.ref w,.ref m]/\130#0/\H t1=112#(fC (kK "least_ways") c)/\H m=17#(aC L)/\(∀k∈L,k<J.length)/\YX Q H
def HY(g:aJ p ts)(h:m<2^ts.length):m<2^24:=g! h (o? 3#0 g.len)
def vH(h:xV 100 t):∀y∈[V.str t],T4 y:=λy X=>by
 rw[a!.mp X];show .inr (av t rx h.1 (Ω h.2 3#0))
def T5(h:∀n∈ns,n<2^1920):∀y∈aC ns,T4 y:=λy X=>by
 show aj (λn S L=>?_) (i!.mp X);subst L
 show .inl (af n rx (by rw[W?];show xX (h n S)))
def RY(g:aJ p ts)(m:Nat):48#(yl p ts g m)<=24/\∀n∈yl p ts g m,n<2^1920:=by
 have t:=g.p2;show⟨Ω (N! ..) (by rw[K!];lia),λn S=>?_⟩
 have:=z!.mp (J!.mp S).1;show u_ (151#(n<2^4)) (10#0)
def Ou:Ok T T.sI 7 (gX a.bg aX):=by
 have eW:i5 P w K mg base uQ 1 a.vy a.vz ["web","ties"] pU:=sN T;have kX:=kX T;have bM:=bM T;have cH:=cH T;show T.sI.ok Ao λ_ A _ s H G Q E e h=>?_
 .revert h;show sX λn m p J=>fX λg k=>dI λY j i r B q=>?_;subst Y
  show af _ (ae (bF 2 Ao.nd (aF kX e T.sG.c qC 27#(aF eW e T.ji.c aL (bW (pv 0) (pv 1)))))
   (ae (bD (az cT (ee K (pv 2)) aW (aH _)) (ak (ay (aF bM e T.dh.c aL (bW aW (ee K (pv 2)))))) aO)
   (ak (ay (aF bM e T.dh.c aL (bW aW (bu (bB (aF cH e T.gT.c aL (bB (ee K (pv 2)))))))))))) ?_
  show jR ?_;intro v f I;have d:=DU B;show(0#14#(cD n p J m k rx j g.Fv (.inr r) B (iJ n p J (aq g _ rx j (.inl (av (orM k) rx d (λt S z F b=>?_)))))))
  rcases b with⟨_,l,_,D,C⟩|⟨c,L,_,D⟩
  .show 124#(dz (aZ.of D) gJ 46#(ah rfl (?_)));rw[show(11#(V.str "side"=V.str "side"))=true by decide]
   obtain⟨R,u⟩:=RY g (orM k);show eu 14#(dz (aZ.of D) ir (bN _ l _ rx (dF C ⟨10#0,10#0⟩ (by rw[aD];show R) (T5 u) λx Z N O=>q x Z (F.trans N) O)))
  .show 124#(dz (aZ.of D) gJ 46#(ah rfl (?_)));rw[show(11#(V.str "ring"=V.str "side"))=false by decide]
   show cZ 14#(dz (aZ.of D) ir (ah rx ⟨HY g (RM.sf (RM.fJ.mp L).1),λx Z N O=>?_⟩))
   show 18#(λl C=>bN _ l _ rx (dF aa ⟨10#0,10#0⟩ (show 1<=24 by decide) (vH O) λy o u X=>q y o (160#((ai.new C).trans u)) X))
def Ov:Ok T T.sJ 8 (gX a.bg aX):=by
 have eW:i5 P w K mg base uQ 1 a.vy a.vz ["web","ties"] pU:=sN T;have i0:=i0 T;have bM:=bM T;have cH:=cH T;show T.sJ.ok Aq λ_ A _ s H G Q E c h=>?_
 .revert h;show sX λo m p J=>fX λg L=>dI λk j i z B q=>?_;subst k
  show af _ (ae (bF 2 Aq.nd (aF i0 c T.mL.c qC 27#(aF eW c T.ji.c aL (bW (pv 0) (pv 1)))))
   (ae (bD (az cT (ee K (pv 2)) aW (aH _)) (ak (ay aW)) aO)
   (ak (ay (aF bM c T.dh.c aL (bW aW (bu (bB (aF cH c T.gT.c aL (bB (ee K (pv 2)))))))))))) ?_
  show jR ?_;intro M f I;have d:=DU B;show(0#14#(cD o p J m L rx j g.Fv (.inr z) B (iJ o p J (bh g _ rx j i (.inl (av (orM L) rx d (λt S F b=>?_)))))))
  rcases b with⟨_,v,D⟩|⟨e,G,D,_,n,_⟩
  .show 124#(dz (aZ.of D) gJ 46#(ah rfl (?_)));rw[show(11#(V.str "side"=V.str "side"))=true by decide]
   show eu (q _ _ F ⟨10#0,10#0⟩)
  .show 124#(dz (aZ.of D) gJ 46#(ah rfl (?_)));rw[show(11#(V.str "ring"=V.str "side"))=false by decide]
   show cZ 14#(dz (aZ.of D) ir (ah rx ⟨HY g n,λx Z N O=>?_⟩))
   show 18#(λl C=>bN _ l _ rx (dF aa ⟨10#0,10#0⟩ (show 1<=24 by decide) (vH O) λy r u X=>q y r (160#((ai.new C).trans u)) X))
def qb(t1 C:Addr)(c e:Pos):Sp:=λG H Q _=>∃w n p J,∃_:aJ p J,G=[.ref w,n]/\130#0/\H t1=112#(fC (kK "least_ways") c)/\H C=112#(fC (kK "by_length") e)/\YX Q H
theorem RZ:∀{l:List Int},(∀x∈l,0<=x/\x<=M)->0<=l.sum/\l.sum<=l.length*M
 | [],_=>⟨A? _,by simp⟩
 | x::l,h=>by
   obtain⟨R,W⟩:=RZ λy X=>h y (sY _ X)
   obtain⟨a,T⟩:=h x h!;rw[_Z,y!,Int.natCast_add,Int.add_mul]
   lia
def Ow(g:aJ p ts)(d:m<2^ts.length):(G! ts m).natAbs<2^1920:=by
 obtain⟨R,W⟩:=RZ (M:=10^30) (l:=(251#0).map λk=>(dY ts k).2.2) λx O=>by
  show aj (λk B L=>?_) (i!.mp O);subst L
  have:=g.tR _ (iW (oA d B));show⟨_j 3#0 this.l0,this.l1⟩
 have C:48#(251#0)<=24:=by
  rw[iz d];show Ω (N! ..) (by rw[K!];show g.len)
 rw[Δ]at W;have a:G! ts m<=24*10^30:=_j W (acC (by lia) 3#0)
 have T:0<=G! ts m:=R;have e:(24*10^30:Nat)<2^1920:=10#0
 lia
def Mb(h:∀y∈I,T4 y)(U:T4 v):∀y∈I++[v],T4 y:=λy X=>by
 rcases d!.mp X with X|X
 .show h y X
 .rw[a!.mp X];show U
def KG:Ok T T.pQ 12 318#qb:=by
 have pX:=pX T;have bM:=bM T;have cH:=cH T;show T.pQ.ok yk 2#0
 .revert h;show sX λB n p J=>dX λg=>kG λY j W m q=>?_;subst Y
  show 84#(ay (aF bM P T.dh.c aL (bW aW (ck (own:=["ring","marks","worths"]) (fq:=[]) (js:=[]) (fb yk) rfl (YJ K (aF pX P T.pM.c aL 131#0)) 6#(yM K (n:=3) rfl (aM (154#(["ring","marks","worths"])) (aM (bq 1 (jn ["ring","marks","worths"])) (aM (bq 2 (jn ["ring","marks","worths"])) cX)))) 75#0 6#(aF cH P T.gT.c aL 131#0)))))
  show 14#(191#(j3 g rx j W m λb o S F l X d=>av b rx ⟨_,aZ.of l⟩ λD f=>?_))
  show zf (K:=K) (a:=b) (xs:=o) (λi I Z=>ai S Z/\19#Z/\I.length<=i/\∀y∈I,T4 y) (iI (ai.new f) aa (Ξ _) (λ_ h=>by cases h)) (λi I Z _ z=>bj 97#(z.1 _ _ l) z.2.1 z.2.2.1) (dZ X) ?_ ?_
  .intro i x I Z O;show mj λN e C U=>?_
   show dX (λc=>bz λr x y k L P=>?_) (d x (iu O));subst k
   show bh c _ rx 97#(N _ _ L) rx (kZ _ _ (aR rx _ _ rx (bh _ _ rx rx rx 14#(av r rx (HY g P) (λx w u O=>dF (u _ _ e) ((N.trans u).put f) aa (298#C) (Mb U (vH O _ (.head _))))))))
  .intro I Z;show mj λN e C U=>?_
   show bN _ D _ rx (dF e ⟨10#0,10#0⟩ (Ω C X) U λy w u M=>q y w (160#u) M)
def Cb:Ok T T.jY 12 318#qb:=by
 have xR:=xR T;have bM:=bM T;show T.jY.ok An 2#0
 .revert h;show sX λB n p J=>dX λg=>kG λo j W b q=>?_;subst o
  show 84#(ay (aF bM P T.dh.c aL (bW aW (aF xR P T.xG.c aL 131#0))));show 14#(191#(j3 g rx j W b λD R S F k l=>bN _ D _ rx (dF k ⟨10#0,10#0⟩ (by rw[Δ,Δ];show AU g l) (λy X=>?_) λy w u M=>q y w (F.trans u) M)))
  show aj (λz m O=>?_) (i!.mp X);subst O
  show aj (λr P U=>?_) (i!.mp m);subst U
  show .inl 14#(xX (Ow g (l.ring r P).2))
def A2:Sp:=114#(∃w p J,∃_:aJ p J,G=[.ref w]/\130#0/\∀(z:Int) H',ai H H'->z.natAbs<2^1535->Q (.int z) H')
def rS:Sp:=114#(∃w n p J,∃_:aJ p J,G=[.ref w,n]/\130#0/\YX Q H)
def nI:Ok T T.ny 7 A2:=by
 have lV:=lV T;have nF:=nF T;show T.ny.ok Am 2#0
 .revert h;show 285#(aG λg L j q=>?_);subst L
  show 84#(ay (aF nF P T.nv.c aL (bB (aF lV P T.lP.c aL 131#0))));show 14#(191#(av g rx j λD o S F k a C=>bN D o _ rx (dF k rx a C λz Z N m=>q z Z (F.trans N) m)))
def Cc:Ok T T.j0 8 rS:=by
 have nI:=nI T;have bM:=bM T;show T.j0.ok Ar 2#0
 .revert h;show sX λB n p J=>aG λg Y j q=>?_;subst Y
  show 84#(ay (aF bM P T.dh.c aL (bW aW (bu (bB (aF nI P T.ny.c aL 131#0))))));show 14#(191#(av g rx j λz S F m=>18#(λl C=>bN _ l _ rx (dF aa ⟨10#0,10#0⟩ (show 1<=24 by decide) (λy X=>?_) λy w u X=>q y w (F.trans ((ai.new C).trans u)) X))))
  rw[a!.mp X];show .inl (af z rx (xX (u_ m (10#0))))
theorem Fg(h0:0<=M)(b:∀k,-M<=row k/\row k<=M):∀(j:Nat) x,-(4^j*M)<=RM.fz N row j x/\RM.fz N row j x<=4^j*M
 | 0,x=>⟨by change -(1*M)<=0;lia,by change 0<=1*M;lia⟩
 | j+1,x=>by
   have O:=Fg (N:=N) h0 b j x;have W:=Fg (N:=N) h0 b j (N.a j);have U:=Fg (N:=N) h0 b j (N.b j);have J:=b j;have a:M<=4^j*M:=by
    have:=acC (show(1:Int)<=4^j from Int.pow_pos 3#0) h0
    lia
   have e:(4:Int)^(j+1)*M=4*(4^j*M):=by rw[Int.pow_succ,Int.mul_comm (4^j),Int.mul_assoc]
   rw[e];change -(4*(4^j*M))<=(308#(N.kH j=true))/\(308#(N.kH j=true))<=_
   generalize (4:Int)^j*M=B at *
   split
   .split
    .split<;>lia
    .lia
   .lia
def Wv(xs:List V)(k:Nat):l7 xs (some (k:Int)) none=xs.drop k:=by
 unfold l7;rw[HT.r7,HT.uO]
 by_cases h:k<=xs.length
 .rw[N? h,l_ (by rw[J_];show Ξ _)]
 .rw[_a (by lia),ad1,List.take_zero,adh (by lia)]
def rT:Sp:=114#(∃w m p J,∃_:aJ p J,∃L R,G=[.ref w,.ref m]/\130#0/\H m=17#(aP (L::R))/\R.length=J.length/\0<=L/\L≠1/\L<10^60/\(∀z∈R,z.natAbs<10^60)/\YX Q H)
def Cd:Ok T T.jZ 7 rT:=by
 have p7:=p7 T;have bM:=bM T;have cH:=cH T;show T.jZ.ok rh 2#0
 .revert h;show sX λo a p J=>bV λg s R b j S C=>kG λe k i m q=>?_;subst b
  show af _ (ae (bF 2 rh.nd (Ld p7 (P.mono 3#0) (by rfl) T.EN T.EW T.EO .nil aL (aN (pv 0) (bW (bx (Pb K) (by rfl) T.xJ C_ (bB (dH (Sv K) (pv 1) (eB ao) fu))) (ee K (pv 1))))))
   (ae (bD (az cT (ee K (pv 2)) aW (aH _)) (ak (ay (aF bM P T.dh.c aL (bW aW (ee K (pv 2)))))) aO)
   (ak (ay (aF bM P T.dh.c aL (bW aW (bu (bB (aF cH P T.gT.c aL (bB (ee K (pv 2)))))))))))) ?_
  show jR ?_;intro b f I;show(0#14#(bh a _ rx (aZ.of S) ?_ (λb U=>?_)))
  .rintro⟨z,_⟩;rw[show 48#(aP (s::R))=R.length+1 by unfold aP;rw[Δ,y!]]at z
   simp[HT.ig]at z
  rw[show l7 (aP (s::R)) (some 1) none=aP R from Wv _ 1]
  have F:ai H (η H b (.tup (aP R))):=ai.new U;show(qm rx (284#aa) (λl a=>14#(dz 97#(ai.new a _ _ (F _ _ S)) gJ (?_))))
  have f:ai H (η (η H b (.tup (aP R))) l (.lst (aP R))):=F.trans (ai.new a);have a:η (η H b (.tup (aP R))) l (.lst (aP R)) l=1#(aP R):=aa;generalize η (η H b (.tup (aP R))) l (.lst (aP R))=Z at f a;show vM o l p J (bC g R s rx (j.same f) a (dF C e k (λ_ t D w d r h b Y=>?_) λc t w L d h b=>?_))
  .show 124#(dz (aZ.of b) gJ 46#(ah rfl (?_)));rw[show(11#(V.str "heights"=V.str "heights"))=true by decide]
   show eu 14#(dz (aZ.of b) ir (bN _ D _ rx (dF Y ⟨10#0,10#0⟩ ?_ (λy X=>?_) λy d c X=>q y d ((f.trans h).trans c) X)))
   .have:=g.p2;unfold aP;rw[Δ,fh]
    lia
   .show aj (λz O a=>?_) (i!.mp X);subst a
    show aj (λx _ o=>?_) (i!.mp O);subst o
    show .inl 14#(xX ?_);have a:∀k,-(10^60:Int)<=fK R k/\fK R k<=10^60:=λk=>by
     unfold fK;rw[B!];cases e:R[k]? with
     | none=>show 54#0
     | some y =>
       have:=m y (iu e);change -(10^60:Int)<=y/\y<=10^60
       lia
    have U:=Fg (N:=g.N) (M:=10^60) 3#0 a J.length x
    have a:(4:Int)^J.length*10^60<=4^24*10^60:=acC (by have:=o? (n:=4) 3#0 g.len;exact_mod_cast this) 3#0
    have e:(4^24*10^60:Nat)<2^1920:=10#0
    generalize RM.fz g.N (fK R) J.length x=v at *;generalize (4:Int)^J.length*10^60=B at *
    split
    .lia
    .have W:=Int.emod_nonneg v ‹¬ s=0›;have a:=adU v (151#(0<s))
     generalize v%s=u at *
     lia
  .show 124#(dz (aZ.of b) gJ 46#(ah rfl (?_)));rw[show(11#(V.str "ring"=V.str "heights"))=false by decide]
   show cZ 14#(dz (aZ.of b) ir (ah rx ⟨HY g (RM.sf ?_),λx d c O=>?_⟩))
   .show z!.mp (J!.mp (iu L)).1
   .show 18#(λl C=>bN _ l _ rx (dF aa ⟨10#0,10#0⟩ (show 1<=24 by decide) (vH O) λy e a X=>q y e ((f.trans h).trans (c.trans ((ai.new C).trans a))) X))
def vI(ea C:Addr):Sp:=114#(∃b x f W,G=[.str b,.ref x]/\H ea=some (qB ea (.ref C) W)/\H x=some (.lst f)/\xV 600 b/\f.length<=24/\(∀y∈f,T4 y)/\∀t Y,ai H Y->xV 20000 t->Q (.str t) Y)
def rV(T:317#a)(ea:Addr):Xp ea P w K mg base 1 a.uq a.ur ["word","numbers"] (vI ea a.bE):=by
 show T.dh.F.okH mG (λG H Q E h=>?_) (λ_ A _ s H G Q E B h=>?_)
 .revert h;show dX λb=>cK λx f W L _=>?_;subst L
  rfl
 .revert h;show dX λb=>cK λx f W Y=>dI λn O j R U q=>?_;subst Y
  show 84#(ay (311#(bB (aB (IX K) (bu 131#0) (O7 (own:=["number"]) (fq:=[]) (js:=[]) (fb mG) (Q6 B.hd rfl (pv 1)) 6#(154#(["number"])) 75#0 6#(bx vd (by rfl) T.rH E? 131#0))))))
  show 4#18#(λp L=>?_)
  have F:ai H (η H p (.lst [.str b])):=ai.new L;have u:η H p (.lst [.str b]) p=1#([.str b]):=aa;have l:=F _ _ O;generalize η H p (.lst [.str b])=S at F u l;show 14#(av x rx 29#l (λD r=>JF (xs:=f) (λi I Z=>ai S Z/\19#Z/\∃ss:List Str,I=ss.map V.str/\ss.length<=i/\∀y∈ss,xV 600 y) (150#(av [] rx (Ξ _) λ_ h=>by cases h)) (λi I Z _ z=>bj 53#(z.1 _ _ l) z.2.1 (by show aG (λss k C _=>?_) z.2.2;subst k;rw[Δ];show C)) (dZ (by lia)) ?_ ?_))
  .intro i y I Z X;show cE λN e ss o C M=>?_;subst o
   have g:∀t,xV 600 t->∃v:List Str,ss.map V.str++[.str t]=v.map V.str/\v.length<=i+1/\∀y∈v,xV 600 y:=λt d=>av (ss++[t]) (by rw[o!];rfl) (298#C) λz m=>by
    rcases d!.mp m with m|m
    .show M z m
    .rw[a!.mp m];show d
   rcases U y (iu X) with⟨z,rfl,m⟩|⟨t,rfl,d⟩
   .show 4#(.inl (af z rx (dF m e (N.put r) aa (g _ (Ma m)))))
   .show 4#(.inr (j3 t rx e (N.put r) aa (g _ d)))
  .intro I Z;show cE λN e ss o C M=>?_;subst o
   have J:=A1 (c:=32) (ss:=b::ss) 3#0 (λz m=>by
    rcases Z'.mp m with rfl|m
    .show j
    .show M z m) 3#0 (by rw[y!];lia)
   show cJ (.ofX (N _ _ (F _ _ n))) p (bN D _ _ rx (dF rx 53#(N _ _ u) (aK.of e) ?_ λg d=>?_))
   .rw[Δ];show dl (x!.mpr (by change 1+ss.length<=1000;lia))
   .show cF _ g (b::ss) rx rx (aK.of aa) (by rw[yo];show J.1) (q _ _ (160#(ai.new d)) (by rw[yo];show⟨J.2.1,Ω J.2.2 3#0⟩))
def KH:Ok T T.pR 8 (gX a.bg aX):=by
 have eW:i5 P w K mg base uQ 1 a.vy a.vz ["web","ties"] pU:=sN T;have AX:=AX T;have bM:=bM T;have rV:∀ea,Xp ea P w K mg base 1 a.uq a.ur ["word","numbers"] (vI ea a.bE):=rV T;have cH:=cH T;show T.pR.ok mH λ_ A _ s H G Q E hr h=>?_
 .revert h;show sX λe m p J=>fX λg L=>dI λb j c i B q=>?_;subst b
  show af _ (ae (Lu (i:=3) K rx rx rx mH.nd rx rx (by rfl) T.xK (λE b c t=>(ak (bF 2 mH.nd (aF AX hr T.AG.c t 27#(aF eW hr T.ji.c aL (bW (pv 0) (pv 1))))))) (λea b=>(ak (ay (Pq (rV ea) ((hr.mono 3#0).mark ea) (by rfl) T.dh.c.m T.dh.c.k T.dh.c.b .nil (bW aW (bu (bB (LP K (pv 3))))))))))
   (ak (ay (aF bM hr T.dh.c aL (bW aW (ck (own:=["ring"]) (fq:=[]) (js:=[]) (fb mH) rfl (r8 K (pv 2)) 6#(154#(["ring"])) 75#0 6#(aF cH hr T.gT.c aL 131#0))))))) ?_
  show gp ?_;intro v;have f:=DU B;show⟨λR W Y=>R = .ref a.bE/\ai H Y/\∃(d:Addr) (c:Nat),W=some d/\c<10/\Y d=some (.xd [("point",.int (c:Int))]),?_,?_⟩
  .show(0#14#(cD e p J m L rx j g.Fv (.inr i) B (iJ e p J (aq g _ rx j (.inl (fU (orM L) rx f (λn D S l F k o u=>?_) (λc d S F s b=>bj rx F (aq d c rx ?_ b))))))))
   .have n:l.length<=24/\∀r∈l,r<2^24:=by
     show⟨o,λr hr=>HY g (u r hr)⟩
    show 14#(av D rx 29#k (λX f=>bQ (K:=K) (a:=D) (xs:=aC l) (λi I Z=>ai S Z/\159#(Z X)/\I.length<=i/\∀y∈I,T4 y) (iI (ai.new f) aa (Ξ _) (λ_ h=>by cases h)) (λi I Z _ z=>bj 53#(z.1 _ _ k) z.2.1 z.2.2.1) (dZ (by rw[aD];show n.1)) ?_ ?_))
    .intro i x I Z O;show mj λN e C U=>?_
     show aj (λr hr M=>?_) (cS O);subst M
     show 4#(av r rx (n.2 r (iu hr)) (λx h u O=>dF (u _ _ e) ((N.trans u).put f) aa (298#C) (Mb U (vH O _ (.head _)))))
    .intro I Z;show mj λN e C U=>?_
     show bN _ X _ rx (dF e ⟨10#0,10#0⟩ (by rw[aD]at C;show Ω C n.1) U λy h u M=>q y h (160#u) M)
   .have:=z!.mp (J!.mp (iu s)).1;show g! this g.p2
  .intro R W S;show dW λn F=>aA λd c O t b=>?_;subst n O
   show⟨T.Kh,λea e=>?_⟩
   have Z:d≠ea:=λz=>by rw[z,e]at b;cases b
   show 14#(vM ea a.bE _ _ (bC d _ _ rx aa (by rw[au Z];show b) (dF rx T.N1 T.xi_NotEven (dl rx) λl C=>?_)))
   have N:ai S (η S ea (qB ea (.ref a.bE) (some d))):=ai.new e;show bH _ l _ (some d) rx (ai.new C _ _ aa) aa ⟨10#0,10#0⟩ (bj (show 1<=24 by decide) (λy X=>?_) λy h u X=>q y h (160#((ai.new C).trans u)) X)
   rw[a!.mp X];show .inl (ah rx (by rw[W?];show xX (u_ t (10#0))))
section
variable (a:X0)
inductive RowC:Addr->Sp->Prop
 | T6:RowC a.jS 318#qb
 | base:RowC a.pD 318#qb
 | fM:RowC a.pF (gX a.bg aX)
 | cut:RowC a.sE (gX a.bg aX)
 | odd:RowC a.sF (gX a.bg aX)
 | vG:RowC a.jT rT
 | T7:RowC a.jU rS
end
def R0(k:Nat)(t:Str):Prop:=36#t.length/\((k=0/\t=Str.empty)\/(0<k/\48#(Txt.split t "\n")=k))
def KI(d:vg P w H n L)(e:H R=1#ys)(ne:n≠R):vg P w (η H R o) n L :=
 ⟨by rw[au ne];show d.at_,λp t=>by
  show bK (λC c g D=>?_) (d.keys p t)
  show b8 C c (by rw[au (cP g e 96#0)];show g) (by rw[au (cP D e 96#0)];show D),d.nd⟩
def Ox(d:vg P w H n L)(s:ai H Y):vg P w Y n L :=
 ⟨s _ _ d.at_,λp t=>let⟨ok,c,e1,e2⟩:=d.keys p t;(b8 ok c (s _ _ e1) (s _ _ e2)),d.nd⟩
def Oz{k:Ask}(h:wF L k=none):wF (L++[(k,b,z)]) k=some z:=by
 unfold wF at *;rw[List.find?_append,Option.map_eq_none_iff.mp h];simp
def OA(L:List Nat):(HO.tup (aP (fR L)))=HO.tup (aC L):=by
 unfold aP fR aC;rw[z?];rfl
def HZ(C t1 b:Addr)(c e:Pos):Sp:=λG H Q E=>∃a g,G=[.str a]/\H t1=112#(fC (kK "least_ways") c)/\H b=112#(fC (kK "by_length") e)/\Fd a g/\
 (∀st,runF (none,0) g 0 = .inl st->∀t Y,ai H Y->R0 st.2 t->Q (.str t) Y)/\(∀m,runF (none,0) g 0 = .inr m->∀d Y,ai H Y->Y d=some (.xd [("row",.int ((m:Int)+1))])->E (.ref C) (some d) Y)
def uH:Fx T T.uz 13 (HZ a.aY a.bg a.di aX cL):=by
 have i3:=i3 T;have c:∀f sp,RowC a f sp->∃k n b,k<=13-1/\i5 P w K mg base uQ k f n b sp/\78#K/\Binds K n b []:=λf sp h=>by
  cases h
  .show bC _ _ _ 3#0 (Cb T) T.jY.c.k T.jY.c.b
  .show bC _ _ _ 3#0 (KG T) T.pQ.c.k T.pQ.c.b
  .show bC _ _ _ 3#0 (KH T) T.pR.c.k T.pR.c.b
  .show bC _ _ _ 3#0 (Ou T) T.sI.c.k T.sI.c.b
  .show bC _ _ _ 3#0 (Ov T) T.sJ.c.k T.sJ.c.b
  .show bC _ _ _ 3#0 (Cd T) T.jZ.c.k T.jZ.c.b
  .show bC _ _ _ 3#0 (Cc T) T.j0.c.k T.j0.c.b
 show T.uz.Cz j9 λ_ A _ s H G Q E b h=>?_
 .revert h;show fX λtx i=>dI λg Yb WM d q e=>?_;subst g
  show af _ (ae (bF 1 j9.nd (aF i3 b T.mO.c dJ.passes 131#0))
   (ae (bF 2 j9.nd Tp)
   (ae (bF 3 j9.nd (bu bS))
   (ae (uS rx (r8 K (ee K (pv 1))) (bq 4 j9.nd)
   (ae (bD (UT (M9 (b.in1).sq (pv 4) (pv 2))) (ak (Tr (b.in1).sq (pv 2) (pv 4) (Q2 b c aL (V2 T.Wf 241#T.We (ee K (pv 4))) (bW (ee K (pv 1)) (ee K (pv 4)))))) aO)
   (ak (263#(dN C! L! M! cy (pv 3) (bB (Tq (b.in1).sq (pv 2) (pv 4))))))))
   (ak (ay (311#(bB (pv 3))))))))) ?_
  show GS ?_;intro b UI c g W j l;show 14#(bh tx i rx d (λst run v S s1 pv=>?_) e)
  revert pv;show dX λpg=>bV λr F I g hpg b i o=>?_;subst g;obtain⟨p,l,c,m,d,j⟩:=i
  show λn hfd=>18#(λR hR=>?_)
  have hR1:S R=none:=(ai.new hfd).free hR;have nRf:n≠R:=λz=>by rw[<-z,aa]at hR;cases hR
  have hk:I.length=st.2:=c.length.trans d;have main:∀Z,ai S Z->Z R=1#(([]:List Str).map V.str)->vg P w Z n []->W { nx:=λ_ Y=>Q .eM Y,rt:=Q} [some (.str tx),20#pg,some (.ref n),303#0,none] Z:=λZ N d g=>by
   show(ah rx (dz 97#(N _ _ hpg) ir (av F rx 29#(N _ _ b) (iX (K:=K) (a:=F) (xs:=I) (λi M A=>∃D v G,M=[some (.str tx),20#pg,some (.ref n),303#0,D]/\ai S A/\A R=1#((G:List Str).map V.str)/\G.length=i/\(∀t∈G,xV 20000 t)/\vg P w A n v/\(∀p∈v,xV 20000 p.2.2)/\v.length<=i) (bC none [] [] rx N d (dF rx (137#0) g (137#0) (Ξ _))) (by intro i M A _;show bz λ_ _ _ _ z _=>?_;show aK.of (z _ _ b)) ?_ ?_))))
   .intro i x D3 M A O;show bz λD v G b u=>dI λI C W N Z YS=>?_;subst b
    obtain⟨_|⟨p,J⟩,k⟩:=st
    .have:=(k6.mp O).1;rw[hk,j rfl]at this
     lia
    revert l;show aG λH b j g=>?_;subst b
    show aj (λy d=>dX λr=>bK λo b l Y=>?_) (Paired.tN c O);subst o
    have okq:=m y (iu d);have key:∀{X},ai S X->Bp X y r:=λc=>b8 (L7 okq) b (c _ _ l) (c _ _ Y)
    have hi:i<150:=by
     have:=(k6.mp O).1
     lia
    have tail:∀X F z,ai S X->X R=1#(G.map V.str)->vg P w X n F->(∀p∈F,xV 20000 p.2.2)->F.length<=i+1->wF F y=some z->UI D3 [some (.str tx),20#pg,some (.ref n),303#0,some (.ref r)] X:=λX F z c O U Yn UL m=>by
     have o:xV 20000 z:=by
      unfold wF at m;show aj (λp L d=>?_) (vN.mp m);subst d
      show Yn p (acY L)
     show 146#⟨100#(aK.of O),0#(cD n r y F z rx rx U (key c) m (cF R _ _ rx rx O ?_ ?_))⟩
     .have:(200:Nat)<sizeLine:=by decide
      rw[Δ,C]
      lia
     .show bC (some (.ref r)) F (G++[z]) rx (c.put hR1) (by rw[aa,o!];rfl) (dF (by rw[U',C];rfl) (λt d=>?_) (KI U O nRf) Yn UL)
      rcases d!.mp d with d|d
      .show W t d
      .rw[a!.mp d];show o
    have O:∀t X,ai A X->xV 20000 t->wF v y=none->(vg P w (η X n (Ec P w n (v++[(y,r,t)]))) n (v++[(y,r,t)])->UI D3 [some (.str tx),20#pg,some (.ref n),303#0,some (.ref r)] (η X n (Ec P w n (v++[(y,r,t)])))):=λt X c d U m=>by
     show tail _ _ t (λb o e=>?_) (by rw[au (e! nRf)];show c _ _ I) m (λp L=>?_) (298#YS) (Oz U)
     .rw[au (cf e hfd)];show c _ _ (u _ _ e)
     .rcases d!.mp L with L|L
      .show Z p L
      .rw[a!.mp L];show d
    show(0#(bH n r y v rx rx N (key u) (af _ rx ?_)));have F:v.length<sizeLine:=by
     have:(200:Nat)<sizeLine:=by decide
     lia
    cases U:wF v y with
    | some z=>show cZ (tail A v z u I N Z (by lia) U)
    | none =>
      show eu ?_;obtain⟨x,e⟩:=y;obtain⟨f,sp,e,L,m⟩:∃f sp,([("lengths",a.jS),("base",a.pD),("even",a.pF),("cut",a.sE),("odd",a.sF),("heights",a.jT),("forests",a.jU)]:176#Addr).lookup x=some f/\RowC a f sp/\∀(Q:V->Hp->Prop) (E:XK),(∀t X,ai A X->xV 20000 t->Q (.str t) X)->sp [.ref H,.ref b] A Q E:=by
       cases okq with
       | bare h =>
         rcases h with rfl|rfl|rfl
         .show aq _ _ rx .T6 λQ E k=>vM H _ p J (j3 g rx (j.same u) ((s1.trans u) _ _ Yb) ((s1.trans u) _ _ WM) k)
         .show aq _ _ rx .base λQ E k=>vM H _ p J (j3 g rx (j.same u) ((s1.trans u) _ _ Yb) ((s1.trans u) _ _ WM) k)
         .show aq _ _ rx .T7 λQ E k=>vM H _ p J (av g rx (j.same u) k)
       | tR h y o =>
         have o:∀(Q:V->Hp->Prop) (E:XK),(∀t X,ai A X->xV 20000 t->Q (.str t) X)->gX a.bg aX [.ref H,.ref b] A Q E:=λQ E k=>vM H b p J (aV g _ rx (dF (j.same u) ((s1.trans u) _ _ Yb) ((u _ _ Y).trans (k! some (OA _))) (λk hk=>by obtain⟨i,hi⟩:=List.mem_iff_getElem?.mp hk;show y.1 i k hi) k))
         rcases h with rfl|rfl|rfl
         .show aq _ _ rx .fM o
         .show aq _ _ rx .cut o
         .show aq _ _ rx .odd o
       | vG y z o i=>show aq _ _ rfl .vG λQ E k=>vM H b p J (cF g _ _ rfl (j.same u) (u _ _ Y) o (dF (by lia) (by lia) (by lia) i k))
      show 14#(dz 97#(u _ _ l) gJ (aq x f rx e (kZ f sp (bA rx L _ rx (dz 97#(u _ _ hpg) gJ 28#(dz 97#(u _ _ l) ir (m _ _ λt X c d=>?_)))))))
      show(0#(cD n r _ v t rx rx rx (Ox N c) (key (u.trans c)) (bj U F (O t X c d U))))
   .intro M A;show bz λD v G d u=>dI λI C W N Z YS=>?_;subst d
    have b:G.length<=150:=by lia
    have c:PySem.JoinOk "\n" G=true:=yX (B:=20000) (λy X=>(W y X).2) (by change G.length*20000+G.length*1<=_;lia)
    show 4#(cF _ R G rx rx (aK.of I) c (q st run _ A (s1.trans u) 173#(PySem.joinOk_length c)));rw[<-hk,<-C];cases G with
    | nil=>show .inl 46#10#0
    | cons t r=>show .inr ⟨Nat.succ_pos _,by rw[Dp,Tx.Jt (List.cons_ne_nil _ _) λs l=>(W s l).1]⟩
  show main _ ((ai.new hfd).trans (ai.new hR)) aa ⟨by rw[au nRf];show aa,(137#0),N_⟩
def T8(K:bY):Sp:=114#(∃(a:Addr) (b:List Int) (k:Nat),G=[.ref a,.int (k:Int)]/\aK K H a (b.map V.int)/\∀z,Q (.int z) H)
def T9:Sp:=114#(∃c k,G=[.int c,.int k]/\∀z,0<=z->z<2147483629->Q (.int z) H)
def Ww:Sp:=λG H Q _=>∃(c:Int) (p:Nat) (t:Int),G=[.int c,.int (p:Int),.int t]/\2<=p/\p<=10/\1<=t/\t<=100000000000000000000000000000/\
 ∀o b r w Y,ai H Y->oB (p:Int) o->Y b=17#(Vs o)->Y r=17#([.ref b,.int w])->Q (.ref r) Y
def WA(K:bY):Sp:=λG H Q _=>∃(a:Addr) (k:List Int) (b:Nat),G=[.ref a,.int (b:Int)]/\aK K H a (k.map V.int)/\k.length<=63/\b<=24/\
 ∀w p J Y,ai H Y->aJ p J->p<=6->J.length<=b->bO Y w p J->Q (.ref w) Y
def Yo(y:Int):∃m,vW [V.int 1,.int 1,.int 1,.int (10^(29:Int).toNat)] (y%4)=some (.int m)/\1<=m/\m<=100000000000000000000000000000:=by
 obtain⟨F,R⟩:=ja y 4 3#0
 generalize y%4=i at F R;have Y:i=0\/i=1\/i=2\/i=3:=by lia
 rcases Y with rfl|rfl|rfl|rfl
 .show av 1 gJ 3#0 3#0
 .show av 1 ir 3#0 3#0
 .show av 1 (aE (j:=2) rx) 3#0 3#0
 .show av (10^(29:Int).toNat) (aE (j:=3) rx) 3#0 3#0
def iT:Ok T T.lR 1 (T8 K):=by
 show T.lR.ok GU 2#0
 .revert h;show bz λb a k L R q=>?_;subst L
  show af _ (ae (bD (az qg (pv 1) (44#(pv 0)) (aH _)) (ak (ay 267#(pv 1))) aO)
   (ak (ay ao))) ?_
  show gu ?_;intro v f;show(0#(aq b _ rx (.inl R) (aq _ _ rx rx 14#(gE (λd=>?_) (λ_=>q 0)))))
  have d:=lZ d;rw[Δ]at d;show(0#(bH b _ _ _ rx rx R (aE (j:=k) (uU (by lia))) (q _)))
def eX:Ok T T.iS 1 T9:=by
 show T.iS.ok rj 2#0
 .revert h;show br λc k Y q=>?_;subst Y
  show af _ (ae (bF 2 rj.nd 266#(aB eR (aB eR (pv 0) (aB qw ao (pv 1))) ao))
   (ae (bF 2 rj.nd 266#(aB qw (pv 2) (pv 2)))
   (ak (ay (aB eY 266#(aB qw (pv 2) ao) ao))))) ?_
  show jf ?_;intro v f;show(0#(bT ⟨.inl 54#0,bT (bT (bT 173#(jm rx)))⟩))
  have R:=ja (c+7919*k+101) 2147483647 3#0
  dsimp only;generalize (c+7919*k+101)%2147483647=n at R;show(0#(bT ⟨.inl 178#0,bT 173#(jm rx)⟩))
  show 192#⟨.inr 54#0,bT ⟨(jm rx),bT ⟨54#0,?_⟩⟩⟩
  have W:=ja (n*n%2147483647*48271) 2147483629 3#0
  show q _ (Int.ediv_nonneg W.1 3#0) (by lia)
def sP:Ok T T.sL 1 Ww:=by
 show T.sL.ok lJ 2#0
 .revert h;show gZ λc p t=>dI λk m S W M q=>?_;subst k
  show af _ (ae (bF 3 lJ.nd (aB cG (pv 0) (pv 1)))
   (ae (bF 0 lJ.nd (aB eY (pv 0) (pv 1)))
   (ae (bF 4 lJ.nd (aB cG (aB eR (aB eR (pv 3) ao) (aB cG (pv 0) (aB jt (pv 1) ao))) (pv 1)))
   (ae (bF 0 lJ.nd (aB eY (pv 0) (aB jt (pv 1) ao)))
   (ak (ay (cU (bW (cU (aN (pv 3) (bW (pv 4) (aB qw (aB eR ao 266#(pv 0)) (pv 2))))) (aB eY (pv 0) ao))))))))) ?_
  show JN ?_;intro v f I l;have a:(0:Int)<(p:Int):=by lia
  have e:(0:Int)<(p:Int)-1:=by lia
  have J:∀i,U1 i (p:Int):=λi=>178#0
  have n:∀i,U1 i ((p:Int)-1):=λi=>178#0
  show(0#(bT ⟨a,?_⟩));show(0#(bT ⟨J _,?_⟩));show 192#(0#(bT (bT ⟨e,(aq _ _ rx rx 28#(bT ⟨a,?_⟩))⟩)));show(0#(bT (bT ⟨n _,?_⟩)));obtain⟨B,g⟩:=ja (c/p/(p-1)) 9 3#0
  show(0#14#(bT ⟨(jm rx),bT 28#(bT (bj (.inl 178#0) (dl rx) (λb U=>?_)))⟩))
  show 192#(bj 54#0 (dl rx) (λr P=>?_))
  show dW (λx j d=>?_) (PD (p:=p) (o:=c%p) (r:=c/p%(p-1)) (ja _ _ a).1 (ja _ _ a).2 (ja _ _ e).1 (ja _ _ e).2)
  show q (c%p,(c%p+1+c/p%(p-1))%p,(1+c/p/(p-1)%9)*t) b r _ _ ((ai.new U).trans (ai.new P)) ?_ (ai.new P _ _ aa) aa;generalize c/p/(p-1)%9=r at B g;have O:r=0\/r=1\/r=2\/r=3\/r=4\/r=5\/r=6\/r=7\/r=8:=by lia
  show⟨(ja _ _ a).1,(ja _ _ a).2,x,j,d,?_,?_⟩
  .change 1<=(1+r)*t;rcases O with rfl|rfl|rfl|rfl|rfl|rfl|rfl|rfl|rfl<;>lia
  .change(1+r)*t<=_;rcases O with rfl|rfl|rfl|rfl|rfl|rfl|rfl|rfl|rfl<;>lia
def xY:Ok T T.xH 2 (WA K):=by
 have iT:=iT T;have eX:=eX T;have sP:=sP T;show T.xH.ok fL 2#0
 .revert h;show bV λb k s o R a d q=>?_;subst o
  show af _ (ae (bF 2 fL.nd (aB cG (aF iT P T.lR.c aL 27#ao) (aB om ao ao)))
   (ae (bF 3 fL.nd (aB eR ao 266#(aB eY (pv 2) ao)))
   (ae (bF 4 fL.nd (bR (g7 K) (bu (aN ao (aN ao (bW ao (aB om ao ao))))) 266#(aB eY (pv 2) ao)))
   (ae (bF 5 fL.nd (bu bS))
   (ae (bD (PW.pt (qt (az mu (pv 3) ao (aH _)) (mq 170#266#(pv 2)))) (ae (bF 6 fL.nd (aB cG (aF iT P T.lR.c aL 27#ao) (aB yN (aB om ao ao) (aB om ao ao))))
   (ak (dQ PassesOwn.never rx (111#(aB cG (aB eY (pv 2) ao) (aB eR (pv 1) ao))) (bq 7 fL.nd)
   (ae (lj (aF sP P T.sL.c aL (aN (pv 6) (bW (pv 3) (pv 4)))) (yM K (n:=2) rx (aM (bq 8 fL.nd) (aM (bq 6 fL.nd) cX))))
   (ak (263#(dN C! L! M! cy (pv 5) (bB (pv 8))))))))) aO)
   (ae (bD (PW.pt (qt (az mu (pv 3) ao (aH _)) (mq 170#266#(pv 2)))) (ak (dQ PassesOwn.never rx (r5 (by rfl) T.c6 (bW ao (bI (r6 rx) (by rfl) T.Dg T_ (bW (44#(pv 0)) (aB eR ao (pv 1)))))) (bq 7 fL.nd)
   (ak (263#(dN C! L! M! cy (pv 5) (bB (ee K (aF sP P T.sL.c aL (aN (aF eX P T.iS.c aL (bW 267#(pv 7) (pv 7))) (bW (pv 3) (pv 4))))))))))) aO)
   (ak (ay (cU (bW (pv 3) (193#(pv 5)))))))))))) ?_
  show JO ?_;intro v f c d W e x g B h N a;show 14#(cC b k 0 rx R (λz=>(bT ⟨bj 3#0 3#0 3#0,bT 173#(jm rx)⟩)))
  have a:=(ja z (10^(60:Int).toNat) 3#0).1
  dsimp only;generalize z%10^(60:Int).toNat=d at a;show 192#⟨54#0,bT ⟨(jm rx),bT (?_)⟩⟩
  obtain⟨p,t,h,o⟩:∃p:Nat,1+d/2%6=(p:Int)/\1<=p/\p<=6:=av ((1+d/2%6).toNat) (by lia) (by lia) (by lia)
  dsimp only;rw[t];show aG (λm a t v=>?_) (Yo (d/12))
  show(bT (bj (bj 3#0 3#0 3#0) (dl rx) (λl C=>14#(bT ⟨54#0,bT ⟨(jm rx),fN (aK.of aa) (a) (?_)⟩⟩))))
  have F:ai H (η H l (.lst [.int 1,.int 1,.int 1,.int (10^(29:Int).toNat)])):=ai.new C;generalize η H l (.lst [.int 1,.int 1,.int 1,.int (10^(29:Int).toNat)])=S at F;show 18#(λD l=>?_)
  have a:0<=d/48%((s:Int)+1)/\d/48%((s:Int)+1)<(s:Int)+1:=ja _ _ (by lia)
  have a:∀(n:Nat) (Z:Hp),yu (p:Int) S D n Z->n<=s->∃I,19#Z/\∀u,Z u=none->36#([V.int (p:Int),.ref u]:List V).length/\∀L,η Z u (.tup I) L=none->Q (.ref L) (η (η Z u (.tup I)) L (.tup [.int (p:Int),.ref u])):=by
   intro n Z i g;show aS (λI J d C e z=>?_) i.fin
   show af I d λu c=>18#(λL r=>?_)
   obtain⟨f,X⟩:=z u c L r;show q L p J _ (F.trans f) ⟨h,by lia,by lia,e⟩ o (by lia) X
  have h:yu (p:Int) S D 0 (61#S):=yu.start l;generalize 61#S=Z at h
  by_cases c:p=1
  .subst c;show 192#28#(j6 3#0 (cZ ?_))
   show 192#28#(j6 3#0 (cZ ?_))
   show aj (λI e z=>?_) (a 0 Z h (by lia))
   show(0#(aV D I rx (.inl ⟨aK.of e,z⟩)))
  .by_cases q:d%2=0
   .show 192#28#(mW (by lia) (ah rx (bT (bj (jm rx) rx (ah rx (mW (k! V.int q) ?_))))))
    show 14#(cC b k 1 rx ((F.trans h.1).seq R) (λf=>(bT ⟨bj 3#0 3#0 3#0,bT ⟨bj 3#0 3#0 3#0,bT ⟨mulOk_of 3#0 3#0,bT 173#(jm rx)⟩⟩⟩)))
    show 192#⟨54#0,ah rx (bT (bT ⟨(by lia),ah rx (bj (by lia) (by lia) ?_)⟩))⟩
    show g4 (lo:=0) (n:=(d/48%((s:Int)+1)).toNat) (λi M w=>∃c f J,M=[240#0,8#(s:Int),some (.int d),8#(p:Int),some (.int m),214#0,some (.int c),f,J]/\yu (p:Int) S D i w) (bN _ none none rx h) ?_ ?_
    .intro i M w Y;show cK λc f J O g=>?_;subst O
     show(0#14#(bN c p m rx (dF (by lia) (by lia) t v λA bb r u X n e U P=>?_)))
     show aG (λI y x o=>?_) (g.push l n e U)
     show aq r _ rx (aZ.of P) 49#0;show 146#⟨100#(aK.of y),ah rx (cF D I _ rx rx y (iN (by lia)) (bN _ _ _ rx o))⟩
    .intro M w;show cK λc f J U g=>?_;subst U
     show 192#28#(mW (by lia) (ah rx (bT (bj (jm rx) rx (ah rx (j6 (λz=>161#(V.int.inj z)) ?_))))))
     show aj (λI e z=>?_) (a _ w g (by lia))
     show(0#(aV D I rx (.inl ⟨aK.of e,z⟩)))
   .show 192#28#(mW (by lia) (ah rx (bT (bj (jm rx) rx (ah rx (j6 (λz=>q (V.int.inj z)) ?_))))))
    show 192#28#(mW (by lia) (ah rx (bT (bj (jm rx) rx (ah rx (mW (k! V.int (by lia)) ?_))))))
    have O:48#(k.map V.int)=k.length:=Δ ..;show 14#(aq b _ rx (.inl ((F.trans h.1).seq R)) 28#(bT (aV _ _ rx (aq _ _ rx (iI 3#0 3#0 ?_ ?_) ?_))))
    .rw[O];split<;>lia
    .rw[O];split<;>lia
    have c:∃r:Nat,((if(2+(s:Int))<(48#(k.map V.int):Int) then 2+(s:Int) else(48#(k.map V.int):Int))-2).toNat=r/\r<=s/\(r=0\/r+2<=k.length):=(ah rx ⟨by rw[O];split<;>lia,by rw[O];split<;>lia⟩)
    revert c;show aG λr q c k=>?_
    show g4 (lo:=2) (n:=_) (λi M w=>∃k f J,M=[240#0,8#(s:Int),some (.int d),8#(p:Int),some (.int m),214#0,k,f,J]/\yu (p:Int) S D i w) (bN none none none rx h) ?_ ?_
    .intro i M w Y;show cK λk f J c g=>?_;subst c
     rw[q]at Y;have c:(2:Int)+(i:Int)=7#(2+i):=by lia
     rw[c];have c:∃I,19#w:=let⟨_,I,_,z,_⟩:=g;⟨I,z⟩;obtain⟨d,c⟩:=c;show 146#⟨100#(aK.of c),0#(bH b _ _ _ rx rx ((F.trans g.1).seq R) (aE (j:=2+i) (uU (by lia))) 14#(aV _ _ rx (λz d _=>?_)))⟩
     show(0#(bN z p m rx (dF (by lia) (by lia) t v λA bb b u X n e U P=>?_)))
     show aG (λI y x o=>?_) (g.push l n e U)
     show(dz (aZ.of P) gJ (cF D I _ rx rx y (iN (by lia)) (bN _ _ _ rx o)))
    .intro M w;show cK λk f J y g=>?_;subst y
     rw[q]at g;show aj (λI e z=>?_) (a _ w g (by lia))
     show(0#(aV D I rx (.inl ⟨aK.of e,z⟩)))
def jl{z:Int}(h:z.natAbs<10^60):jN 70 0 (Tx.iQ z) :=
 ⟨by rw[<-len_list];show Ω (Tx.Tc h).2 3#0,v_ (_J.mpr λy=>161#(Tx.int_sign y)),λy X=>161#(Tx.int_sign X)⟩
def iC{x:Str}(h:x.cps.toList.length<=70/\x.cps.toList.count 10<=0/\(x.cps.toList.all λy=>11#(y<1114112))=true):jN 70 0 x :=
 ⟨h.1,h.2.1,λy X=>lZ (l?.mp h.2.2 y X)⟩
def Wsm(k:List Str):Prop:=k.length<=9/\∀x∈k,jN 70 0 x
def OB:Sp:=λG H Q _=>∃(B:Addr) (p:Nat) (J:List ko) (b:Int) (a:Nat),G=[.ref B,.int b,.int (a:Int)]/\a<=1/\bO H B p J/\aJ p J/\p<=6/\J.length<=7/\
 ∀l k Y,H l=none->ai H Y->Y l=1#(k.map V.str)->Wsm k->Q (.ref l) Y
def Fi(h:jN 70 0 x):Wsm [x]:=⟨by change 1<=9;decide,λy X=>by rw[a!.mp X];show h⟩
def Yp(h0 : ¬ k<3)(R:k<6):∃x:Str,vW [V.str "even",.str "cut",.str "odd"] (k-3)=some (.str x)/\jN 70 0 x:=by
 have B:k=3\/k=4\/k=5:=by lia
 rcases B with rfl|rfl|rfl
 .show af _ gJ (iC (10#0))
 .show af _ ir (iC (10#0))
 .show af _ (aE (j:=2) rx) (iC (10#0))
def Yq(y:Int):∃r:Nat,vW [V.int 0,.int 0,.int 2,.int 3,.int 4,.int 5,.int 6,.int 8,.int (10^(59:Int).toNat)] (y%9)=8#(r:Int)/\r<10^60:=by
 obtain⟨F,R⟩:=ja y 9 3#0
 generalize y%9=i at F R;have Y:i=0\/i=1\/i=2\/i=3\/i=4\/i=5\/i=6\/i=7\/i=8:=by lia
 rcases Y with rfl|rfl|rfl|rfl|rfl|rfl|rfl|rfl|rfl
 .show af 0 gJ 3#0
 .show af 0 ir 3#0
 .show af 2 (aE (j:=2) rx) 3#0
 .show af 3 (aE (j:=3) rx) 3#0
 .show af 4 (aE (j:=4) rx) 3#0
 .show af 5 (aE (j:=5) rx) 3#0
 .show af 6 (aE (j:=6) rx) 3#0
 .show af 8 (aE (j:=7) rx) 3#0
 .show af (10^59) (aE (j:=8) rx) 3#0
def Yr{b:Nat}(h:b<=1):∃m:Nat,vW [V.int 1,.int (10^(59:Int).toNat)] (b:Int)=8#(m:Int)/\m<=10^59:=by
 have y:b=0\/b=1:=by lia
 rcases y with rfl|rfl
 .show af 1 gJ 3#0
 .show af (10^59) ir (Ξ _)
def Ua{m:Nat}(h0 : -4<=r)(R:r<=4)(d:m<=10^59):(r*(m:Int)).natAbs<10^60:=by
 rw[_Y,W?];have P:r.natAbs<=4:=by lia
 show d_ (Nat.mul_le_mul P d) 3#0
def vJ{z:Int}(h:z.natAbs<10^60):z.natAbs.log2<1920:=by
 have e:=xT h
 rwa [W?]at e
def qc:Ok T T.pT 1 OB:=by
 show T.pT.ok bw λ_ A _ s H G Q E hr h=>?_
 .revert h;show fX λwb p=>cK λJ cell gr q1_=>dI λhgr hw g p6 h7 q=>?_;subst q1_
  show af _ (@ae _ _ _ _ _ (281#(@aB _ _ _ _ _ _ _ _ cG (pv 1) (@aB _ _ _ _ _ _ _ _ yN (@aB _ _ _ _ _ _ _ _ om ao ao) (@aB _ _ _ _ _ _ _ _ om ao ao)))) (@ae _ _ _ _ _ (@dB _ _ 4 _ _ _ _ bw.nd rfl (Or.inl rfl) 229#cG (by rfl) 13#0) (@ae _ _ _ _ _ (281#229#eY) (@ae _ _ _ _ _ (@dB _ _ 5 _ _ _ _ bw.nd rfl (Or.inl rfl) (@cA _ _ _ _ _ _ K T.dm 126#(@bR _ _ _ _ _ _ _ (Mu K) (pv 0) ao 242#0) (by rfl) (by rfl) (by rfl) (by rfl)) (by rfl) 13#0) (@ae _ _ _ _ _ (@bD _ _ _ _ _ _ _ _ (@az _ _ _ _ _ _ _ _ qg (pv 4) ao (aH _)) (@ak _ _ _ (@ay _ _ _ _ (@bR _ _ _ _ _ _ _ (g7 K) (@bu _ _ _ _ (@aN _ _ _ _ _ (@bu _ _ _ _ (@aN _ _ _ _ _ aW bS (by rfl))) (@aN _ _ _ _ _ (@bu _ _ _ _ (@aN _ _ _ _ _ aW bS (by rfl))) 126#(@bu _ _ _ _ (@aN _ _ _ _ _ aW bS (by rfl))) (by rfl)) (by rfl))) (pv 4) 242#0))) aO) (@ae _ _ _ _ _ (@bD _ _ _ _ _ _ _ _ (@az _ _ _ _ _ _ _ _ qg (pv 4) ao (aH _)) (@ak _ _ _ (@ay _ _ _ _ (@aB _ _ _ _ _ _ _ _ (IX K) (@bu _ _ _ _ 126#(@bR _ _ _ _ _ _ _ (g7 K) (@bu _ _ _ _ (@aN _ _ _ _ _ aW (@aN _ _ _ _ _ aW (@aN _ _ _ _ _ aW bS (by rfl)) (by rfl)) (by rfl))) (@aB _ _ _ _ _ _ _ _ jt (pv 4) ao) 242#0)) (@ck _ _ _ _ _ _ _ ["tie"] ["c"] [3] _ _ _ _ (qA (aU jh) ["web","cell","great","c","kind","many","rest","numbers","by_points","drawn","k","one","other","length","rise"]) rfl (@cR _ _ _ _ _ _ (by rfl) T.c6 126#(pv 5) (by rfl)) 6#(154#(["tie","c"])) 6#(iD 170#266#(aB OQ (pv 1) (pv 0))) 6#(bx eA (by rfl) T.rH E? (aN (pv 0) bS)) (by intro _;rfl))))) aO) (@ae _ _ _ _ _ (@dB _ _ 6 _ _ _ _ bw.nd rfl (Or.inl rfl) (@bR _ _ _ _ _ _ _ (g7 K) (@bu _ _ _ _ (@aN _ _ _ _ _ ao (@aN _ _ _ _ _ ao (@aN _ _ _ _ _ ao (@aN _ _ _ _ _ ao (@aN _ _ _ _ _ ao (@aN _ _ _ _ _ ao (@aN _ _ _ _ _ ao (@aN _ _ _ _ _ ao 126#(@aB _ _ _ _ _ _ _ _ om ao ao) (by rfl)) (by rfl)) (by rfl)) (by rfl)) (by rfl)) (by rfl)) (by rfl)) (by rfl))) 229#cG 242#0) (by rfl) 13#0) (@ae _ _ _ _ _ (281#229#eY) (@ae _ _ _ _ _ (@dB _ _ 7 _ _ _ _ bw.nd rfl (Or.inl rfl) (@bu _ _ _ _ bS) (by rfl) 13#0) (@ae _ _ _ _ _ (@dB _ _ 8 _ _ _ _ bw.nd rfl (Or.inl rfl) (@cY _ _ _ _ _ _ _ _ cT 229#cG ao (aH _)) (by rfl) 13#0) (@ae _ _ _ _ _ (281#229#eY) (@ae _ _ _ _ _ (@dB _ _ 9 _ _ _ _ bw.nd rfl (Or.inl rfl) (@bu _ _ _ _ bS) (by rfl) 13#0) (@ae _ _ _ _ _ (@dQ _ _ _ _ _ _ _ _ PassesOwn.never rfl (@cR _ _ _ _ _ _ (by rfl) T.c6 126#(@aB _ _ _ _ _ _ _ _ eR (pv 5) (@bR _ _ _ _ _ _ _ (Mu K) (pv 0) ao 242#0)) (by rfl)) (@bq _ _ _ 10 bw.nd (by show rfl) (by show 93) 13#0) (@ae _ _ _ _ _ (@cg _ _ _ _ (@qn _ _ _ _ _ _ K (@dN _ _ _ _ _ _ _ _ _ _ _ _ C! L! M! cy (pv 9) 126#(@aB _ _ _ _ _ _ _ _ jt 229#cG ao) (by rfl) (by rfl) (by rfl) (by rfl) (by rfl)) (by rfl)) (by rfl)) (@ak _ _ _ (281#229#eY))) (by intro _;rfl)) (@ae _ _ _ _ _ (@dQ _ _ _ _ _ _ _ _ PassesOwn.never rfl (@cR _ _ _ _ _ _ (by rfl) T.c6 126#(pv 5) (by rfl)) (@bq _ _ _ 10 bw.nd (by show rfl) (by show 93) 13#0) (@ae _ _ _ _ _ (@lj _ _ _ _ _ _ (@bR _ _ _ _ _ _ _ (Mu K) (@bR _ _ _ _ _ _ _ (Mu K) (pv 0) ao 242#0) (pv 10) 242#0) (@yM _ _ K _ _ 3 _ rfl (@aM _ _ _ _ _ (@bq _ _ _ 11 bw.nd (by show rfl) (by show 93) 13#0) (@aM _ _ _ _ _ (@bq _ _ _ 12 bw.nd (by show rfl) (by show 93) 13#0) (@aM _ _ _ _ _ (@bq _ _ _ 13 bw.nd (by show rfl) (by show 93) 13#0) cX (by rfl)) (by rfl)) (by rfl)) (by rfl) (by rfl) (by rfl)) (by rfl) (by rfl) (by rfl)) (@ae _ _ _ _ _ (@dB _ _ 14 _ _ _ _ bw.nd rfl (Or.inl rfl) (@bR _ _ _ _ _ _ _ (g7 K) (pv 9) (pv 10) 242#0) (by rfl) 13#0) (@ae _ _ _ _ _ (@bD _ _ _ _ _ _ _ _ (@eO _ _ _ (pv 8) (by intro _;rfl)) (@ak _ _ _ (@dB _ _ 14 _ _ _ _ bw.nd rfl (Or.inl rfl) (@aB _ _ _ _ _ _ _ _ jt (@bR _ _ _ _ _ _ _ (g7 K) (pv 9) (@aB _ _ _ _ _ _ _ _ eR (pv 5) (pv 12)) 242#0) (@bR _ _ _ _ _ _ _ (g7 K) (pv 9) (@aB _ _ _ _ _ _ _ _ eR (pv 5) (pv 11)) 242#0)) (by rfl) 13#0)) aO) (@ak _ _ _ (@cg _ _ _ _ (@qn _ _ _ _ _ _ K (@dN _ _ _ _ _ _ _ _ _ _ _ _ C! L! M! cy (pv 7) 126#(@aB _ _ _ _ _ _ _ _ qw (pv 14) (@bR _ _ _ _ _ _ _ (g7 K) (@bu _ _ _ _ (@aN _ _ _ _ _ ao (@aN _ _ _ _ _ (@aB _ _ _ _ _ _ _ _ om ao ao) bS (by rfl)) (by rfl))) (pv 2) 242#0)) (by rfl) (by rfl) (by rfl) (by rfl) (by rfl)) (by rfl)) (by rfl)))))) (by intro _;rfl)) (@ak _ _ _ (@ay _ _ _ _ (@aB _ _ _ _ _ _ _ _ (IX K) (@bu _ _ _ _ (@aN _ _ _ _ _ aW 126#(@bx _ _ _ _ _ _ _ _ _ eA (by rfl) T.rH E? (@aN _ _ _ _ _ (pv 6) bS (by rfl)) 3#0 3#0 (by rfl) (by rfl)) (by rfl))) (@ck _ _ _ _ _ _ _ ["number"] [] [] _ _ _ _ (qA (aU jh) ["web","cell","great","c","kind","many","rest","numbers","by_points","drawn","k","one","other","length","rise"]) rfl (@r8 _ _ _ _ K (pv 7) (by rfl)) 6#(154#(["number"])) 75#0 6#(bx eA (by rfl) T.rH E? (aN (pv 0) bS)) (by intro _;rfl))))))))))))))))))) ?_
  show BB ?_;intro zz0 UI Wi X7 zz4 zz5 zz6 zz7 zz8 zz9 ado adp adq ads adt adu adv adw adx ady adz adA adB;show aA (λbt f R W h3=>?_) (id hw.ex)
  have YU:=h3.length;show 192#⟨bj 3#0 3#0 3#0,bT ⟨bj 3#0 3#0 3#0,bT ⟨mulOk_of 3#0 3#0,bT 173#(jm rx)⟩⟩⟩
  have c0:=(ja cell (10^(60:Int).toNat*10^(60:Int).toNat) 3#0).1
  dsimp only;generalize cell%(10^(60:Int).toNat*10^(60:Int).toNat)=c at c0;obtain⟨k0,k8⟩:=ja c 8 3#0
  have c8:0<=c/8:=Int.ediv_nonneg c0 3#0
  show 192#173#(jm rx);show 192#⟨54#0,?_⟩
  dsimp only;generalize c%8=kd at k0 k8;generalize c/8=d at c8;show 14#(188#(aq bt f rx (284#W) ?_));rw[YU];show 192#28#(gE (λB=>?_) (λB=>?_))
  .have B:=lZ B;show 18#(λl1 hl1=>?_)
   have F:=ai.new (o:=.lst [.str "lengths"]) hl1;have e1:η H l1 (.lst [.str "lengths"]) l1=1#([.str "lengths"]):=aa;generalize η H l1 (.lst [.str "lengths"])=S at F e1;show 18#(λl2 hl2=>?_)
   have s2:=ai.new (o:=.lst [.str "base"]) hl2;have e2:η S l2 (.lst [.str "base"]) l2=1#([.str "base"]):=aa;have e12:=s2 _ _ e1;generalize η S l2 (.lst [.str "base"])=Z at s2 e2 e12;show 18#(λl3 hl3=>?_)
   have u:=ai.new (o:=.lst [.str "forests"]) hl3;have e3:η Z l3 (.lst [.str "forests"]) l3=1#([.str "forests"]):=aa;have e13:=u _ _ e12;have e23:=u _ _ e2;generalize η Z l3 (.lst [.str "forests"])=H3 at u e3 e13 e23;show 18#(λl4 UL=>?_)
   have s4:=ai.new (o:=.lst [.ref l1,.ref l2,.ref l3]) UL;have s04:=((F.trans s2).trans u).trans s4;have hkd:kd=0\/kd=1\/kd=2:=by lia
   rcases hkd with rfl|rfl|rfl
   .show 124#(fN (v:=.ref l1) (aK.of aa) gJ (q l1 ["lengths"] _ hl1 s04 (s4 _ _ e13) (Fi (iC (10#0)))))
   .show 124#(fN (v:=.ref l2) (aK.of aa) ir (q l2 ["base"] _ (F.free hl2) s04 (s4 _ _ e23) (Fi (iC (10#0)))))
   .show 124#(fN (v:=.ref l3) (aK.of aa) (aE (j:=2) rfl) (q l3 ["forests"] _ ((F.trans s2).free hl3) s04 (s4 _ _ e3) (Fi (iC (10#0)))))
  have B:=of_decide_eq_false (W_.mpr B);show 192#28#(gE (λWN=>?_) (λWN=>?_))
  .have WN:=lZ WN;show aj (λx hat O=>?_) (Yp B WN)
   show 18#(λl1 hl1=>?_)
   have F:=ai.new (o:=.lst [.str "even",.str "cut",.str "odd"]) hl1;have e1:η H l1 (.lst [.str "even",.str "cut",.str "odd"]) l1=1#([.str "even",.str "cut",.str "odd"]):=aa;generalize η H l1 (.lst [.str "even",.str "cut",.str "odd"])=S at F e1;show 124#(bT (fN (v:=.str x) (aK.of e1) (hat) 18#(λl2 hl2=>?_)))
   have s2:=ai.new (o:=.lst [.str x]) hl2;have e2:η S l2 (.lst [.str x]) l2=1#([.str x]):=aa;generalize η S l2 (.lst [.str x])=Z at s2 e2;show(0#(85#(λD r=>fG (lo:=0) (m:=(7#J.length).toNat) (λi I H3=>ai Z H3/\19#H3/\∃L:List Str,I=L.map V.str/\L.length<=i/\∀y∈L,jN 70 0 y) (150#(av [] rx (Ξ _) (λ_ e=>nomatch e))) ?_ (by rw[l!];show dZ (by lia)) ?_ ?_)))
   .intro i I H3 _;show cE λu e3 L q2_ kl _=>?_;subst q2_
    show⟨e3,by rw[Δ];show kl⟩
   .intro i I H3 Y;show cE λu e3 L q3_ kl up=>?_;subst q3_
    rw[k?];show 46#0#(bT ⟨(by lia),bT (bj (jm rx) rx 232#0)⟩)
    show gE (λ_=>?_) (λ_=>?_)
    .have hlt:i<10^60:=g! Y (by rw[l!];show Ω h7 3#0)
     show 14#(af (i:Int) rx (dF (xT hlt) e3 (u.put r) aa (av (L++[Tx.iQ i]) ?_ ?_ λy X=>?_)))
     .rw[o!];rfl
     .rw[U',S!]
      lia
     .rcases d!.mp X with X|X
      .show up y X
      .rw[a!.mp X];show jl (by rw[W?];show hlt)
    .show bj u e3 (av L rx (Nat.le_succ_of_le kl) up)
   .intro I H3;show cE λu e3 L Yi kl up=>?_;subst Yi
    rw[l!]at kl;show bH l2 D [.str x] _ rx rx 53#(u _ _ e2) (aK.of e3) ⟨?_,λl4 UL=>?_⟩
    .rw[Δ];show dl (x!.mpr (by change 1+L.length<=1000;lia))
    .have s03:=(F.trans s2).trans u;show q l4 (x::L) _ (s03.free UL) (s03.trans (ai.new UL)) aa ⟨by rw[y!];lia,λy X=>?_⟩
     rcases Z'.mp X with rfl|X
     .show O
     .show up y X
  have WN:=of_decide_eq_false (W_.mpr WN);show aj (λr0 hat Ys=>?_) (Yq d)
  show(bT (bj (bj 3#0 3#0 3#0) (dl rx) (λl hl=>14#(bT ⟨(jm rx),fN (aK.of aa) (hat) (?_)⟩))))
  have F:=ai.new (o:=.lst [.int 0,.int 0,.int 2,.int 3,.int 4,.int 5,.int 6,.int 8,.int (10^(59:Int).toNat)]) hl;generalize η H l (.lst [.int 0,.int 0,.int 2,.int 3,.int 4,.int 5,.int 6,.int 8,.int (10^(59:Int).toNat)])=S at F;show 192#(bj 54#0 (dl rx) (λN hN=>?_))
  have s2:=315#hN;have eN:η S N 185#0 N=1#([]):=aa;generalize η S N 185#0=Z at s2 eN;show 192#(bj (jm rx) rx ?_);generalize 11#(V.int (d/9%2)=V.int 0)=bp;show 192#(bj 54#0 (dl rx) (λD r=>?_))
  have nDN:D≠N:=λe=>by rw[e,eN]at r;cases r
  have u:=315#r;have eD:η Z D 185#0 D=1#([]):=aa;have eN3:=u _ _ eN;have WL:ai S (61#Z):=s2.trans u;generalize 61#Z=H3 at u eD eN3 WL;show(0#(dz 97#(WL _ _ (F _ _ R)) gJ (bT (?_))));show 14#(bj (by lia) (by lia) ?_)
  show g4 (lo:=0) (n:=(7#J.length+(p:Int)).toNat) (λi M H4=>∃(c' : Int) (ds:List Int) (v10:Option V),M=[20#wb,8#cell,8#(gr:Int),8#c',8#kd,some (.int 7#J.length),8#(r0:Int),some (.ref N),some (.bl bp),214#0,v10,none,none,none,none]/\ai S H4/\H4 N=1#([])/\H4 D=1#(aP ds)/\ds.length=i/\∀y∈ds,-2<=y/\y<=2) (bN _ [] none rx (dF WL eN3 eD rx 137#0)) ?_ ?_
  .intro i M H4 Y;show gZ λc' ds v10=>dI λYj s4 eN4 YY dl4 hds=>?_;subst Yj
   obtain⟨f0,f1⟩:=ja c' 5 3#0
   show 146#⟨100#(aK.of YY),ah rx (bT ⟨(jm rx),bT (cF D _ _ rx rx YY (ff (by unfold aP;rw[Δ];lia)) ?_)⟩)⟩
   show 192#⟨54#0,(bN _ (ds++[c'%5-2]) _ rx (dF (s4.put (s2.free r)) ?_ ?_ ?_ ?_))⟩
   .rw[au (e! nDN)];show eN4
   .unfold aP;rw[o!];show aa
   .rw[U',S!,dl4]
   .intro y X;rcases d!.mp X with X|X
    .show hds y X
    .rw[a!.mp X]
     lia
  .intro M H4;show gZ λc' ds v10=>dI λq6_ s4 eN4 YY dl4 hds=>?_;subst q6_
   show(0#(bj (by lia) (by lia) ?_))
   show g4 (lo:=0) (n:=(7#J.length).toNat) (λi M H5=>∃(zs:List Int) (v10 v11 v12 v13 v14:Option V),M=[20#wb,8#cell,8#(gr:Int),8#c',8#kd,some (.int 7#J.length),8#(r0:Int),some (.ref N),some (.bl bp),214#0,v10,v11,v12,v13,v14]/\ai S H5/\H5 N=1#(aP zs)/\H5 D=1#(aP ds)/\zs.length=i/\∀y∈zs,y.natAbs<10^60) ⟨[],(cD v10 none none none none rx s4 eN4 YY rx 137#0)⟩ ?_ ?_
   .intro i M H5 Y;show dX λzs=>ki λv10 v11 v12 v13 v14=>dI λq7_ s5 YZ Yt zl5 Y0=>?_;subst q7_
    rw[k?];have Y:i<J.length:=by lia
    obtain⟨t,ht⟩:∃t,J[i]?=some t:=⟨J[i],A! Y⟩;have gt:=g.tR t (iu ht);obtain⟨xv,hxv⟩:∃xv,f[i]?=some xv:=⟨f[i]'(by lia),A! (by lia)⟩
    show dX (λt2=>bK λWM b Wh U=>?_) (Paired.tN h3 hxv);subst Wh
    obtain rfl:t=t2:=26#(ht.symm.trans WM);have a0:=gt.a0;have a1:=gt.a1;have b0:=gt.b0;have b1:=gt.b1;have sH5:=F.trans s5;show aj (λmm aap hmm=>?_) (Yr hgr)
    have hdl:∀j:Nat,j<J.length+p->(aP ds)[j]?=8#(ds.getD j 0)/\-2<=ds.getD j 0/\ds.getD j 0<=2:=λj hj=>by
     have hj' : j<ds.length:=by lia
     show 173#(uU hj');have e:ds.getD j 0=ds[j]:=by rw[B!,A! hj'];rfl
     rw[e];show hds _ (X? hj')
    obtain⟨o1,o2,o3⟩:=t;show 14#(dz 97#(sH5 _ _ R) ir 28#(dz (v:=.ref b) 97#(sH5 _ _ W) (aE (j:=i) hxv) (bh b _ rx 97#(sH5 _ _ U) rx (kZ _ _ 49#0))));show dW (λy1 y2 y3=>?_) (hdl i (by lia))
    show(0#(fN (aK.of Yt) (aE (j:=i) y1) (?_)));have fin:∀(E:Ends) (ri:Int),-4<=ri->ri<=4->(∀H6,ai S H6->H6 N=1#(aP (zs++[ri*(mm:Int)]))->H6 D=1#(aP ds)->E.nx [20#wb,8#cell,8#(gr:Int),8#c',8#kd,some (.int 7#J.length),8#(r0:Int),some (.ref N),some (.bl bp),214#0,8#(i:Int),8#o1,8#o2,8#o3,8#ri] H6)->UI E [20#wb,8#cell,8#(gr:Int),8#c',8#kd,some (.int 7#J.length),8#(r0:Int),some (.ref N),some (.bl bp),214#0,8#(i:Int),8#o1,8#o2,8#o3,8#ri] H5:=by
     intro E ri ri0 ri1 k;show 146#⟨100#(aK.of YZ),ah rx (bT (bj (bj 3#0 3#0 3#0) (dl rx) (λl6 hl6=>?_)))⟩
     have s6:=ai.new (o:=.lst [.int 1,.int (10^(59:Int).toNat)]) hl6;have e6:η H5 l6 (.lst [.int 1,.int (10^(59:Int).toNat)]) l6=1#([.int 1,.int (10^(59:Int).toNat)]):=aa;generalize η H5 l6 (.lst [.int 1,.int (10^(59:Int).toNat)])=H6 at s6 e6;have Yu:=s6 _ _ YZ;show 14#(fN (aK.of e6) (aap) (bh ri (mm:Int) rx rx (.inl 178#0) (cF N (aP zs) _ rx rx Yu (ff (by unfold aP;rw[Δ];lia)) (k _ ((s5.trans s6).put hN) ?_ ?_))))
     .unfold aP;rw[o!];show aa
     .rw[au nDN];show s6 _ _ Yt
    have inv:∀ri:Int,-4<=ri->ri<=4->∀y∈zs++[ri*(mm:Int)],y.natAbs<10^60:=λri q0 q1 y X=>by
     rcases d!.mp X with X|X
     .show Y0 y X
     .rw[a!.mp X];show Ua q0 q1 hmm
    have zl6:∀ri:Int,48#(zs++[ri*(mm:Int)])=i+1:=λri=>by rw[U',S!,zl5]
    show(0#(gE (λ_=>?_) (λ_=>?_)))
    .have u1:7#J.length+o2=7#(J.length+o2.toNat):=by have b0:0<=o2:=b0;lia
     have u2:7#J.length+o1=7#(J.length+o1.toNat):=by have a0:0<=o1:=a0;lia
     show dW (λw1 w2 w3=>?_) (hdl (J.length+o2.toNat) (by have b1:o2<(p:Int):=b1;have b0:0<=o2:=b0;lia))
     show dW (λx1 x2 x3=>?_) (hdl (J.length+o1.toNat) (by have a1:o1<(p:Int):=a1;have a0:0<=o1:=a0;lia))
     show(0#14#(bT (fN (aK.of Yt) ((by rw[show(o1,o2,o3).snd.fst=o2 from rfl,u1];show aE w1)) (?_))))
     show(0#14#(bT (fN (aK.of Yt) ((by rw[show(o1,o2,o3).fst=o1 from rfl,u2];show aE x1)) (bT (?_)))))
     show fin _ _ (by lia) (by lia) λH6 q1 q2 q3=>⟨_,(cD _ _ _ _ _ rx q1 q2 q3 (zl6 _) (inv _ (by lia) (by lia)))⟩
    .show fin _ _ (by lia) (by lia) λH6 q1 q2 q3=>⟨_,(cD _ _ _ _ _ rx q1 q2 q3 (zl6 _) (inv _ (by lia) (by lia)))⟩
   .intro M H5;show dX λzs=>ki λv10 v11 v12 v13 v14=>dI λX8 s5 YZ Yt zl5 Y0=>?_;subst X8
    rw[l!]at zl5;have e5:48#(aP zs)=zs.length:=by unfold aP;rw[Δ]
    show 14#(fU (r0:Int) rx (xT Ys) (dl rx) (λl6 hl6=>?_))
    have s6:=ai.new (o:=.lst [.str "heights",.str (Tx.kJ r0)]) hl6;have e6:η H5 l6 (.lst [.str "heights",.str (Tx.kJ r0)]) l6=1#([.str "heights",.str (Tx.kJ r0)]):=aa;have Yu:=s6 _ _ YZ;have eH:η H5 l6 (.lst [.str "heights",.str (Tx.kJ r0)])=η H5 l6 (.lst [.str "heights",.str (Str.ofString (toString (r0:Int)))]):=rfl;rw[<-eH];generalize η H5 l6 (.lst [.str "heights",.str (Tx.kJ r0)])=H6 at s6 e6 Yu;show 124#(av N rfl 29#Yu (λC hC=>bQ (xs:=aP zs) (λi I H7=>ai H6 H7/\159#(H7 C)/\I=((zs.take i).map Tx.iQ).map V.str) (bj (ai.new hC) aa rfl) ?_ (by rw[e5];show dZ (by lia)) ?_ ?_))
    .intro i I H7 _;show dW λs7 e7 RH=>?_;subst RH
     show bj 53#(s7 _ _ Yu) e7 ?_;rw[Δ,Δ,O!];show h_ _ _
    .intro i y I H7 X;show dW λs7 e7 RI=>?_;subst RI
     obtain⟨z,hz,rfl⟩:=vN.mp (show 302#(zs[i]?)=some y by rw[<-j!];show X)
     show 4#(af z rx (dF (vJ (Y0 z (iu hz))) e7 (s7.put hC) aa ?_));rw[E!,hz,H_,o!,o!];rfl
    .intro I H7;show dW λs7 e7 Wj=>?_;subst Wj
     rw[e5,I!]at e7;show bH l6 C [.str "heights",.str (Tx.kJ r0)] _ rfl rfl 53#(s7 _ _ e6) (aK.of e7) ⟨?_,λl8 hl8=>?_⟩
     .rw[Δ,Δ];show dl (x!.mpr (by change 2+zs.length<=1000;lia))
     .have s07:=((F.trans s5).trans s6).trans s7;show q l8 ("heights" :: Tx.iQ r0::zs.map Tx.iQ) _ (s07.free hl8) (s07.trans (ai.new hl8)) aa ⟨by rw[y!,y!,Δ];lia,λy X=>?_⟩
      rcases Z'.mp X with rfl|X
      .show iC (10#0)
      rcases Z'.mp X with rfl|X
      .show jl (by rw[W?];show Ys)
      .show aj (λz hz aar=>?_) (i!.mp X);subst aar
       show jl (Y0 z hz)
def A3(R:Addr)(H:Hp)(v:V):Prop:=∃l k,v = .ref l/\l≠R/\H l=1#((k:List Str).map V.str)/\Wsm k
def A3.same(s:ai H Y)(h:A3 R H v):A3 R Y v:=by
 revert h;show aS λl k e n a W=>?_
 show bh l k e n (s _ _ a) W
def A3.put(h:A3 R H v):A3 R (η H R o) v:=by
 revert h;show aS λl k e n a W=>?_
 show bh l k e n (by rw[au n];show a) W
def Ub(K:bY):Sp:=λG H Q _=>∃(a:Addr) (k:List Int),G=[.ref a,.int 7]/\aK K H a (k.map V.int)/\k.length<=63/\
 ∀r B R p J f Y,ai H Y->Y r=17#([.ref B,.ref R])->aJ p J->J.length<=7->bO Y B p J->Y R=some (.lst f)->(∀v∈f,A3 R Y v)->f.length<=5->Q (.ref r) Y
def uI:Ok T T.uA 3 (Ub K):=by
 have xY:=xY T;have iT:=iT T;have eX:=eX T;have qc:=qc T;show T.uA.ok gM 2#0
 .revert h;show aS λb s L A a q=>?_;subst L
  show af _ (ae (bF 2 gM.nd (aF xY P T.xH.c aL 27#(pv 1)))
   (ae (bF 3 gM.nd (bx Mm (by rfl) T.Rv adD (bB (cY cT 266#(aB eY (aB cG (aF iT P T.lR.c aL 27#ao) (aB om ao ao)) ao) ao (aH _)))))
   (ae (bF 4 gM.nd (bu bS))
   (ae (dQ PassesOwn.never rx (r5 (by rfl) T.c6 (bW ao (bI (r6 rx) (by rfl) T.Dg T_ (bW (44#(pv 0)) ao)))) (bq 5 gM.nd)
   (ae (bF 6 gM.nd 267#(pv 5))
   (ae (bD 170#266#(pv 5) (ak (bF 6 gM.nd (aB qw (aB qw (aF eX P T.iS.c aL (bW (pv 6) (pv 5))) (aF eX P T.iS.c aL (bW (pv 6) (aB eR (pv 5) ao)))) (aF eX P T.iS.c aL (bW (pv 6) (aB eR (pv 5) ao)))))) aO)
   (ak (263#(dN C! L! M! cy (pv 4) (bB (aF qc P T.pT.c aL (aN (pv 2) (bW (pv 6) (pv 3)))))))))))
   (ak (ay (cU (bW (pv 2) (pv 4))))))))) ?_
  show GV ?_;intro c f d e W g x i;show(0#(cF b s 7 rx A a 3#0 (λB p J S F g Q G j=>?_)))
  show 14#(cC b s 0 rx (F.seq A) (λz=>?_))
  show(bT ⟨bj 3#0 3#0 3#0,bT ⟨(jm rx),bT ⟨54#0,bT (bj (jm rx) rx ?_)⟩⟩⟩)
  show .inr 232#0;dsimp only;generalize 11#(V.int (z%10^Int.toNat 60/100%4)=V.int 1)=c;obtain⟨a,d,P⟩:∃a:Nat,(if c=true then(1:Int) else 0)=(a:Int)/\a<=1:=by
   cases c
   .show af 0 rx 3#0
   .show af 1 rx 3#0
  rw[d];show 18#(λR D=>?_)
  have N:=315#D;have d:η S R 185#0 R=1#([]):=aa;generalize η S R 185#0=Z at N d;have c:48#(s.map V.int)=s.length:=Δ ..;show 14#(aV b _ rx (aR (.inl ((F.trans N).seq A)) _ _ rx (aq _ _ rx (iI 3#0 3#0 ?_ ?_) ?_)))
  .rw[c];split<;>lia
  .rw[c];split<;>lia
  obtain⟨m,H,e,i⟩:∃m:Nat,((if(6:Int)<(48#(s.map V.int):Int) then(6:Int) else(48#(s.map V.int):Int))-1).toNat=m/\m<=5/\(m=0\/m+1<=s.length):=124#⟨by rw[c];split<;>lia,by rw[c];split<;>lia⟩
  show g4 (lo:=1) (n:=_) (λi M w=>∃(I:List V) (x z:Option V),M=[240#0,some (.int 7),304#0,8#(a:Int),303#0,x,z]/\ai S w/\159#(w R)/\(∀v∈I,A3 R w v)/\I.length=i) (cF [] none none rx N d (137#0) rx) ?_ ?_
  .intro i M w Y;show bV λI x z c u h y t=>?_;subst c
   have Y:i<m:=by rw[<-H];show Y
   have L:∀(E:Ends) (e:Int),(∀c r,ai S r->r R=some (.lst c)->(∀v∈c,A3 R r v)->c.length=i+1->E.nx [240#0,some (.int 7),304#0,8#(a:Int),303#0,8#(1+(i:Int)),some (.int e)] r)->f E [240#0,some (.int 7),304#0,8#(a:Int),303#0,8#(1+(i:Int)),some (.int e)] w:=by
    intro E e k;show 146#⟨100#(aK.of h),0#14#(cD B p J e a rx P (j.same u) g Q ⟨G,λl E r C f d O=>?_⟩)⟩
    have X:l≠R:=λe=>by rw[e,h]at C;cases C
    show cF R I _ rx rx (f _ _ h) (ff (by lia)) (k (I++[.ref l]) _ ((u.trans f).put D) aa (λv U=>?_) (by rw[U',S!,t]))
    rcases d!.mp U with U|U
    .show((y v U).same f).put
    .rw[a!.mp U];show A3.put (bh l E rx X d O)
   show(0#(bH b _ (1+(i:Int)) (.int (s.getD (i+1) 0)) rx rx ((F.trans u).seq A) ?_ ?_))
   .rw[show(1:Int)+(i:Int)=7#(i+1) by lia]
    show aE (uU (by lia))
   show 192#(bj (jm rx) rx 28#(gE (λ_=>?_) (λ_=>?_)))
   .show(0#(aV _ _ rx (λd a b=>?_)))
    show(0#(bT (aV _ _ rx (λX C a=>bh d X rx rx (.inl 178#0) ?_))))
    show(0#(bT (aV _ _ rx (λl e U=>bh (d*X) l rx rx (.inr 178#0) ?_))))
    show L _ _ λc r O a b k=>cF c _ _ rx O a b k
   .show L _ _ λc r O a b k=>cF c _ _ rx O a b k
  .intro M w;show bV λI x z k u h y t=>?_;subst k
   have t:I.length=m:=by rw[<-H];show t
   show(0#18#(λr O=>?_))
   have c:=ai.new (o:=.tup [.ref B,.ref R]) O;show q r B R p J I _ ((F.trans u).trans c) aa g G (j.same (u.trans c)) (c _ _ h) (λv U=>(y v U).same c) (by lia)
def jN.mono(h:jN n c x)(R:n<=m)(W:c<=d):jN m d x:=⟨Ω h.len R,Ω h.cnt W,h.ok⟩
def jN.app(h:jN n c x)(k:jN m d y):jN (n+m) (c+d) (x++y):=by
 have R:=h.len;have W:=h.cnt;have b:=k.len;have i:=k.cnt
 constructor<;>rw[b_]
 .rw[U'];lia
 .rw[p_];lia
 .show λz a=>(d!.mp a).elim (h.ok z) (k.ok z)
theorem xZ:∀{l},(∀p∈l,p.count 10<=c)->(Tx.eU s l).count 10<=l.length*(c+1)
 | [],_=>r! _
 | [p],h=>by
   have:=h p h!;change p.count 10<=1*(c+1)
   lia
 | p::q::r,h=>by
   have R:=h p h!;have W:=xZ (s:=s) (l:=q::r) λx O=>h x (sY _ O)
   change(p++s::Tx.eU s (q::r)).count 10<=((q::r).length+1)*(c+1);rw[p_,List.count_cons,Nat.succ_mul]
   split<;>lia
def jN.join(l:s<1114112)(h:∀x∈ss,jN n c x)(C:ss.length<=k)(b:k*(n+1)<=16777216):PySem.JoinOk ⟨#[s]⟩ ss=true/\jN (k*(n+1)) (k*(c+1)) (272#(#[s])):=by
 show 173#(yX (B:=n) (λy X=>by rw[len_list];show(h y X).len) ?_)
 .change ss.length*n+ss.length*1<=_;rw[<-Nat.mul_add];show Ω (F_ _ C) b
 .have e:209#(272#(#[s]))=Tx.eU s (ss.map (·.cps.toList)):=by
   rw[show 272#(#[s])=Str.join ⟨#[s]⟩ ss from _l _ _,Tx.iP]
  constructor<;>rw[e]
  .show Ω (xW (B:=n) λp t=>?_) (by rw[Δ];show F_ _ C)
   show aj (λx O L=>?_) (i!.mp t);subst L
   show(h x O).len
  .show Ω (xZ (c:=c) λp t=>?_) (by rw[Δ];show F_ _ C)
   show aj (λx O Y=>?_) (i!.mp t);subst Y
   show(h x O).cnt
  .intro z m;rcases sO m with rfl|⟨p,t,m⟩
   .show l
   .show aj (λx O a=>?_) (i!.mp t);subst a
    show(h x O).ok z m
def jN.line(h:jN n c x)(S:n<=900000):36#x.length:=mS (by rw[len_list];have:=h.len;lia)
def Uc:Sp:=114#(∃B R p J f,G=[.ref B,.ref R]/\bO H B p J/\aJ p J/\J.length<=7/\H R=some (.lst f)/\(∀v∈f,A3 R H v)/\f.length<=5/\∀l a Y,ai H Y->Y l=1#((a:List Str).map V.str)->a.length<=13->(∀x∈a,jN 639 9 x)->Q (.ref l) Y)
def uJ:Ok T T.uB 1 Uc:=by
 show T.uB.ok iY λ_ A _ s H G Q E hr h=>?_
 .revert h;show fX λB R=>bz λp J ys Yi j=>dI λg h7 hR pr a5 q=>?_;subst Yi
  show af _ (ae (bF 2 iY.nd (bu (bB (aB ej aW (bx eA (by rfl) T.rH E? (bB 70#0))))))
   (ae (dQ PassesOwn.never rx (YJ K 70#0) (yM K (n:=3) rx (aM (bq 3 iY.nd) (aM (bq 4 iY.nd) (aM (bq 5 iY.nd) cX))))
   (ak (263#(dN C! L! M! cy (pv 2) (bB (aB ej (aB ej (aB ej (aB ej (aB ej aW (bx eA (by rfl) T.rH E? (bB (pv 3)))) aW) (bx eA (by rfl) T.rH E? (bB (pv 4)))) aW) (bx eA (by rfl) T.rH E? (bB (pv 5)))))))))
   (ak (ay (aB (IX K) (pv 2) (ck (own:=["words"]) (fq:=[]) (js:=[]) (fb iY) rfl (r8 K (pv 1)) 6#(154#(["words"])) 75#0 6#(311#131#0))))))) ?_
  show Dd ?_;intro v UI Wi;show aA (λbt f h1 W h3=>?_) (id j.ex)
  have YU:=h3.length;have g2:=g.p2;have lg:∀z:Int,0<=z->z<=1000000000000000000000000000000->z.natAbs<10^60:=λz h0 h1=>(d_ (151#(z.natAbs<=1000000000000000000000000000000)) 3#0)
  have lp:=lg p (by lia) (by lia)
  have bp:jN 70 0 ("points ":Str):=iC (10#0)
  have bb:jN 70 0 (" ":Str):=iC (10#0)
  have bt' : jN 70 0 ("tie ":Str):=iC (10#0)
  have s0:jN 639 9 (("points ":Str)++Tx.iQ p):=(bp.app (jl lp)).mono 3#0 3#0
  have ln:∀{n c:Nat} {x y:Str},jN n c x->jN 70 0 y->n<=700->36#(x.length+y.length):=λO X hn=>by
   rw[len_list,len_list];have:=O.len;have:=X.len;show mS (by lia)
  show 124#(dz (aZ.of h1) gJ (av (p:Int) rfl (vJ lp) (dU ("points ":Str) (Tx.iQ p) rfl rfl (ln bp (jl lp) 3#0) (dl rfl) λL Y=>?_)))
  have F:=ai.new (o:=.lst [.str (("points ":Str)++Tx.iQ p)]) Y;have e1:η H L (.lst [.str (("points ":Str)++Tx.iQ p)]) L=1#([.str (("points ":Str)++Tx.iQ p)]):=aa;generalize η H L (.lst [.str (("points ":Str)++Tx.iQ p)])=S at F e1;show 124#(dz 97#(F _ _ h1) ir (av bt rfl ⟨_,aZ.of (F _ _ W)⟩ (Du (K:=K) (a:=bt) (xs:=f) (λi M Z=>∃m v4 v5,M=[304#0,303#0,some (.ref L),m,v4,v5]/\ai H Z/\∃l:List Str,Z L=1#(l.map V.str)/\l.length=i+1/\∀x∈l,jN 639 9 x) (cC none none none rfl F (av [_] e1 rfl λx O=>by rw[a!.mp O];show s0)) (by intro i M Z _;show bz λ_ _ _ _ s _=>?_;show aZ.of (s _ _ W)) ?_ ?_)))
  .intro i x M Z O;show gZ λm v4 v5=>cE λYj N l e2 sl hss=>?_;subst Yj
   show dX (λt=>bK λd b q6_ U=>?_) (Paired.tN h3 O);subst q6_
   have e:=g.tR t (iu d);have il:=(k6.mp d).1;have a1:=e.a1;have b1:=e.b1;have l1:=lg _ e.a0 (by lia)
   have l2:=lg _ e.b0 (by lia)
   have l3:=lg _ (_j 3#0 e.l0) e.l1
   obtain⟨t1,C,t3⟩:=t;have U:H b=17#([.int t1,.int C,.int t3]):=U;have c1:=bt'.app (jl l1);have c2:=c1.app bb;have c3:=c2.app (jl l2);have c4:=c3.app bb;have c5:=c4.app (jl l3);show bh b _ rfl 97#(N _ _ U) rfl (kZ _ _ (aR rfl _ _ rfl (aq _ _ rfl rfl ?_)));show 124#⟨.inl (cJ rfl _ (aK.of e2)),ah rfl (av t1 rfl (vJ l1) (bh ("tie ":Str) (Tx.iQ t1) rfl rfl (ln bt' (jl l1) 3#0) ?_))⟩
   show bh (("tie ":Str)++Tx.iQ t1) (" ":Str) rfl rfl (ln c1 bb 3#0) 124#(av C rfl (vJ l2) (bh (("tie ":Str)++Tx.iQ t1 ++ " ") (Tx.iQ C) rfl rfl (ln c2 (jl l2) 3#0) ?_))
   show bh (("tie ":Str)++Tx.iQ t1 ++ " " ++ Tx.iQ C) (" ":Str) rfl rfl (ln c3 bb 3#0) 124#(av t3 rfl (vJ l3) (bh (("tie ":Str)++Tx.iQ t1 ++ " " ++ Tx.iQ C ++ " ") (Tx.iQ t3) rfl rfl (ln c4 (jl l3) 3#0) ?_))
   show cF L _ _ rx rx e2 (ff (by rw[Δ];lia)) (cC _ _ _ rx (N.put Y) (av (l++[_]) (by rw[o!];show aa) (by rw[U',sl];rfl) λx O=>?_))
   rcases d!.mp O with O|O
   .show hss x O
   .rw[a!.mp O];show c5.mono 3#0 3#0
  .intro M Z;show gZ λm v4 v5=>cE λq7_ N l e2 sl hss=>?_;subst q7_
   show(0#(av R rx 29#(N _ _ hR) (λD r=>bQ (xs:=ys) (λi I H3=>ai Z H3/\19#H3/\∃us:List Str,I=us.map V.str/\us.length<=i/\∀x∈us,jN 639 9 x) (150#(av [] rx (Ξ _) 137#0)) ?_ (dZ (by lia)) ?_ ?_)))
   .intro i I H3 _;show cE λu e3 us Wh ul _=>?_;subst Wh
    show bj 53#(u _ _ (N _ _ hR)) e3 (by rw[Δ];show ul)
   .intro i y I H3 X;show cE λu e3 us X8 ul hus=>?_;subst X8
    show fX (λlw k=>kG λRH _ hlw wl hws=>?_) (pr y (iu X));subst RH
    obtain⟨j1,j2⟩:=jN.join (s:=32) 3#0 hws wl 3#0
    show bj rx rx 14#(bC _ lw k rx rx 53#(u _ _ (N _ _ hlw)) (dF (by rw[yo];show j1) e3 (u.put r) aa (av (us++[_]) (by rw[o!];rfl) (298#ul) λx O=>?_)))
    rcases d!.mp O with O|O
    .show hus x O
    .rw[a!.mp O,yo];show j2
   .intro I H3;show cE λu e3 us RI ul hus=>?_;subst RI
    show bH L D _ _ rx rx 53#(u _ _ e2) (aK.of e3) ⟨?_,λl4 UL=>q l4 (l++us) _ ((N.trans u).trans (ai.new UL)) (by rw[o!];show aa) (by rw[U'];lia) λx O=>(d!.mp O).elim (hss x) (hus x)⟩
    rw[Δ,Δ];show 74#0
def KJ(C:Addr):Sp:=114#(∃U d z,G=[.ref U]/\H U=some (qB U (.ref C) (some d))/\H d=some (.xd [("row",.int z)])/\99#(.int z))
def Tells(l:Nat)(H:Hp)(v:V)(st:Sb):Prop:=(l=0/\HW H v st)\/(l=1/\∃t,v = .str t/\R0 st.2 t)
def HW.same{st:Sb}(h:HW H v st)(s:ai H Y):HW Y v st:=by
 revert h;show dX λr=>bV λp F I e R W M T=>?_
 show bH r p F I e (s _ _ R) (s _ _ W) (M.same s) T
def KL(t1 C:Addr)(c e:Pos):Sp:=λG H Q _=>∃(l:Nat) (d:Str) (g:List RowW),G=[.int (l:Int),.str d]/\l<=1/\H t1=112#(fC (kK "least_ways") c)/\H C=112#(fC (kK "by_length") e)/\Fd d g/\
 ∀r v Y,ai H Y->((∃st,runF (none,0) g 0 = .inl st/\Y r=17#([.int 0,v])/\Tells l Y v st)\/(∃m,runF (none,0) g 0 = .inr m/\Y r=17#([.int ((m:Int)+1),.eM])))->Q (.ref r) Y
def gY:Ok T T.gU 1 (KJ a.aY):=by
 show T.gU.ok jo 2#0
 .revert h;show dX λU=>aS λd z L O J q=>?_;subst L
  show af _ (ae (bF 1 jo.nd (bu (aN 80#241#T.Rx (bW 80#241#T.xK 80#241#T.NW))))
   (ae (263#(dN C! ac4 ac5 vX (pv 1) (bB (bu (aN 80#241#T.NX (bW 80#241#T.Rz 80#241#T.HA))))))
   (ae (263#(dN C! ac4 ac5 vX (pv 1) (bB (bu (aN 80#241#T.Kg (bW 80#241#T.Ry 80#241#T.NY))))))
   (ae (263#(dN C! ac4 ac5 vX (pv 1) (bB (bu (bW 80#241#T.RA 80#241#T.RB)))))
   (ae (bD (PW.pt (j5 (iL (eO 80#241#T.HB)) (j5 (iL (eO 80#(Uo (T:="ValueError") (by rfl) T.ER (10#0)))) (iK (az (WI K) qf (pv 1) (88#0)))))) (ak (ay (sZ mV ao))) aO)
   (ak (ay (LP K (pv 0))))))))) ?_
  show Ah ?_;intro v f I b W e;have i:=ai.refl H;show 146#⟨U,(cD _ a.aY _ _ _ rx rx (i _ _ O) T.fD T.q_NoText_BadSet (gB _ rx U (cD _ a.aY _ _ _ rx rx (i _ _ O) T.fD T.q_NoText_NotEven (gB _ rx U (cD _ a.aY _ _ _ rx rx (i _ _ O) T.fD T.q_NoText_NotRing 18#(λl C=>?_))))))⟩
  have F:=ai.new (o:=.lst 38#0) C;have g:η H l (.lst 38#0) l=1#(38#0):=aa;generalize η H l (.lst 38#0)=S at F g;show 146#⟨100#(aK.of g),ah rx ⟨U,(cD _ a.aY _ _ _ rx rx (F _ _ O) T.fD T.q_NoText_NoChord (gB _ rx U (cD _ a.aY _ _ _ rx rx (F _ _ O) T.fD T.q_NoText_NoSuch (gB _ rx U (cD _ a.aY _ _ _ rx rx (F _ _ O) T.fD T.q_NoText_BadWeb 18#(λk B=>bH l k _ _ rx rx (ai.new B _ _ g) aa 173#(dl rfl)))))))⟩⟩
  have N:=(F.trans (ai.new (o:=.lst 38#0) B)).put (o:=.lst (38#0++38#0)) C;have D:η (η S k (.lst 38#0)) l 66#(38#0++38#0) l=1#(List.replicate 6 (.bl false)):=aa;generalize η (η S k (.lst 38#0)) l 66#(38#0++38#0)=Z at N D;clear B;show 146#⟨100#(aK.of D),ah rx ⟨U,(cD _ a.aY _ _ _ rx rx (N _ _ O) T.fD T.q_NoText_BadPoint (gB _ rx U (cD _ a.aY _ _ _ rx rx (N _ _ O) T.fD T.q_NoText_NoBase (gB _ rx U (cD _ a.aY _ _ _ rx rx (N _ _ O) T.fD T.q_NoText_TooMany 18#(λk B=>bH l k _ _ rx rx (ai.new B _ _ D) aa 173#(dl rfl)))))))⟩⟩
  have u:=(N.trans (ai.new (o:=.lst 38#0) B)).put (o:=.lst (List.replicate 6 (.bl false)++38#0)) C;have R:η (η Z k (.lst 38#0)) l 66#(List.replicate 6 (.bl false)++38#0) l=1#(List.replicate 9 (.bl false)):=aa;generalize η (η Z k (.lst 38#0)) l 66#(List.replicate 6 (.bl false)++38#0)=w at u R;clear B;show 146#⟨100#(aK.of R),ah rx ⟨U,(cD _ a.aY _ _ _ rx rx (u _ _ O) T.fD T.q_NoText_BadRow (gB _ rx U (cD _ a.aY _ _ _ rx rx (u _ _ O) T.fD T.q_NoText_NoDeed 18#(λk B=>bH l k _ _ rx rx (ai.new B _ _ R) aa 173#(dl rfl)))))⟩⟩
  have c:=(u.trans (ai.new (o:=.lst [.bl false,.bl false]) B)).put (o:=.lst (List.replicate 9 (.bl false)++[.bl false,.bl false])) C;have r:η (η w k (.lst [.bl false,.bl false])) l 66#(List.replicate 9 (.bl false)++[.bl false,.bl false]) l=1#(List.replicate 11 (.bl false)):=aa;generalize η (η w k (.lst [.bl false,.bl false])) l 66#(List.replicate 9 (.bl false)++[.bl false,.bl false])=X at c r;show 14#(iJ U _ a.aY (bC _ _ _ rx rx (c _ _ O) (bA T.fD T.q_NoText_NoText _ rx (cZ 28#(iJ U _ a.aY (bC _ _ _ rx rx (c _ _ O) (bA T.fD T.N2 _ rx (cZ (ah rx (qm rx (127#r) (bj rx rx (ah rx (cZ ?_)))))))))))));show 14#(vM U a.aY a.gQ a.jV (cC d _ _ rx (c _ _ O) (dF (c _ _ J) rx T.fD T.xi_NoText (q _ c))))
def mT:Ok T T.mP 14 318#KL:=by
 have i3:=i3 T;have uH:=uH T;have gY:=gY T;show T.mP.ok gb 2#0
 .revert h;show gZ λl x g=>dI λB j z M C q=>?_;subst B
  show af _ (ae (bF 2 gb.nd dG)
   (ae (bF 3 gb.nd dG)
   (ae (Lu (i:=4) K rx rx rx gb.nd rx rx (by rfl) T.rJ (λE b c t=>(ak (bD 170#(pv 0) (ak (bF 3 gb.nd (aF i3 P T.mO.c t (bB (pv 1))))) (ak (bF 3 gb.nd (aF uH P T.uz.c t (bB (pv 1)))))))) (λU b=>(ak (bF 2 gb.nd (pv 4)))))
   (ae (bD (az uN (pv 2) dG (aH _)) (ak (ay (cU (bW (aF gY P T.gU.c aL (bB (pv 2))) dG)))) aO)
   (ak (ay (cU (bW ao (pv 3))))))))) ?_
  show vo ?_;intro D f I b L;show⟨λR W Y=>R = .ref a.aY/\ai H Y/\∃m d,runF (none,0) g 0 = .inr m/\W=some d/\Y d=some (.xd [("row",.int ((m:Int)+1))]),?_,?_⟩
  .show 146#4#(?_)
   by_cases X:l=0
   .subst X;show mW rx 14#(bh x g rx C (λst c v Y p pv=>?_) (λm c d Y p J=>bj rx p (aq m d c rx J)))
    show 146#4#(cZ (ah rx 18#(λr P=>q r v _ (p.trans (ai.new P)) (.inl (av st c aa (.inl 46#(pv.same (ai.new P))))))))
   .show j6 (λy=>X (161#(V.int.inj y))) 14#(aV x g rx (dF z M C (λst c t Y p e=>?_) λm c d Y p J=>bj rx p (aq m d c rx J)))
    show 146#4#(cZ (ah rx 18#(λr P=>q r _ _ (p.trans (ai.new P)) (.inl (av st c aa (.inr (b8 (by lia) t rx e)))))))
  .intro R W Y;show dW λk F=>aA λm d c p J=>?_;subst k p
   show⟨T.RG,λU e=>?_⟩
   have N:=F.trans (ai.new (o:=qB U (.ref a.aY) (some d)) e);have O:η Y U (qB U (.ref a.aY) (some d)) U=some (qB U (.ref a.aY) (some d)):=aa;have n:=ai.new (o:=qB U (.ref a.aY) (some d)) e _ _ J;generalize η Y U (qB U (.ref a.aY) (some d))=Z at N O n;show 146#(?_);show 146#4#(eu ?_);show 14#(bC U d _ rx O n (λw u=>18#(λr P=>q r .eM _ ((N.trans u).trans (ai.new P)) (.inr (af m c aa)))))
def jN.sub{x y:Str}(h:jN n c x)(s:y.cps.toList.Sublist x.cps.toList):jN n c y:=⟨Ω s.length_le h.len,Ω (s.count_le 10) h.cnt,λz m=>h.ok z (s.subset m)⟩
def R1{x:Str}{j:Int}(h0:0<=j)(R:j<=x.cps.toList.length):(Txt.slice x none (some j)).cps.toList.Sublist (x.cps.toList.take j.toNat):=by
 rw[show Txt.slice x none (some j)=_ from PySem.StrLaws.sliceText_to ⟨h0,R⟩,Int.sub_zero]
 show List.Sublist.refl _
def A4{x:Str}(h0:0<=i)(R:i<=252#0+1):(Txt.slice x (some i) none).cps.toList.Sublist (x.cps.toList.drop i.toNat):=by
 have a:∀{i:Int},0<=i->i<=x.cps.toList.length->(Txt.slice x (some i) none).cps.toList.Sublist (x.cps.toList.drop i.toNat):=λh0 R=>by
  rw[show Txt.slice x (some _) none=_ from PySem.StrLaws.sliceText_from ⟨h0,R⟩]
  show List.take_sublist _ _
 by_cases h:i<=x.cps.toList.length
 .show a h0 h
 .obtain rfl:i=252#0+1:=by lia
  have e:Txt.slice x (some (252#0+1)) none=Txt.slice x (some 252#0) none:=by
   have g:PySem.Builtin.Str.strSliceIndices (some (252#0+1)) none 1 x.length=PySem.Builtin.Str.strSliceIndices (some 252#0) none 1 x.length:=by
    rw[<-len_list];change sliceRange (max 0 (min (if(x.length:Int)+1<0 then _ else _) (x.length:Int))) _ 1=sliceRange (max 0 (min (if(x.length:Int)<0 then _ else _) (x.length:Int))) _ 1
    rw[ξ (151#(¬(x.length:Int)+1<0)),ξ (151#(¬(x.length:Int)<0))]
    congr 1
    lia
   unfold Txt.slice;rw[g]
  rw[e,adh (by lia)]
  have:=a (i:=252#0) (by lia) (A? _)
  rwa [l!,List.drop_length]at this
def jN.two{x l r:Str}(h:jN n c x)(C:l.cps.toList.Sublist (x.cps.toList.take k))(b:r.cps.toList.Sublist (x.cps.toList.drop k)):jN n c (l++r):=h.sub (by
 rw[b_];have:=C.append b
 rwa [List.take_append_drop]at this)
def jN.mid(h:jN n c (l++r))(k:jN m d y):jN (n+m) (c+d) (l++y++r):=by
 have R:=h.len;have W:=h.cnt;have M:=h.ok;have b:=k.len;have i:=k.cnt;rw[b_]at R W M;rw[U']at R;rw[p_]at W
 constructor<;>rw[b_,b_]
 .rw[U',U'];lia
 .rw[p_,p_];lia
 .show λz a=>(d!.mp a).elim (λa=>(d!.mp a).elim (λy=>M z (R4 _ y)) (k.ok z)) λy=>M z (j4 _ y)
def jN.left(h:jN n c (x++y)):jN n c x:=h.sub (by rw[b_];show List.sublist_append_left _ _)
def A5(l:List (List Nat)):Nat:=(l.map λp=>p.length+1).sum
theorem x6:∀{l},48#(Tx.eU c l)<=A5 l/\(l≠[]->A5 l=48#(Tx.eU c l)+1)
 | []=>⟨Ξ _,λh=>absurd rfl h⟩
 | [p]=>⟨Q! _,λ_=>rfl⟩
 | p::q::l=>by
   have E:=(x6 (c:=c) (l:=q::l)).2 (List.cons_ne_nil _ _);have e:A5 (p::q::l)=p.length+1+A5 (q::l):=rfl;have D:48#(Tx.eU c (p::q::l))=p.length+(48#(Tx.eU c (q::l))+1):=by
    change 48#(p++c::Tx.eU c (q::l))=_;rw[U'];rfl
   show⟨by lia,λ_=>by lia⟩
theorem H8:∀l i p,A5 (l.set i p)<=A5 l+p.length+1
 | [],_,_=>r! _
 | q::l,0,p=>by
   change p.length+1+A5 l<=q.length+1+A5 l+p.length+1
   lia
 | q::l,i+1,p=>by
   have:=H8 l i p;change q.length+1+A5 (l.set i p)<=q.length+1+A5 l+p.length+1
   lia
structure A6(n c k:Nat)(ss:List Str):Prop where
 sum:A5 (ss.map (·.cps.toList))<=k
 few:ss.length<=c+1
 free:∀s∈ss,10∉s.cps.toList
 len:∀s∈ss,s.cps.toList.length<=n
 ok:∀s∈ss,∀x∈s.cps.toList,x<1114112
def A6.of(h:jN n c t):A6 n c (n+1) (Txt.split t "\n"):=by
 rw[Dp];have e:=parts (x:=t) (c:=10);show⟨?_,?_,λs a=>PySem.StrLaws.split_free _ 10 s a,λs a=>?_,λs a x O=>h.ok x ((part_of a).1 x O)⟩
 .rw[(x6 (c:=10)).2 (by simp[Tx.oU]),<-e]
  show g? h.len
 .have z:=(qa (c:=10) (l:=(Txt.split t ⟨#[10]⟩).map (·.cps.toList))).2;rw[<-e,Δ]at z;have:=h.cnt
  lia
 .have z:=(part_of a).2;rw[len_list,len_list]at z;show Ω z h.len
def A6.set(h:A6 n c k ss)(i:Nat){s:Str}(l:10∉s.cps.toList/\s.cps.toList.length<=n/\∀x∈s.cps.toList,x<1114112):A6 n c (k+n+1) (ss.set i s):=by
 have a:∀y∈ss.set i s,y∈ss\/y=s:=λy X=>List.mem_or_eq_of_mem_set X
 show⟨?_,by rw[M?];show h.few,λy X=>(a y X).elim (h.free y) λe=>e▸l.1,λy X=>(a y X).elim (h.len y) λe=>e▸l.2.1,λy X=>(a y X).elim (h.ok y) λe=>e▸l.2.2⟩
 rw[adY];have:=H8 (ss.map (·.cps.toList)) i s.cps.toList;have:=h.sum
 lia
def A6.at(h:A6 n c k ss)(l:s∈ss):10∉s.cps.toList/\s.cps.toList.length<=n/\∀x∈s.cps.toList,x<1114112:=bj (h.free s l) (h.len s l) (h.ok s l)
def A6.join(h:A6 n c k ss)(S:n<=30000)(L:c<=140):PySem.JoinOk "\n" ss=true/\jN k (c+1) (Txt.join "\n" ss):=by
 have e:209#(272#(#[10]))=Tx.eU 10 (ss.map (·.cps.toList)):=by
  rw[show 272#(#[10])=Str.join ⟨#[10]⟩ ss from _l _ _,Tx.iP]
 have Z:=h.few;rw[Dp];show 173#(yX (B:=n) (λy X=>by rw[len_list];show h.len y X) ?_)
 .change ss.length*n+ss.length*1<=_;rw[<-Nat.mul_add];show Ω (Nat.mul_le_mul (151#(ss.length<=141)) (151#(n+1<=30001))) 3#0
 .constructor<;>rw[e]
  .show Ω (x6 (c:=10)).1 h.sum
  .show Ω (xZ (c:=0) λp t=>?_) (by rw[Δ];lia)
   show aj (λx O a=>?_) (i!.mp t);subst a
   show v_ (_J.mpr (h.free x O))
  .intro z m;rcases sO m with rfl|⟨p,t,m⟩
   .decide
   .show aj (λx O Y=>?_) (i!.mp t);subst Y
    show h.ok x O z m
def WB:Sp:=114#(∃d b k n c,G=[.str d,.int b,.int k]/\jN n c d/\n<=30000/\c<=139/\∀t Y,ai H Y->jN (3*n+3) (c+1) t->Q (.str t) Y)
def sQ:Ok T T.sM 2 WB:=by
 have eX:=eX T;show T.sM.ok gP 2#0
 .revert h;show fX λd E=>bV λk n c a O A L q=>?_;subst a
  show af _ (ae (bF 3 gP.nd (aF eX P T.iS.c aL 269#(aB eR ao (pv 2))))
   (ae (bF 4 gP.nd (aB cG (aB eY (pv 3) ao) (aB eR (bI oq (by rfl) T.dm _d 131#0) ao)))
   (ae (bF 5 gP.nd (bR (Uw K) aW 266#(aB eY (pv 3) ao)))
   (ae (bD (az qg 266#(pv 3) ao (aH _)) (ak (ay (aB ej (aB ej (dH (Ux K) (pv 0) fu (eB (pv 4))) (pv 5)) (dH (Ux K) (pv 0) (eB (pv 4)) fu)))) aO)
   (ae (bD (az qg 266#(pv 3) ao (aH _)) (ak (ay (aB ej (dH (Ux K) (pv 0) fu (eB (pv 4))) (dH (Ux K) (pv 0) (eB (aB eR (pv 4) ao)) fu)))) aO)
   (ae (bD (az qg 266#(pv 3) ao (aH _)) (ak (ay (aB ej (aB ej (dH (Ux K) (pv 0) fu (eB (pv 4))) (pv 5)) (dH (Ux K) (pv 0) (eB (aB eR (pv 4) ao)) fu)))) aO)
   (ae (bF 6 gP.nd (qn K (dN C? _u _v u9 (pv 0) (bB aW))))
   (ae (bF 7 gP.nd (aB cG (aB eY (pv 3) ao) (44#(pv 6))))
   (ae (bF 8 gP.nd (aB cG (aB eY (pv 3) ao) (44#(pv 6))))
   (ae (bF 9 gP.nd (bR (g7 K) (pv 6) (pv 7)))
   (ae (lj (bR (g7 K) (pv 6) (pv 8)) (vQ (pv 6) (pv 7) set_list))
   (ae (bD 170#266#(aB eY (pv 3) ao) (ak (lj (pv 9) (vQ (pv 6) (pv 8) set_list))) aO)
   (ak (ay (311#(bB (pv 6))))))))))))))))) ?_
  show JP ?_;intro v f I b p e r s t u a g i j l m;have a:=O.len;have a:=len_list d;have b:36#d.length:=O.line (by lia)
  show(0#(bT (aV _ _ rx (λz e f=>?_))))
  show 192#⟨54#0,0#⟨b,(aq _ _ rx rx (bT 173#(by lia)))⟩⟩
  obtain⟨gJ,ir⟩:=ja (z/8) ((d.length:Int)+1) (by lia)
  dsimp only;generalize z/8%((d.length:Int)+1)=e at gJ ir;rw[a]at ir;obtain⟨s,U,p⟩:∃s,vW 209#("0123456789 \n-at\tlx":Str) (z/40000%18)=some s/\jN 1 1 ⟨#[s]⟩:=by
   obtain⟨r,F⟩:=ja (z/40000) 18 3#0
   generalize z/40000%18=i at r F;obtain⟨j,rfl⟩:=ac8 r;have C:253#("0123456789 \n-at\tlx":Str)=18:=10#0
   have W:∀y∈209#("0123456789 \n-at\tlx":Str),y<1114112:=10#0
   have J:j<253#("0123456789 \n-at\tlx":Str):=by lia
   show af _ (aE (A! J)) ⟨Ξ _,List.count_le_length,λy X=>by rw[a!.mp X];show W _ (X? J)⟩
  show 192#⟨54#0,bT ⟨(jm rx),(cF _ _ _ rx rx (10#0) U ?_)⟩⟩
  have f:=R1 (x:=d) gJ (by lia)
  have r:=A4 (x:=d) (i:=e) gJ (by lia)
  have g:=(A4 (x:=d) (i:=e+1) (by lia) (by lia)).trans (List.drop_sublist_drop_left _ (151#(e.toNat<=(e+1).toNat)))
  have X:∀{n c:Nat} {x y:Str},jN n c (x++y)->n<=900000->36#(x.length+y.length):=λh A=>by rw[<-PySem.Str.length_append];show h.line A
  have a:∀{C l:Nat} {t:Str},jN C l t->C<=3*n+3->l<=c+1->Q (.str t) H:=λh R W=>q _ H 186#0 (h.mono R W)
  show 192#⟨(jm rx),bT 28#(gE (λ_=>?_) (λ_=>?_))⟩
  .have m:=(O.two f r).mid p;show(0#14#(av d rx b (gB _ rx (_) 28#(bj rx (X m.left (by lia)) (ah rx (ah rx (ah rx (af d rx (cJ b (_) (ah rx (bj rx (X m (by lia)) (a m (by lia) (by lia)))))))))))))
  show 192#⟨(jm rx),bT 28#(gE (λ_=>?_) (λ_=>?_))⟩
  .have m:=O.two f g;show(0#(ah rx ⟨d,(bA rx b _ rx 14#(bT 28#(af d rx (cJ b (_) (ah rx (bj rx (X m (by lia)) (a m (by lia) (by lia))))))))⟩))
  show 192#⟨(jm rx),bT 28#(gE (λ_=>?_) (λ_=>?_))⟩
  .have m:=(O.two f g).mid p;show(0#14#(av d rx b (gB _ rx (_) 28#(bj rx (X m.left (by lia)) (ah rx (ah rx (bT (ah rx (af d rx (cJ b (_) (ah rx (bj rx (X m (by lia)) (a m (by lia) (by lia))))))))))))))
  have f:=A6.of O;have a:0<48#(Txt.split d "\n"):=List.length_pos_iff.mpr (Tx.oU _ _);have p:=f.few;show 124#(aR rfl d ("\n") rfl (dF rfl (10#0) b (74#0) λD r=>?_))
  generalize Txt.split d "\n"=l at f a p;have F:=ai.new (o:=.lst (l.map V.str)) r;have a:η H D 66#(l.map V.str) D=1#(l.map V.str):=aa;generalize η H D 66#(l.map V.str)=S at F a;have b:48#(l.map V.str)=l.length:=Δ ..;have p:∀y:Int,∃i:Nat,y%7#48#(l.map V.str)=(i:Int)/\i<l.length:=λy=>by
   obtain⟨R,W⟩:=ja y 7#48#(l.map V.str) (by lia)
   show af _ ((adP R).symm) (by lia)
  have m:∀{g:List Str} {i:Nat} (h:i<g.length),vW (g.map V.str) (i:Int)=some (.str g[i]):=λh=>aE (by rw[j!,A! h];rfl)
  have st:∀{g:List Str} {i:Nat},i<g.length->Lg 48#(g.map V.str) (i:Int)=some i:=λh=>by
   unfold Lg;rw[ο (_G _),ο (by rw[Δ];lia),l!]
  show aj (λi h b=>?_) (p (z/8))
  show aj (λj t J=>?_) (p (z/800))
  show 192#⟨54#0,ah rx (qm rx (127#a) (bT 173#(by lia)))⟩
  dsimp only;rw[h];show 192#⟨54#0,ah rx (qm rx (127#a) (bT 173#(by lia)))⟩
  dsimp only;rw[t];show(0#(fN (aK.of a) (m b) (?_)));show(0#(fN (aK.of a) (m J) 14#(ah rx (bH D _ _ i rx rx a (st b) ?_))));rw[<-adY];have p:=f.set i (f.at (X? J));have a:48#(l.set i l[j])=l.length:=M?;have N:ai H (η S D 66#((l.set i l[j]).map V.str)):=F.put r;have a:η S D 66#((l.set i l[j]).map V.str) D=1#((l.set i l[j]).map V.str):=aa;generalize η S D 66#((l.set i l[j]).map V.str)=Z at N a;have t:∀(g:List Str) (h:Nat) (w:Hp),A6 n c h g->h<=3*n+3->ai H w->w D=1#(g.map V.str)->v { nx:=λ_ Y=>Q .eM Y,rt:=Q} [some (.str d),some (.int E),some (.int k),some (.int z),some (.int e),some (.str ⟨#[s]⟩),214#0,some (.int i),some (.int j),some (.str l[i])] w:=λg h w P B u x=>by
   obtain⟨M,m⟩:=P.join A (by lia)
   show 4#(cF _ D g rx rx (aK.of x) M (q _ w u (m.mono B (Ξ _))))
  show 192#⟨54#0,bT (bj (jm rx) rx 28#(gE (λ_=>?_) (λ_=>?_)))⟩
  .show(0#14#(bH D _ _ j rx rx a (st (by lia)) ?_))
   rw[<-adY];show t _ _ _ (p.set j (f.at (X? b))) (by lia) (N.put r) aa
  .show t _ _ _ p (by lia) N a
def Ud(t1 C:Addr)(c e:Pos):Sp:=λG H Q _=>∃d:Str,G=[.str d]/\H t1=112#(fC (kK "least_ways") c)/\H C=112#(fC (kK "by_length") e)/\jN 900000 140 d/\99#(.bl true)
def Fj(K:bY)(b:Jz):Sp:=114#(∃(a:Addr) (k:List Int),G=[.ref a]/\aK K H a (k.map V.int)/\k.length<=63/\TabsAt b H/\∀Y,Q (.bl true) Y)
def lX:Ok T T.lS 15 318#Ud:=by
 have mT:=mT T;show T.lS.ok kc 2#0
 .revert h;show dX λE=>kG λL A M O q=>?_;subst L
  show af _ (ae (lj (aF mT P T.mP.c aL (bW ao (pv 0))) (yM K (n:=2) rx (aM (bq 1 kc.nd) (aM (bq 2 kc.nd) cX))))
   (ae (bD (az qg (pv 1) ao (aH _)) (ak (ay qf)) aO)
   (ae (lj (aF mT P T.mP.c aL (bW ao (pv 0))) (yM K (n:=2) rx (aM (bq 3 kc.nd) (aM (bq 4 kc.nd) cX))))
   (ae (bD (PW.pt (j5 (az nL (pv 1) ao (aH _)) (iK (az nL (pv 3) ao (aH _))))) (ak (ay (qu (cY cT (pv 1) (pv 3) (aH _)) (oj (cY mu (pv 1) ao (aH _)))))) aO)
   (ae (bD (az (DH K P.units) (ee K (pv 2)) (bu bS) (aH _)) (ak (ay (cY cT (pv 4) aW (aH _)))) aO)
   (ak (ay (qu (bI (Zx K) (by rfl) T.cB b? (bW (pv 4) (Uo (by rfl) T.rH E?))) (oj (cY cT (44#(qn K (dN C? _u _v u9 (pv 4) (bB aW)))) (44#(ee K (pv 2))) (aH _))))))))))) ?_
  show GW ?_;intro d f e b g h x c;obtain⟨g,C⟩:=TY O;show 14#(bN 0 E g rx (dF 3#0 A M C λr v S b R=>?_))
  rcases R with⟨st,d,h,j⟩|⟨m,d,h⟩
  .obtain⟨_,pv⟩|⟨e,_⟩:=j
   case inr=>cases e
   show aq r _ rx (aZ.of h) 49#0;show 192#28#(j6 3#0 ?_)
   show 14#(bN 1 E g rx (dF 3#0 (b _ _ A) (b _ _ M) C λi G Z N W=>?_))
   obtain⟨c,f,s,j⟩|⟨_,z,_⟩:=W
   case inr=>rw[d]at z;cases z
   obtain rfl:st=c:=Sum.inl.inj (d.symm.trans f);obtain⟨e,_⟩|⟨_,t,rfl,j,x⟩:=j
   .cases e
   show aq i _ rx (aZ.of s) 49#0;show dX (λw=>bV λp F I Y c U k e=>?_) (pv.same N);subst Y;obtain⟨u,_,v,l,B,_⟩:=k
   rw[v.length]at e;rw[<-B]at x;show 146#4#(x7 rx (ah rx 46#(ah rx (x7 rx ?_))));show 14#(dz (aZ.of c) ir 18#(λX J=>aq _ _ (.lst 53#(ai.new J _ _ U) (A0 (Paired.imp' (λ_ _ y=>AZ.tups (ai.new J).tups y) v))) (.lst (aK.of aa) (i9 [])) (bA (yp l) (iV []) _ rx ?_)))
   rw[HV];have u:=(b.trans N).trans (315#J);have c:=ai.new (o:=.lst []) J _ _ c;have U:=ai.new (o:=.lst []) J _ _ U;generalize η Z X 185#0=w at u c U;obtain⟨e,rfl⟩|⟨e,l⟩:=x
   .rw[eK e];show eu (ah rx ⟨rfl,?_⟩);show q w u
   .rw[fV (by lia)]
    show cZ 124#⟨_,(bH _ _ _ _ rfl rfl (.str t) (88#0:228#(PySem.W.kitOne K (.type "str") (.type "str"))) ?_)⟩
    show af true rfl (eu 124#(aR rfl t ("\n") rfl (dF rfl (10#0) j (by rw[l];show 74#0) λD e=>(qm rfl (127#aa) (ah rfl (dz 97#(ai.new e _ _ c) ir (bh F I rfl (.inl 53#(ai.new e _ _ U)) rfl ?_)))))))
    rw[eK (by rw[Δ,l,v.length])]
    show q _ (u.trans (ai.new e))
  .show aq r _ rx (aZ.of h) 49#0;show 192#28#(j6 (by lia) ?_)
   show 14#(bN 1 E g rx (dF 3#0 (b _ _ A) (b _ _ M) C λi G Z N W=>?_))
   obtain⟨_,z,_⟩|⟨Y,f,s⟩:=W
   .rw[d]at z;cases z
   obtain rfl:m=Y:=Sum.inr.inj (d.symm.trans f);show aq i _ rx (aZ.of s) 49#0;show 146#4#(Dh (λy=>161#(V.int.inj y)) ?_)
   show(0#⟨rfl,?_⟩);show af true (by rw[eK rfl]) (eu 14#(bT (?_)))
   dsimp only;rw[eK (by lia)]
   show q _ (b.trans N)
def Yv:Ok T T.UH 16 (Fj K [(a.di,kK "by_length",cL),(a.bg,kK "least_ways",aX)]):=by
 have uI:=uI T;have uJ:=uJ T;have lX:=lX T;have sQ:=sQ T;show T.UH.ok uo 2#0
 .revert h;show fX λb k=>kG λd s i c E=>?_;subst d
  have A:=c _ h!;have h:=c _ (sY _ h!);show af _ (ae (lj (aF uI P T.uA.c aL 27#ao) (yM K (n:=2) rx (aM (bq 1 uo.nd) (aM (bq 2 uo.nd) cX))))
   (ae (bF 3 uo.nd (311#(bB (aF uJ P T.uB.c aL 269#(pv 2)))))
   (ae (dQ PassesOwn.never rx (r8 K (bu (aN (pv 3) (aN (aB ej (pv 3) aW) (bW aW aW))))) (bq 4 uo.nd)
   (ak (bD (iL (eO (aF lX P T.lS.c aL (bB (pv 4))))) (ak (ay qf)) aO)))
   (ae (dQ PassesOwn.never rx (111#(bI (r6 rx) (by rfl) T.Dg T_ (bW (44#(pv 0)) ao))) (bq 5 uo.nd)
   (ae (bF 6 uo.nd (aF sQ P T.sM.c aL (aN (pv 3) (bW 267#(pv 5) (pv 5)))))
   (ak (bD (PW.pt (j5 (iL (eO (aF lX P T.lS.c aL (bB (pv 6))))) (iK (iL (eO (aF lX P T.lS.c aL (bB (aF sQ P T.sM.c aL (aN (pv 6) (bW (aB eY 267#(pv 5) ao) (aB eR (pv 5) ao))))))))))) (ak (ay qf)) aO))))
   (ak (ay qf)))))) ?_
  show Wb ?_;intro c d I f W e g j l;show 14#(bh b k rx s i (λr B R p J f S F e g c j d m t=>?_))
  show aq r _ rx (aZ.of e) 49#0;show 46#0#(cD B R p J f rx j g c d (bj m t λl i Z N C r q=>?_))
  obtain⟨c,e⟩:=jN.join (s:=10) 3#0 q r 3#0
  rw[<-Dp]at c e;show cF _ l i rfl rfl (aK.of C) c ?_;generalize Txt.join "\n" i=d at e;have l:=F.trans N;have c:jN 1 1 ("\n":Str):=⟨10#0,10#0,10#0⟩
  have g:jN 0 0 ("":Str):=⟨10#0,10#0,10#0⟩
  have i:jN 100 10 ("points 1\nbase\nlengths\nforests\neven\ncut\nodd":Str):=⟨10#0,10#0,10#0⟩
  show(0#(dU d _ rx rx (by rw[<-PySem.Str.length_append];show(e.app c).line 3#0) (dl rx) (λL j=>?_)))
  have f:∀v∈[V.str d,.str (d ++ "\n"),.str "",.str "points 1\nbase\nlengths\nforests\neven\ncut\nodd"],∃x,v = .str x/\jN 900000 140 x:=by
   simp only[Z',q_,or_false];rintro v (rfl|rfl|rfl|rfl)
   .show 14#(e.mono 3#0 3#0)
   .show 14#((e.app c).mono 3#0 3#0)
   .show 14#(g.mono 3#0 3#0)
   .show 14#(i.mono 3#0 3#0)
  have u:=l.trans (ai.new (o:=.lst [V.str d,.str (d ++ "\n"),.str "",.str "points 1\nbase\nlengths\nforests\neven\ncut\nodd"]) j);have c:η Z L (.lst [V.str d,.str (d ++ "\n"),.str "",.str "points 1\nbase\nlengths\nforests\neven\ncut\nodd"]) L=1#([V.str d,.str (d ++ "\n"),.str "",.str "points 1\nbase\nlengths\nforests\neven\ncut\nodd"]):=aa;generalize η Z L (.lst [V.str d,.str (d ++ "\n"),.str "",.str "points 1\nbase\nlengths\nforests\neven\ncut\nodd"])=w at u c;generalize [V.str d,.str (d ++ "\n"),.str "",.str "points 1\nbase\nlengths\nforests\neven\ncut\nodd"]=G at f c;show av L rfl 29#c (iX (K:=K) (a:=L) (xs:=G) (λi M g=>∃D,M=[240#0,304#0,303#0,some (.str d),D,none,none]/\ai H g/\ai w g) (av none rfl u 186#0) (by intro i M g _;show aG λ_ _ _ z=>?_;show aK.of (z _ _ c)) ?_ ?_)
  .intro i x Y M g O;show aG λD q c m=>?_;subst q
   show aj (λy U X=>?_) (f x (iu O));subst U
   show 14#(j3 y rx (c _ _ h) (c _ _ A) X (λt f=>28#(cZ ?_)))
   show 146#⟨c.trans f,m.trans f⟩
  .intro M g;show aG λD j c _=>?_;subst j
   have g:48#(k.map V.int)=k.length:=Δ ..;show 14#(aV b _ rx (aR (.inl (c.seq s)) _ _ rx ?_));show 14#(bj (by rw[g];split<;>lia) (by rw[g];split<;>lia) ?_)
   obtain⟨m,j,l⟩:∃m:Nat,(if(10:Int)<(48#(k.map V.int):Int) then(10:Int) else(48#(k.map V.int):Int)).toNat=m/\m<=k.length:=124#(by rw[g];split<;>lia)
   show oO (lo:=0) (n:=_) (λi M t=>∃D y X,M=[240#0,304#0,303#0,some (.str d),D,y,X]/\ai H t) (bN _ _ _ rx c) ?_ ?_
   .intro i U M t Y;show cK λD y X c f=>?_;subst c
    rw[j]at Y;rw[k?];have g:vW (k.map V.int) (i:Int)=8#(k.getD i 0):=aE (uU (by lia))
    show(0#14#(bH b _ _ _ rx rx (f.seq s) g (gB _ rx d (bH _ _ _ _ rx e 3#0 3#0 λi c j O=>?_))))
    have c:=f.trans j;show 14#(j3 i rx (c _ _ h) (c _ _ A) (O.mono 3#0 3#0) (λq e=>28#(cZ ?_)))
    have d:=c.trans e;show(0#14#(bH b _ _ _ rx rx (d.seq s) g (bh _ _ rx rx 54#0 28#(bT ⟨i,(bH _ _ _ _ rx O 3#0 3#0 λj k e c=>?_)⟩))))
    have b:=d.trans e;show j3 j rx (b _ _ h) (b _ _ A) (c.mono 3#0 3#0) λe d=>14#(cZ (bN _ _ _ rx (b.trans d)))
   .intro M t;show cK λD y X O f=>?_;subst O
    show E _
end
section
variable {l:PySem.W.OpenLaw}{w:World}{K:bY}{h:Heap}{mg:Bg}{fa f0 f1 f2 f3 f4 f5 f6 f7 f8 f9 f10 f11 f12 f13 f14 f15 f16 f17 f18 f19 f20 f21 f22 f23 f24 f25 f26 f27 f28 f29 f30 f31 f32 f33 f34 f35 f36 f37 f38 f39 f40 f41 f42 f43 f44 f45 f46 f47 f48 f49 f50 f51 f52 f53 f54 f55 f56 f57 f58 f59 Y3 f61 f62 f63 f64 f65 f66 f67 f68 f69 f70 f71 Y4 Y5 Y6 Y7 Y8 Y9 Za f79 f80 f81 f82 f83 f84 f85 f86 f87 f88 f89 f90 f91 Zb Zc dw lY rW qd sR n8 rX rY sS rZ vK bf bJ vL ie tJ gy:Addr}{d0 d1 d2 d3 d4 d5 d6 d7 d8 d9 d10 d11 d12 d13 d14 d15 d16 d17 d18 d19 d20 d21 d22 d23 d24 d25 d26 d27 d28 d29 d30 d31 d32 d33 d34 d35 d36 d37 d38 d39 d40 d41 d42 d43 d44 d45 d46 d47 d48 d49 d50 d51 d52 d53 d54 d55 d56 d57 d58 d59 d60 d61 d62 d63 d64 d65 d66 d67 d68 d69 d70 d71 d72 d73 d74 d75 d76 d77 d78 d79 d80 d81 d82 d83 d84 d85 d86 d87 d88 d89 d90 d91 d92 d93:FuncData}{ts:183#0}{Ce H9 OC A7 OD:Tok}
open PySem.W
def all_mk(X:K.In h)(G:73#mg)(b:mg "law"=20#fa)(U:ts=[gy,ie])
 (d_RingError:nsIn K mainGlobals "RingError"=some (20#dw))
 (d_BadWeb:nsIn K mainGlobals "BadWeb"=some (20#lY))
 (t:nsIn K mainGlobals "BadSet"=some (20#rW))
 (d_BadPoint:nsIn K mainGlobals "BadPoint"=some (20#qd))
 (d_NotRing:nsIn K mainGlobals "NotRing"=some (20#sR))
 (d_NoChord:nsIn K mainGlobals "NoChord"=some (20#n8))
 (d_NoBase:nsIn K mainGlobals "NoBase"=some (20#rX))
 (d_NoSuch:nsIn K mainGlobals "NoSuch"=some (20#rY))
 (d_TooMany:nsIn K mainGlobals "TooMany"=some (20#sS))
 (O:nsIn K mainGlobals "BadRow"=some (20#rZ))
 (d_NoDeed:nsIn K mainGlobals "NoDeed"=some (20#vK))
 (d_NotEven:nsIn K mainGlobals "NotEven"=some (20#bf))
 (d_NoText:nsIn K mainGlobals "NoText"=some (20#bJ))
 (xc_BadSet:excIn K rW uK "ValueError.__new__"=true)
 (xc_NoChord:excIn K n8 uK "ValueError.__new__"=true)
 (xc_NoBase:excIn K rX uK "ValueError.__new__"=true)
 (xc_BadWeb:excIn K lY uK "ValueError.__new__"=true)
 (xc_BadRow:excIn K rZ uK "ValueError.__new__"=true)
 (xc_NoSuch:excIn K rY uK "ValueError.__new__"=true)
 (ea_NotEven:findIn K (.ref bf) "__getattribute__"=86#(.builtin "BaseException.__getattribute__")) (eb_NotEven:findIn K (.ref bf) "__getattr__"=some none)
 (ec_NotEven:findIn K (.ref bf) "__class__"=86#(.builtin "object.__class__")) (ed_NotEven:specialIn K (.builtin "object.__class__") "__get__"=86#(.builtin "getset_descriptor.__get__"))
 (ee_NotEven:228#(takesIn K (.builtin "object.__class__"))) (ef_NotEven:228#(mroIn K bf (.type "object"))) (eg_NotEven:hasDictIn K bf=true) (eh_NotEven:228#(mroIn K bf (.type "BaseException")))
 (hx_NotEven:228#(exmOne K (.ref bf) (.ref dw)))
 (qv_NotEven:228#(kitOne K (.ref bf) (.type "ValueError")))
 (q_NotEven_BadWeb:107#(.ref lY))
 (q_NotEven_BadSet:107#(.ref rW))
 (q_NotEven_BadPoint:107#(.ref qd))
 (q_NotEven_NotRing:107#(.ref sR))
 (q_NotEven_NoChord:107#(.ref n8))
 (q_NotEven_NoBase:107#(.ref rX))
 (q_NotEven_NoSuch:107#(.ref rY))
 (q_NotEven_TooMany:107#(.ref sS))
 (q_NotEven_BadRow:107#(.ref rZ))
 (q_NotEven_NoDeed:107#(.ref vK))
 (q_NotEven_NotEven:228#(kitOne K (.ref bf) (.ref bf)))
 (q_NotEven_NoText:107#(.ref bJ))
 (ea_NoText:findIn K (.ref bJ) "__getattribute__"=86#(.builtin "BaseException.__getattribute__")) (eb_NoText:findIn K (.ref bJ) "__getattr__"=some none)
 (ec_NoText:findIn K (.ref bJ) "__class__"=86#(.builtin "object.__class__")) (ed_NoText:specialIn K (.builtin "object.__class__") "__get__"=86#(.builtin "getset_descriptor.__get__"))
 (ee_NoText:228#(takesIn K (.builtin "object.__class__"))) (ef_NoText:228#(mroIn K bJ (.type "object"))) (eg_NoText:hasDictIn K bJ=true) (eh_NoText:228#(mroIn K bJ (.type "BaseException")))
 (hx_NoText:228#(exmOne K (.ref bJ) (.ref dw)))
 (qv_NoText:228#(kitOne K (.ref bJ) (.type "ValueError")))
 (q_NoText_BadWeb:108#(.ref lY))
 (q_NoText_BadSet:108#(.ref rW))
 (q_NoText_BadPoint:108#(.ref qd))
 (q_NoText_NotRing:108#(.ref sR))
 (q_NoText_NoChord:108#(.ref n8))
 (q_NoText_NoBase:108#(.ref rX))
 (q_NoText_NoSuch:108#(.ref rY))
 (q_NoText_TooMany:108#(.ref sS))
 (q_NoText_BadRow:108#(.ref rZ))
 (q_NoText_NoDeed:108#(.ref vK))
 (q_NoText_NotEven:108#(.ref bf))
 (q_NoText_NoText:228#(kitOne K (.ref bJ) (.ref bJ)))
 (xc_RingError:excIn K dw uK "ValueError.__new__"=true)
 {oc kV a z cd ct r:Value} {W M u:129#0} {e Sv:165#0} {T:Addr} {F:Tok} {y:Nat}
 (fn:nsIn K mainGlobals "heights_of"=some (20#Y3)) (fl:K.lookup Y3=some ⟨oc,W,.func (fnOf "heights_of" "heights_of" (eZ h8) (cQ h8) (aU h8) (.ref T) kV a z M cd ct),e⟩) (ft:K.lookup T=some ⟨r,u,.seq #[.int 0 F] y,Sv⟩) (fc:codeIn K cd "heights_of"=true) (fk:keepIn K (.ref Y3)=true)
 {Ia KN:Str} {KO:Addr} {Ib Fl:82#0} {Ic Ie:Bool} {Ig:List Str} {Fo:Option Bool} {Ih:129#0} {Ii Ij Ik Il Im:Option Value}
 (xi_NotEven:findIn K (.ref bf) "__init__"=some (20#Zb)) (xb_NotEven:isFn K (.ref Zb)=true) (L:IT K "__init__" "NotEven.__init__" lK Zb d92)
 (xo_NotEven:K.lookup bf=some (excClassObj Ia KN bf KO Ib (.ref dw::uK) Ic Ig Fl Ie Fo Ih Ii Ij Ik Il Im "ValueError.__new__")) (xk_NotEven:keepIn K (.ref bf)=true)
 (xs_NotEven:findIn K (.ref bf) "__setattr__"=86#(.builtin "object.__setattr__")) (xt_NotEven:takerIn K bf "point"=some none) (xd_NotEven:hasDictIn K bf=true) (xf_NotEven:findIn K (.ref bf) "point"=some none)
 (xr_NotEven:readsIn K dw (.type "type")=true) (xj_NotEven:findCls K (.ref dw) (.type "type") "__init__"=some (.val (.builtin "ValueError.__init__"))) (xg_NotEven:specialIn K (.ref dw) "__getattribute__"=86#(.builtin "type.__getattribute__"))
 {KP OE:Str} {OF:Addr} {KQ Io:82#0} {KR KS:Bool} {KU:List Str} {Ip:Option Bool} {KW:129#0} {KY KZ K0 K1 K2:Option Value}
 (xi_NoText:findIn K (.ref bJ) "__init__"=some (20#Zc)) (xb_NoText:isFn K (.ref Zc)=true) (P:IT K "__init__" "NoText.__init__" nh Zc d93)
 (xo_NoText:K.lookup bJ=some (excClassObj KP OE bJ OF KQ (.ref dw::uK) KR KU Io KS Ip KW KY KZ K0 K1 K2 "ValueError.__new__")) (xk_NoText:keepIn K (.ref bJ)=true)
 (xs_NoText:findIn K (.ref bJ) "__setattr__"=86#(.builtin "object.__setattr__")) (xt_NoText:takerIn K bJ "row"=some none) (xd_NoText:hasDictIn K bJ=true) (xf_NoText:findIn K (.ref bJ) "row"=some none)
 (xr_NoText:readsIn K dw (.type "type")=true) (xj_NoText:findCls K (.ref dw) (.type "type") "__init__"=some (.val (.builtin "ValueError.__init__"))) (xg_NoText:specialIn K (.ref dw) "__getattribute__"=86#(.builtin "type.__getattribute__"))
 (nt:noTabs K=true) (pn:([ie,gy]:183#0).Nodup) (pi:∀p∈([ie,gy]:183#0),p∈ts)
 (a0:Dk K "made_web" tX f0 d0)
 (D:Dk K "made_tie" tY f1 d1)
 (k:Dk K "has_tie" wG f2 d2)
 (N:Dk K "ties_in" wH f3 d3)
 (o:Dk K "set_of" z5 f4 d4)
 (m:Dk K "all_ties" tZ f5 d5)
 (j:Dk K "is_set" z6 f6 d6)
 (i:Dk K "check_set" qQ f7 d7)
 (d:Dk K "triples_in" oY f8 d8)
 (q:Dk K "length_of" qR f9 d9)
 (x:Dk K "odd_points" oZ f10 d10)
 (B:Dk K "drawn_together" jw f11 d11)
 (A:Dk K "pieces" z7 f12 d12)
 (a13:Dk K "rank" JI f13 d13)
 (a14:Dk K "is_even" wI f14 d14)
 (a15:Dk K "check_even" o4 f15 d15)
 (a16:Dk K "forest_trails" kr f16 d16)
 (a17:Dk K "forest" z8 f17 d17)
 (a18:Dk K "chords" z9 f18 d18)
 (a19:Dk K "ring_closed" mZ f19 d19)
 (a20:Dk K "chord_ring" o5 f20 d20)
 (a21:Dk K "is_ring" wK f21 d21)
 (a22:Dk K "is_ring_number" jx f22 d22)
 (a23:VZ K "by_length" qT f23 d23 vL ie)
 (a24:Dk K "tie_at" Aa f24 d24)
 (a25:Dk K "far_end" wL f25 d25)
 (a26:Dk K "ring_within" m3 f26 d26)
 (a27:Dk K "parted" Ad f27 d27)
 (a28:Dk K "common" Ae f28 d28)
 (a29:Dk K "bears_oddly" m4 f29 d29)
 (a30:Dk K "is_side" wM f30 d30)
 (a31:Dk K "cut_of" Ag f31 d31)
 (a32:Dk K "side_of" wN f32 d32)
 (a33:Dk K "steps_by_point" jy f33 d33)
 (Z:VZ K "least_ways" o7 f34 d34 tJ gy)
 (a35:Dk K "length_of_way" ku f35 d35)
 (a36:Dk K "worths_of_ways" jz f36 d36)
 (a37:Dk K "all_least_ways" jA f37 d37)
 (a38:Dk K "worths_of_all" kA f38 d38)
 (a39:Dk K "worths_for" o8 f39 d39)
 (a40:Dk K "least_odd" qU f40 d40)
 (a41:Dk K "reduced" wQ f41 d41)
 (a42:Dk K "with_row" t7 f42 d42)
 (a43:Dk K "rows_of" wR f43 d43)
 (a44:Dk K "is_base" wU f44 d44)
 (a45:Dk K "marks_for" qW f45 d45)
 (a46:Dk K "least_rings" m5 f46 d46)
 (a47:Dk K "least_base" o9 f47 d47)
 (a48:Dk K "lengths" wW f48 d48)
 (a49:Dk K "row_to_lead" m6 f49 d49)
 (a50:Dk K "row_cleared" m7 f50 d50)
 (a51:Dk K "determinant" m8 f51 d51)
 (a52:Dk K "ties_between" lF f52 d52)
 (a53:Dk K "points_table" lG f53 d53)
 (a54:Dk K "forest_many" m9 f54 d54)
 (a55:Dk K "check_row" q4 f55 d55)
 (a56:Dk K "check_rest" pe f56 d56)
 (a57:Dk K "is_nought" q5 f57 d57)
 (a58:Dk K "ties_amiss" pA f58 d58)
 (a59:Dk K "forest_heights" jC f59 d59)
 (a61:Dk K "row_text" t8 f61 d61)
 (a62:Dk K "is_number" q6 f62 d62)
 (a63:Dk K "is_signed" q7 f63 d63)
 (a64:Dk K "numbers_read" lH f64 d64)
 (a65:Dk K "web_grown" q8 f65 d65)
 (a66:Dk K "ascend_below" lI f66 d66)
 (a67:Dk K "ties_asked" pB f67 d67)
 (a68:Dk K "heights_asked" kD f68 d68)
 (a69:Dk K "asked_by" t9 f69 d69)
 (a70:Dk K "read_page" q9 f70 d70)
 (a71:Dk K "ring_text" rf f71 d71)
 (a72:Dk K "lengths_row" nc Y4 d72)
 (a73:Dk K "base_row" ua Y5 d73)
 (a74:Dk K "even_row" uc Y6 d74)
 (a75:Dk K "cut_row" wY Y7 d75)
 (a76:Dk K "odd_row" wZ Y8 d76)
 (a77:Dk K "heights_row" nf Y9 d77)
 (a78:Dk K "forests_row" ng Za d78)
 (a79:Dk K "answered" ud f79 d79)
 (a80:Dk K "_law_cell" ue f80 d80)
 (a81:Dk K "_law_stir" uf f81 d81)
 (a82:Dk K "_law_tie" w4 f82 d82)
 (a83:Dk K "_law_web" w5 f83 d83)
 (a84:Dk K "_law_row_of" jh f84 d84)
 (a85:Dk K "_law_page" ug f85 d85)
 (a86:Dk K "_law_text" uh f86 d86)
 (a87:Dk K "_law_row_of_refusal" gO f87 d87)
 (a88:Dk K "_law_asked" rm f88 d88)
 (a89:Dk K "_law_put" w6 f89 d89)
 (a90:Dk K "_law_fine" um f90 d90)
 (E:Dk K "law" Ra f91 d91)
 (Fp:Ng K "ValueError")
 (Yw:Ng K "all")
 (Iq:Ng K "enumerate")
 (Yx:Ng K "int")
 (Fq:Ng K "isinstance")
 (Yy:Ng K "len")
 (WC:Ng K "list")
 (Yz:Ng K "max")
 (YA:Ng K "min")
 (Ue:Ng K "range")
 (R3:Ng K "sorted")
 (YB:Ng K "str")
 (YC:Ng K "sum")
 (Ug:Ng K "tuple")
 (YD:Ng K "zip")
 (Cf:nsIn K mainGlobals "MOST_POINTS"=86#(.int 10 Ce))
 (Ir:nsIn K mainGlobals "MOST_TIES"=86#(.int 24 H9))
 (OG:nsIn K mainGlobals "LONGEST"=86#(.int 1000000000000000000000000000000 OC))
 (A8:nsIn K mainGlobals "MOST_FIGURES"=86#(.int 60 A7))
 (OH:nsIn K mainGlobals "FIGURES"=86#(.str "0123456789" OD))
 {I:Addr} {g:129#0} {R:Nat} {Cg:165#0} {A9 Ba Bb:Tok}
 (y_BARE_WORDS:nsIn K mainGlobals "BARE_WORDS"=86#(.ref I))
 (yl_BARE_WORDS:K.lookup I=some ⟨.type "tuple",g,.seq #[.str "lengths" A9,.str "base" Ba,.str "forests" Bb] R,Cg⟩)
 {J:Addr} {C:129#0} {Ci:Nat} {Cj:165#0} {Bc Bd Be:Tok}
 (y_TIES_WORDS:nsIn K mainGlobals "TIES_WORDS"=86#(.ref J))
 (yl_TIES_WORDS:K.lookup J=some ⟨.type "tuple",C,.seq #[.str "even" Bc,.str "cut" Bd,.str "odd" Be] Ci,Cj⟩)
 {H:Addr} {Uh:Nat} {Iu S Y Iv Iw Iz IA:Tok}
 (y_ROWS:nsIn K mainGlobals "ROWS"=86#(.ref H))
 (yl_ROWS:K.lookup H=some ⟨.type "dict",none,.dict #[⟨PyData.keyHash w.params "lengths",.str "lengths" Iu,.ref Y4⟩,⟨PyData.keyHash w.params "base",.str "base" S,.ref Y5⟩,⟨PyData.keyHash w.params "even",.str "even" Y,.ref Y6⟩,⟨PyData.keyHash w.params "cut",.str "cut" Iv,.ref Y7⟩,⟨PyData.keyHash w.params "odd",.str "odd" Iw,.ref Y8⟩,⟨PyData.keyHash w.params "heights",.str "heights" Iz,.ref Y9⟩,⟨PyData.keyHash w.params "forests",.str "forests" IA,.ref Za⟩] Uh,#[]⟩)
 (hy_BadWeb:228#(exmOne K (.ref lY) (.ref lY)))
 (hy_NotEven:228#(exmOne K (.ref bf) (.ref bf)))
 : ∃(n:FuncData) (Q:Jz),((Q.map (·.1)).Nodup/\noTabs K=true/\∀p∈Q,p.1∈ts/\∃c,codeHdIn K c p.1=true)/\(∀(s:Shared) (v:Value),BindsTo s n ⟨[v],[]⟩ [("script",v)])/\∀base:Heap,K.In base->base.Ns mainGlobals mg->i5 l.prog w K mg base uQ 16 fa n ["script"] (Fj K Q):=by
 have e:=b.symm.trans (F! X G E.n);cases e;have T:∀base,Txt l.prog w base K mg ⟨f0,_,f1,_,f2,_,f3,_,f4,_,f5,_,f6,_,f7,_,f8,_,f9,_,f10,_,f11,_,f12,_,f13,_,f14,_,f15,_,f16,_,f17,_,f18,_,f19,_,f20,_,f21,_,f22,_,f23,_,f24,_,f25,_,f26,_,f27,_,f28,_,f29,_,f30,_,f31,_,f32,_,f33,_,f34,_,f35,_,f36,_,f37,_,f38,_,f39,_,f40,_,f41,_,f42,_,f43,_,f44,_,f45,_,f46,_,f47,_,f48,_,f49,_,f50,_,f51,_,f52,_,f53,_,f54,_,f55,_,f56,_,f57,_,f58,_,f59,_,Y3,_,f61,_,f62,_,f63,_,f64,_,f65,_,f66,_,f67,_,f68,_,f69,_,f70,_,f71,_,Y4,_,Y5,_,Y6,_,Y7,_,Y8,_,Y9,_,Za,_,f79,_,f80,_,f81,_,f82,_,f83,_,f84,_,f85,_,f86,_,f87,_,f88,_,f89,_,f90,_,fa,_,Zb,_,Zc,_,F,dw,lY,rW,qd,sR,n8,rX,rY,sS,rZ,vK,bf,bJ,I,J,H,vL,ie,tJ,gy⟩:=λ_=>⟨j8 X G a0,j8 X G D,j8 X G k,yg X G N,j8 X G o,yg X G m,j8 X G j,j8 X G i,j8 X G d,j8 X G q,j8 X G x,UC X G B,j8 X G A,yg X G a13,j8 X G a14,j8 X G a15,yg X G a16,yg X G a17,yg X G a18,UC X G a19,j8 X G a20,j8 X G a21,j8 X G a22,dl2 X G a23,UC X G a24,UC X G a25,j8 X G a26,j8 X G a27,j8 X G a28,j8 X G a29,j8 X G a30,j8 X G a31,j8 X G a32,j8 X G a33,dl3 X G Z,yg X G a35,yg X G a36,j8 X G a37,yg X G a38,j8 X G a39,j8 X G a40,j8 X G a41,j8 X G a42,yg X G a43,j8 X G a44,j8 X G a45,yg X G a46,yg X G a47,yg X G a48,j8 X G a49,dn4 X G a50,yg X G a51,UC X G a52,yg X G a53,yg X G a54,j8 X G a55,yg X G a56,j8 X G a57,dn4 X G a58,j8 X G a59,S1 (st:=h8) (ds:=[.int 0 F]) fl fc fk ft,F! X G fn,λs g a C=>by rw[H?]at C ⊢;obtain⟨_,_,_,rfl⟩:=Pp g C;show binds_K a rfl ft rfl rfl rfl,j8 X G a61,yg X G a62,yg X G a63,yg X G a64,j8 X G a65,j8 X G a66,j8 X G a67,j8 X G a68,j8 X G a69,yg X G a70,yg X G a71,j8 X G a72,j8 X G a73,j8 X G a74,j8 X G a75,j8 X G a76,j8 X G a77,j8 X G a78,yg X G a79,j8 X G a80,j8 X G a81,UC X G a82,j8 X G a83,UC X G a84,j8 X G a85,j8 X G a86,yg X G a87,j8 X G a88,UC X G a89,yg X G a90,yg X G E,L,⟨⟨_,_,_,_,_,_,_,_,_,_,_,_,_,_,_,xo_NotEven⟩,xi_NotEven,xb_NotEven,xk_NotEven,xs_NotEven,xt_NotEven,xd_NotEven,xf_NotEven,xr_NotEven,xj_NotEven,xg_NotEven⟩,L.binds (λ_ _ _ _ _ _ g C=>by obtain⟨_,_,_,rfl⟩:=Pp g C;rfl),P,⟨⟨_,_,_,_,_,_,_,_,_,_,_,_,_,_,_,xo_NoText⟩,xi_NoText,xb_NoText,xk_NoText,xs_NoText,xt_NoText,xd_NoText,xf_NoText,xr_NoText,xj_NoText,xg_NoText⟩,P.binds (λ_ _ _ _ _ _ g C=>by obtain⟨_,_,_,rfl⟩:=Pp g C;rfl),Z! X G Fp.n,Z! X G Yw.n,Z! X G Iq.n,Z! X G Yx.n,Z! X G Fq.n,Z! X G Yy.n,Z! X G WC.n,Z! X G Yz.n,Z! X G YA.n,Z! X G Ue.n,Z! X G R3.n,Z! X G YB.n,Z! X G YC.n,Z! X G Ug.n,Z! X G YD.n,⟨_,F! X G Cf⟩,⟨_,F! X G Ir⟩,⟨_,F! X G OG⟩,⟨_,F! X G A8⟩,⟨_,F! X G OH⟩,F! X G y_BARE_WORDS,λ_=>.inr ⟨_,_,_,yl_BARE_WORDS,rfl,rfl,(by change 3<=_;decide),.cons 234#0 (.cons 234#0 (.cons 234#0 (.nil)))⟩,F! X G y_TIES_WORDS,λ_=>.inr ⟨_,_,_,yl_TIES_WORDS,rfl,rfl,(by change 3<=_;decide),.cons 234#0 (.cons 234#0 (.cons 234#0 (.nil)))⟩,F! X G y_ROWS,Q0 (l:=[("lengths",Iu,Y4),("base",S,Y5),("even",Y,Y6),("cut",Iv,Y7),("odd",Iw,Y8),("heights",Iz,Y9),("forests",IA,Za)]) yl_ROWS (jn ["lengths","base","even","cut","odd","heights","forests"]),F! X G d_RingError,F! X G d_BadWeb,F! X G t,F! X G d_BadPoint,F! X G d_NotRing,F! X G d_NoChord,F! X G d_NoBase,F! X G d_NoSuch,F! X G d_TooMany,F! X G O,F! X G d_NoDeed,F! X G d_NotEven,F! X G d_NoText,λR a b=>tP a b t xc_BadSet,λR a b=>tP a b d_NoChord xc_NoChord,λR a b=>tP a b d_NoBase xc_NoBase,λR a b=>tP a b d_BadWeb xc_BadWeb,λR a b=>tP a b O xc_BadRow,λR a b=>tP a b d_NoSuch xc_NoSuch,⟨ea_NotEven,eb_NotEven,ec_NotEven,ed_NotEven,ee_NotEven,ef_NotEven,eh_NotEven,Po eg_NotEven⟩,hx_NotEven,qv_NotEven,q_NotEven_BadWeb,q_NotEven_BadSet,q_NotEven_BadPoint,q_NotEven_NotRing,q_NotEven_NoChord,q_NotEven_NoBase,q_NotEven_NoSuch,q_NotEven_TooMany,q_NotEven_BadRow,q_NotEven_NoDeed,q_NotEven_NotEven,q_NotEven_NoText,⟨ea_NoText,eb_NoText,ec_NoText,ed_NoText,ee_NoText,ef_NoText,eh_NoText,Po eg_NoText⟩,hx_NoText,qv_NoText,q_NoText_BadWeb,q_NoText_BadSet,q_NoText_BadPoint,q_NoText_NotRing,q_NoText_NoChord,q_NoText_NoBase,q_NoText_NoSuch,q_NoText_TooMany,q_NoText_BadRow,q_NoText_NoDeed,q_NoText_NotEven,q_NoText_NoText,λR a b=>tP a b d_RingError xc_RingError,hy_BadWeb,hy_NotEven⟩
 show⟨_,[(ie,kK "by_length",cL),(gy,kK "least_ways",aX)],⟨pn,nt,λp t=>⟨pi _ (V_ (f:=(·.1)) t),by simp only[Z',q_,or_false]at t;rcases t with rfl | rfl;all_goals first | show⟨_,a23.F.hd⟩ | show⟨_,Z.F.hd⟩⟩⟩,V0 E,λbase _ _=>Yv (T base)⟩
end
def walk{l:PySem.W.OpenLaw}{q:Program}{I:List Str}{X:(Str->Option Value)->Heap->Prop}{A:World->Heap->Prop}{d:DefRec}{K:Params->bY}{ts:183#0}(S:l.most=some 63)(D:d.params.defaults=[])
 (T:∀(w:World) (h:Heap),A w h->(289#0).In h/\∀P∈ts,h.get? P=some (PySem.W.tabObj #[]))
 (F:∀(w:World) (mg:Bg) (E:Addr) (h:Heap),(289#0).In h->73#mg->mg d.name=some (.ref E)->
  ∃(b:FuncData) (Q:Jz),((Q.map (·.1)).Nodup/\PySem.W.noTabs 289#0=true/\∀p∈Q,p.1∈ts/\∃c,PySem.W.codeHdIn 289#0 c p.1=true)/\(∀(s:Shared) (u:Value),BindsTo s b ⟨[u],[]⟩ [("script",u)])/\∀base:Heap,(289#0).In base->base.Ns mainGlobals mg->i5 l.prog w 289#0 mg base uQ 16 E b ["script"] (Fj 289#0 Q)) :
 PySem.W.WalkO q I X A l.row.toRowW d [] (λf G=>PySem.call f G) :=
 L2.QU (n:=63) (k:=16) (x:="script") (CX:=λ_=>uQ) (sp:=λw=>Fj 289#0) S 3#0 D ⟨rfl,by decide,by decide⟩ T F (λ_ _ a e Q C t R=>⟨a,e,rfl,R,C,t,λ_=>rfl⟩) λ_ _ _ _ _ z=>z
end K62
namespace PySem.W.Fast
def tw8187969186083526770:=()
def tw3337330412903560176:=()
def tw780209045501938457:=()
def tw11714610742822640643:=()
def tw1069539588734307405:=()
def tw10490728527983322619:=()
def tw7408807768587355285:=()
def tw8024064647866442469:=()
def tw17361476531528522443:=()
def tw14542567494058118684:=()
def tw17681189268870086483:=()
def tw11719998013861154205:=()
def tw15661205066360836266:=()
def tw1007379050071645202:=()
def tw995705868382218098:=()
def tw6744190676516168354:=()
def tw15130278717412419208:=()
def tw18120021919910725801:=()
def tw16284322579607419131:=()
def tw8850731156922737236:=()
def tw11691360780718559012:=()
def tw14301145811587214998:=()
def tw17046979015726850193:=()
def tw2933074772420221280:=()
def tw7651264647471745274:=()
def tw10924743018303465279:=()
def tw3707889170720391370:=()
def tw10812572198555803382:=()
def tw12642699203819294353:=()
def tw14934003263038242955:=()
def tw4357155477132072114:=()
def tw1314751958296180890:=()
def tw5302291132468866148:=()
def tw12896852225022465550:=()
def tw634650784424223622:=()
def tw764620833103098603:=()
def tw10915838694419536318:=()
def tw13463294662647999962:=()
def tw12042090109368557209:=()
def tw1031609255741777057:=()
def tw742746032904680717:=()
def tw6123598930161609852:=()
def tw2756572114578198878:=()
def tw11820287534411754440:=()
def tw2043201078140162592:=()
def tw7751944461032126363:=()
def tw6274570063419305785:=()
def tw2124649494020699491:=()
def tw630585735458857972:=()
def tw2925678690844733792:=()
def tw5138976525014479824:=()
def tw13690757931115737382:=()
def tw14556636005131662066:=()
def tw13807155037381644142:=()
def tw5792809366230105322:=()
def tw14941563207122398152:=()
def tw13983856249060651070:=()
def tw17881488454589748873:=()
def tw13725620385021950820:=()
def tw4924678921495365130:=()
def tw3741252928924949002:=()
def tw1097495220764765303:=()
def tw9055061332005924681:=()
def tw2881731005089912788:=()
def tw11821881543134840330:=()
def tw13212478895599666710:=()
def tw14195533591505961326:=()
def tw11159805444171780256:=()
def tw5135911825901362232:=()
def tw8989177181511389807:=()
def tw9766727870272431527:=()
def tw636239998316428276:=()
def tw6251455392325604613:=()
def tw3186422005521226302:=()
def tw6096720029391389028:=()
def tw470241352685587742:=()
def tw18253784472522157424:=()
def tw15505146739371644187:=()
def tw13411135125096179196:=()
def tw4632991568620157502:=()
def tw9360329555400150449:=()
def tw12985867603038326403:=()
def tw1024010259304213358:=()
def tw13347610614721094520:=()
def tw16381058531838269675:=()
def tw7352829998025001704:=()
def tw12382371816815239571:=()
def tw3022240789614695004:=()
def tw13161424351544397414:=()
def tw14130546494533097379:=()
def tw1078119257491612111:=()
def tw7249531697953648011:=()
def tw3860596356260216376:=()
def tw14423683168089074862:=()
def tw12917804109072103079:=()
def tw15002042215079740029:=()
def tw17735779129962344084:=()
def tw6742114206561082403:=()
def tw15661894843822596185:=()
def tw2887492236340546303:=()
def tw10127384709404794547:=()
def tw757743630937652806:=()
def tw7452813149089432776:=()
def tw16937713713948529203:=()
def tw10263279913728052359:=()
def tw18429830322803630735:=()
def tw3038282617145231349:=()
def tw4025969547444829039:=()
def tw2630418572178480155:=()
def tw573265547763173831:=()
def tw3016788466459357849:=()
def tw8596828077180210201:=()
def tw9260364247978822426:=()
def tw15197916335591780953:=()
def tw5971280358710819842:=()
def tw6704327071114261834:=()
def tw13529470910985456213:=()
def tw8590816070996537378:=()
def tw8327235559526529596:=()
def tw6487474673628867449:=()
def tw5124844646979767699:=()
def tw14057148286965294303:=()
def tw1857299926880680006:=()
def tw17099859849353348706:=()
def tw10407719321026913881:=()
def tw2670329482538534321:=()
def tw15735212315707298287:=()
def tw453467708760882854:=()
def tw6883570030186642057:=()
def tw4162139440382937452:=()
def tw16653216892744995461:=()
def tw12329956029595186892:=()
def tw10637789099086695389:=()
def tw1017988151533038642:=()
def tw9424831154560368901:=()
def tw6779282955163595395:=()
def tw10531521744630638257:=()
def tw18371491592352686174:=()
def tw13552731507517399409:=()
def tw12106875324904331015:=()
def tw103715544850674099:=()
def tw15996866884478514942:=()
def tw10636879994853182740:=()
def tw5574979385718435759:=()
def tw4391998485315505015:=()
def tw10775808050290741017:=()
def tw7586229386234819141:=()
def tw10253860783908107693:=()
def tw12202234185651838561:=()
def tw2591118315554356779:=()
def tw1738083521370160994:=()
def tw14903060946845463032:=()
def tw16781198338063813267:=()
def tw14160168932867898948:=()
def tw12098862802002489592:=()
def tw9622241754068733347:=()
def tw2107164393224750612:=()
def tw7479369830741828851:=()
def tw17548874223273563180:=()
def tw1262279018619221835:=()
def tw346803112493749213:=()
def tw16682524760549483857:=()
def tw4413463278131629252:=()
def tw18113724253995392210:=()
def tw2627559598667519443:=()
def tw7971596238105135638:=()
def tw7899500585904511264:=()
def tw12899347540013359475:=()
def tw8717872059991517811:=()
end PySem.W.Fast
open PySem PySem.W PyProof.Rows
set_option maxRecDepth 100000 in
set_option maxHeartbeats 0 in
theorem PySem.Challenge.cw_ringbase_k62_answers_refused_holds : PySem.Challenge.rw_ringbase_k62_answers_refused.Holds := by
 w_on;o_law;k_head;(case hw=>w_witness2)
 k_fill
 refine K62.walk (l:=PySem.Challenge.rw_ringbase_k62_answers_refused) rfl rfl (fun w h Y=>⟨PySem.W.km_in_of Y,PySem.W.km_tabs_of Y⟩) ?F
 case F =>
  intro w mg fa h KX G hmg;refine' K62.all_mk KX G hmg ?te ?d_RingError ?d_BadWeb ?d_BadSet ?d_BadPoint ?d_NotRing ?d_NoChord ?d_NoBase ?d_NoSuch ?d_TooMany ?d_BadRow ?d_NoDeed ?d_NotEven ?d_NoText ?xc_BadSet ?xc_NoChord ?xc_NoBase ?xc_BadWeb ?xc_BadRow ?xc_NoSuch ?ea_NotEven ?eb_NotEven ?ec_NotEven ?ed_NotEven ?ee_NotEven ?ef_NotEven ?eg_NotEven ?eh_NotEven ?hx_NotEven ?qv_NotEven ?q_NotEven_BadWeb ?q_NotEven_BadSet ?q_NotEven_BadPoint ?q_NotEven_NotRing ?q_NotEven_NoChord ?q_NotEven_NoBase ?q_NotEven_NoSuch ?q_NotEven_TooMany ?q_NotEven_BadRow ?q_NotEven_NoDeed ?q_NotEven_NotEven ?q_NotEven_NoText ?ea_NoText ?eb_NoText ?ec_NoText ?ed_NoText ?ee_NoText ?ef_NoText ?eg_NoText ?eh_NoText ?hx_NoText ?qv_NoText ?q_NoText_BadWeb ?q_NoText_BadSet ?q_NoText_BadPoint ?q_NoText_NotRing ?q_NoText_NoChord ?q_NoText_NoBase ?q_NoText_NoSuch ?q_NoText_TooMany ?q_NoText_BadRow ?q_NoText_NoDeed ?q_NoText_NotEven ?q_NoText_NoText ?xc_RingError ?fn ?fl ?ft ?fc ?fk ?xi_NotEven ?xb_NotEven ?a92 ?xo_NotEven ?xk_NotEven ?xs_NotEven ?xt_NotEven ?xd_NotEven ?xf_NotEven ?xr_NotEven ?xj_NotEven ?xg_NotEven ?xi_NoText ?xb_NoText ?a93 ?xo_NoText ?xk_NoText ?xs_NoText ?xt_NoText ?xd_NoText ?xf_NoText ?xr_NoText ?xj_NoText ?xg_NoText ?nt ?pn ?pi (y_BARE_WORDS:=?y_BARE_WORDS) (yl_BARE_WORDS:=?yl_BARE_WORDS) (y_TIES_WORDS:=?y_TIES_WORDS) (yl_TIES_WORDS:=?yl_TIES_WORDS) (y_ROWS:=?y_ROWS) (yl_ROWS:=?yl_ROWS) (hy_BadWeb:=?hy_BadWeb) (hy_NotEven:=?hy_NotEven) ..
  (case te=>exact rfl)
  (case d_RingError=>k_is)
  (case d_BadWeb=>k_is)
  (case d_BadSet=>k_is)
  (case d_BadPoint=>k_is)
  (case d_NotRing=>k_is)
  (case d_NoChord=>k_is)
  (case d_NoBase=>k_is)
  (case d_NoSuch=>k_is)
  (case d_TooMany=>k_is)
  (case d_BadRow=>k_is)
  (case d_NoDeed=>k_is)
  (case d_NotEven=>k_is)
  (case d_NoText=>k_is)
  (case xi_NotEven=>k_is)
  (case xb_NotEven=>k_is)
  (case xo_NotEven=>k_is)
  (case xk_NotEven=>k_is)
  (case xs_NotEven=>k_is)
  (case xt_NotEven=>k_is)
  (case xd_NotEven=>k_is)
  (case xf_NotEven=>k_is)
  (case xr_NotEven=>k_is)
  (case xj_NotEven=>k_is)
  (case xg_NotEven=>k_is)
  (case xi_NoText=>k_is)
  (case xb_NoText=>k_is)
  (case xo_NoText=>k_is)
  (case xk_NoText=>k_is)
  (case xs_NoText=>k_is)
  (case xt_NoText=>k_is)
  (case xd_NoText=>k_is)
  (case xf_NoText=>k_is)
  (case xr_NoText=>k_is)
  (case xj_NoText=>k_is)
  (case xg_NoText=>k_is)
  (case fn=>k_is)
  (case fl=>k_is)
  (case ft=>k_is)
  (case fc=>k_is)
  (case fk=>k_is)
  (case a92=>refine' L2.IU ?gl ?gc ?gk;(case gl=>k_is);(case gc=>k_is);(case gk=>k_is))
  (case a93=>refine' L2.IU ?gl ?gc ?gk;(case gl=>k_is);(case gc=>k_is);(case gk=>k_is))
  any_goals (refine' L2.dk ?ga ?gl ?gc ?gk;(case ga=>k_is);(case gl=>k_is);(case gc=>k_is);(case gk=>k_is))
  any_goals (refine' L2.dkL ?ga ?gl ?gc ?gk ?gd;(case ga=>k_is);(case gl=>k_is);(case gd=>kernel_rfl);(case gc=>k_is);(case gk=>k_is))
  any_goals (refine' L2.Ng.mk ?ga;(case ga=>k_is))
  (case xc_BadSet=>k_exc)
  (case xc_NoChord=>k_exc)
  (case xc_NoBase=>k_exc)
  (case xc_BadWeb=>k_exc)
  (case xc_BadRow=>k_exc)
  (case xc_NoSuch=>k_exc)
  (case ea_NotEven=>k_is)
  (case eb_NotEven=>k_is)
  (case ec_NotEven=>k_is)
  (case ed_NotEven=>k_is)
  (case ee_NotEven=>k_is)
  (case ef_NotEven=>k_is)
  (case eg_NotEven=>k_is)
  (case eh_NotEven=>k_is)
  (case hx_NotEven=>kts_exm)
  (case qv_NotEven=>kit_is)
  (case q_NotEven_BadWeb=>kit_is)
  (case q_NotEven_BadSet=>kit_is)
  (case q_NotEven_BadPoint=>kit_is)
  (case q_NotEven_NotRing=>kit_is)
  (case q_NotEven_NoChord=>kit_is)
  (case q_NotEven_NoBase=>kit_is)
  (case q_NotEven_NoSuch=>kit_is)
  (case q_NotEven_TooMany=>kit_is)
  (case q_NotEven_BadRow=>kit_is)
  (case q_NotEven_NoDeed=>kit_is)
  (case q_NotEven_NotEven=>kit_is)
  (case q_NotEven_NoText=>kit_is)
  (case ea_NoText=>k_is)
  (case eb_NoText=>k_is)
  (case ec_NoText=>k_is)
  (case ed_NoText=>k_is)
  (case ee_NoText=>k_is)
  (case ef_NoText=>k_is)
  (case eg_NoText=>k_is)
  (case eh_NoText=>k_is)
  (case hx_NoText=>kts_exm)
  (case qv_NoText=>kit_is)
  (case q_NoText_BadWeb=>kit_is)
  (case q_NoText_BadSet=>kit_is)
  (case q_NoText_BadPoint=>kit_is)
  (case q_NoText_NotRing=>kit_is)
  (case q_NoText_NoChord=>kit_is)
  (case q_NoText_NoBase=>kit_is)
  (case q_NoText_NoSuch=>kit_is)
  (case q_NoText_TooMany=>kit_is)
  (case q_NoText_BadRow=>kit_is)
  (case q_NoText_NoDeed=>kit_is)
  (case q_NoText_NotEven=>kit_is)
  (case q_NoText_NoText=>kit_is)
  (case xc_RingError=>k_exc)
  (case nt=>kernel_rfl)
  (case pn=>decide)
  (case pi=>decide)
  (case y_BARE_WORDS=>k_is)
  (case yl_BARE_WORDS=>k_is)
  (case y_TIES_WORDS=>k_is)
  (case yl_TIES_WORDS=>k_is)
  (case y_ROWS=>k_is)
  (case yl_ROWS=>k_is)
  (case hy_BadWeb=>kts_exm)
  (case hy_NotEven=>kts_exm)
  any_goals k_is
