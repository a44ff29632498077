import PyProof.Rows.All
import Wide.All
import OpenK.AllK
import Wide.FinOn
import Lean
import PyProof.EqAt
import PyProof.EqKinds
import PyProof.TupleCall
import PyProof.ZipIter
import PyProof.ExcArgsOwn
import PyProof.ExcAttrAll.ValueError
import KE.KSortTup
import PySem.SetTable
import PyProof.SetNew
import PyProof.TupleKey
import PyProof.DictRoadsH
import PyProof.DictKinds
import PyProof.IsRules
import PyProof.Rows.SetFrom
import PyProof.WalksMore
import KE.KDictSum
import PyProof.Rows.CallKwBuiltin
import PyProof.MinMaxWalk
import KE.KDictOf
import PyProof.AttrMissHeap
import PyProof.AutoSeq1
import PyProof.TupleOfSeq
import PyProof.ListRange
import KE.KRevIter
import PyProof.MeetsStr
import PyProof.MeetsStr2
import PyProof.StrLawsJoin
import PyProof.StrLawsChain
import PyProof.Rows.StrItems
import KE.KIntText
import PyProof.Rows.ReprOcc
import PyProof.StrWalks
import PyProof.CallType
import PyProof.StrOps
import PyProof.StrLawsIn
import PyProof.StrBlock2
import PyProof.FString2
import PyProof.SetKind
import PySem.Challenge.RW_leastlays_k53_whole_two_desks
set_option compiler.extract_closed false
set_option bootstrap.genMatcherCode false
set_option genSizeOf false
set_option Elab.async false
set_option linter.all false
set_option maxRecDepth 2000000
set_option maxHeartbeats 4000000
def zX(r:Lean.Name->Array Lean.Syntax->Option (Lean.Syntax×Nat))(s:Lean.Syntax):Lean.Syntax:=s.rewriteBottomUp fun s=>match s with
 |.ident _ _ n _=>match r n .empty with|some (x,_)=>x|_=>s
 |.node _ q c=>if q==`Lean.Parser.Term.app then
   let n:Array Lean.Syntax->Lean.Syntax:=.node .none `null
   let a:=c[1]!.getArgs
   let (h,k):=match c[0]! with|.ident _ _ i _=>(match r i a with|some (_,0)=>(c[0]!,0)|some x=>x|_=>(c[0]!,0))|h=>(h,0)
   let a:=a.extract k a.size
   if a.isEmpty then h else if h.isOfKind q then h.setArg 1 (n (h[1].getArgs++a)) else(s.setArg 0 h).setArg 1 (n a)
  else if q==`Lean.Parser.Tactic.tacticSeq1Indented then s.setArg 0 (.node .none `null (c[0]!.getArgs.flatMap fun e=>if e.isOfKind `Lean.Parser.Tactic.rwSeq then let b:=e[2][1][0][1];if b.isOfKind `Lean.Parser.Term.byTactic then b[1][0][0].getArgs else .singleton e else .singleton e))
  else if q==`Lean.Parser.Term.paren && (c[1]!.isOfKind `Lean.Parser.Term.typeAscription || c[1]!.isOfKind `Lean.Parser.Term.anonymousCtor) then c[1]! else s
 |_=>s
def zR(T:Lean.NameMap Nat)(m:Lean.NameMap (Lean.Syntax×Nat))(s:Lean.Syntax):Lean.Syntax:=s|>zX fun n a=>match m.find? n with
 |some (b,0)=>some (b,0)
 |some (b,k)=>if a.size<k then none else some (zX (fun n _=>(T.find? n).bind fun i=>a[i]?.map fun x=>(if x.isOfKind `Lean.Parser.Term.paren then x[1] else x,0)) b,k)
 |_=>none
def zY(T:Lean.NameMap Nat)(K:List Lean.Name)(b:Array Lean.Syntax):Lean.NameMap (Lean.Syntax×Nat):=Id.run do
 let C:=Lean.NameSet.ofList (K.take b.size)
 let mut m:Lean.NameMap (Lean.Syntax×Nat):={}
 let mut w:List (Lean.Name×Lean.Syntax×Nat×List Lean.Name):=[]
 for (n,x) in K.zip (b.toList.map fun x=>if x.isOfKind `Lean.Parser.Term.paren then x[1] else x) do
  let mut k:=0
  let mut u:=[]
  for s in x.topDown do if s.isIdent then
   if T.contains s.getId then k:=k+1
   if C.contains s.getId then u:=s.getId::u
  w:=(n,x,k,u)::w
 for _ in [0:99] do
  let (y,z):=w.partition fun(_,_,_,u)=>u.all m.contains
  let o:=m
  for (n,x,k,_) in y do m:=m.insert n (zR T o x,k)
  w:=z
 return m
def zK(k:List Lean.Name):List Lean.Name:=
 let B:="0123456789ABCDEFGHIJKLMNOPQRSTUVWXYZ".toList
 let w:="ABCDEFGHIJKLMNOPQRSTUVWXYZabcdefghijklmnopqrstuvwxyz".toList.flatMap fun a=>B.map fun b=>[a,b]
 let q:=Lean.NameSet.ofList k
 ((w++w.flatMap fun a=>B.map fun b=>a++[b]).map fun c=>Lean.Name.mkSimple (.ofList c)).filter fun n=>!q.contains n
local macro_rules|`(mutual $c* end)=>do
 let d:=c[0]!.raw[1][1]
 unless c[0]!.raw.isOfKind `Lean.Parser.Command.check do Lean.Macro.throwUnsupported
 let k:=d[0].getArgs.toList.map (·.getId)
 let T:Lean.NameMap Nat:=(k.zip (List.range 9)).foldl (fun m(n,i)=>m.insert n i) {}
 let m:=zY T (zK k) d[3][1].getSepArgs
 let mut o:Array Lean.Syntax:=.empty
 for x in c.extract 1 c.size do
  let i:Lean.Ident:=⟨x.raw[1][0]⟩
  if x.raw.isOfKind `Lean.Parser.Command.where then o:=o.push (<-`(command|end)) else if x.raw.isOfKind `Lean.Parser.Command.universe then o:=o.push (<-`(command|end $i:ident)) else o:=o.push ((zR T m x).rewriteBottomUp (·.setInfo .none))
 return Lean.mkNullNode o
mutual
#check λz0 zA zB zC zD zE zF zG zH A2 A3 A4 A5 A6 A7 A8 A9 AP B0 B1 B2 B3 B4 B5 B6 B7 B8 B9 BE BR BY C0 C1 C2 C3 C4 C5 C6 C7 C8 C9 CD CE CH CL CN CR CT CX D0 D1 D3 D5 D6 D7 D8 D9 DH E0 E1 E2 E3 E4 E5 E6 E7 E8 E9 EP F3 F4 F5 F6 F7 F8 F9 FA FG FI FL FM FR FS G0 G1 G2 G3 G4 G5 G6 G7 G8 G9 GB H0 H1 H2 H3 H4 H5 H6 H7 H8 H9 HB HC HD HO HT I0 I1 I2 I3 I4 I5 I6 I7 I8 I9 IA IK IT J0 J1 J2 J3 J4 J5 J6 J7 J8 J9 JA JB JE JF JG JI JO JS JT JW JX K0 K1 K2 K3 K4 K5 K6 K7 K8 K9 KE KI KT KV KX L0 L2 L3 L4 L5 L6 L7 L8 L9 LA LB LD LE LO M0 M1 M2 M3 M4 M5 M6 M7 M8 M9 ME MG MH MI MJ MN MP MS MT N0 N1 N2 N3 N4 N5 N6 N7 N8 N9 NC NN NO NP NR NX O0 O1 O2 O3 O4 O5 O6 O7 O8 O9 OC OF OL OT P0 P1 P2 P3 P4 P5 P6 P7 P8 P9 PA PB PC PE PG PI PL PO PS PT PW Q0 Q1 Q2 Q3 Q4 Q5 Q6 Q7 Q8 Q9 R0 R1 R2 R3 R4 R5 R6 R7 R8 R9 RF RI RL RM RN RR RS RY S0 S2 S3 S4 S5 S6 S7 S8 S9 SB SC SL SM SP SR SS ST SU SV SW SY T0 T1 T2 T3 T4 T5 T7 T8 T9 TA TE TF TG TI TK TO TP TS TT TX U0 U1 U2 U4 U5 U6 U7 U8 U9 UD UF UK UN V0 V1 V2 V3 V4 V5 V6 V7 V8 V9 VK VS VV W3 W4 W5 W6 W7 W8 W9 WY X0 X1 X2 X4 X5 X6 X7 X8 X9 XB XK XP Y0 Y1 Y2 Y3 Y4 Y5 Y6 Y7 Y8 Y9 Z0 Z1 Z2 Z3 Z4 Z5 Z6 Z7 Z8 Z9 a0 a1 a2 a3 a4 a5 a6 a7 a8 a9 b0 b1 b2 b3 b4 b5 b6 b7 b8 b9 c0 c1 c2 c3 c4 c5 c6 c7 c8 c9 cV d0 d1 d2 d3 d4 d5 d6 d7 d8 d9 dA dB dK dT e0 e1 e2 e3 e4 e5 e6 e7 e8 e9 eA eK eL eP eS f0 f1 f2 f3 f4 f5 f6 f7 f8 f9 fB fI g0 g1 g2 g3 g4 g5 g6 g7 g8 g9 gI gS gV h0 h1 h2 h3 h4 h5 h6 h7 h8 h9 hA hB hC hD hE hF hG hI hK hL hM hN hO hP hQ hR hS hT hU hV hW i0 i1 i2 i3 i4 i5 i6 i7 i8 i9 j0 j1 j2 j3 j4 j5 j6 j7 j8 j9 k0 k1 k2 k3 k4 k5 k6 k7 k8 k9 kV l0 l1 l2 l3 l4 l5 l6 l7 l8 l9 m0 m1 m2 m3 m4 m5 m6 m7 m8 m9 mA mN n0 n1 n2 n3 n4 n5 n6 n7 n8 n9 nI nL o0 o1 o2 o3 o4 o5 o6 o7 o8 o9 oB oI oL p0 p1 p2 p3 p4 p5 p6 p7 p8 p9 pA q0 q1 q2 q3 q4 q5 q6 q7 q8 q9 qA qB qC qD qE qF qG qH qI qJ qK qL qM qN qO qP qQ qR r0 r1 r2 r3 r4 r5 r6 r7 r8 r9 rI rU s0 s1 s2 s3 s4 s5 s6 s7 s8 s9 sA sX sY t0 t1 t2 t3 t4 t5 t6 tA tB tC tT u1 u2 u3 u4 v0 v2 v6 v7 v8 w0 w1 w2 w3 w4 w7 w8 wL wS x0 x1 x2 x3 x4 x7 y1 y2 y5 z1 z2 z3 z4 z5 z6 z7 z8 z9 CX0 CXE CXT=>[qA V,@lq z0,qA Str,(by rw[z0];exact zA),(by have z0:=zA;have zB:=zC),(by omega),(by rw[AB z0 zA]),(by simp),z0 _ _ zA,(by decide),.ref z0,z0 _ _ zA zB,BIF Int,kG s,i+1,qA qB,some z0,(by exact⟨z0,zA⟩),~~~lq z0 zA zB,VQ Keyed,X.K=K,(by exact⟨z0,zA,zB⟩),Tx mg,(by rw[z0]at zA;cases zB),(by refine wpAny_bind z0),z0=true,(by rw[z0];exact zA zB),top z0,FG K z0 zA,z0 (zA:=zB) (zC:=zD) zE zF,if_neg z0,Str->TR,(z0:Int),λz0 zA=>?_,(by by_cases z0:zA=zB),~~~lq z0 zA,some (z0 zA),NZ H',(by rcases z0 with z|z),jaC z0 jaN,(by rw[HP F.okJ z0 zA zB zC]),.int z0,(by simpa using z0),λz0 zA zB zC=>?_,qA Expr,(by refine ES ((z0)) ?_),Nat.le_refl _,(by exact⟨z0,zA,zB,zC⟩),k+1,z0 _ _,A3 (AEO B3 z0 zA zB),h.1,GD z0 i zA,(by rw[FF];refine z0),(by rw[z0,zA];exact zB),(by cases e),qA α,z0<=sizeLine,AI a,VQ qB,ATV a,z0 zA=some zB,q.2,p.1,(by rw[pN]),n+1,JE X z0 zA,q.1,λ_=>z0,⟨z0,rfl,zA⟩,FnScope z0 zA (A4 zB),(by subst e),.inr z0,wY Int,YH LK=ATW AES,((∀z0∈zA,zB)),(by exact lq z0 zA),(by obtain⟨z0,zA,zB⟩:=zC zD),ES rfl z0,h.2,VP qE Obj,AY X.calm,CY b tb,V.int z0,SqL.of z0,λz0 zA zB zC zD=>?_,PE X z0 zA,BK .int z0,(by exact absurd z0 zA),BIK O.α,GC jaC z0 zA,.lst z0,BK .ref z0,jv 0,⟨rfl,z0⟩,if_pos z0,z0 λzA zB zC=>?_,(by refine⟨z0,zA⟩),.inl z0,λz0 zA zB zC zD zE=>?_,(by exact⟨z0,zA,zB,zC,zD⟩),decide z0,(z0 zA).length,λz0 zA zB=>?_,qD Int,if_pos rfl,z0->zA->Prop,⟨_,z0⟩,FD H z0,z0 zA=true,(by rw[EC z0 (BH zA zB)]),(by refine z0 (BS zA zB zC zD)),⟨_,z0,zA⟩,x.1,BG (PN z0),BG n,qA qE,x::xs,_::_,(by obtain⟨z0,zA,zB,zC⟩:=zD zE),A9 z0 (JP zA) rfl zB,MV LM z0 Q,(by rw[z0,zA];exact zB zC),BIL Str,AEV LK,z0 zA=none,(z0).map,(by dsimp only[B1]),A5 (B2 z0),JQ thn z0 zA zB zC,(by refine⟨z0,zA,zB⟩),c.1,(by rw[BI e z0 zA]),∀v∈z0,zA,(by refine z0;refine zA),(by rw[bC z0 zA List.mem_map.mp zB]),wpAny z0 zA zB zC zD zE,(by rw[RC]),(z0 zA).map,(by exact lq z0 zA zB),(by unfold z0;rw[zA]),(by have z0:zA:=by rw[AB zB zC]),if_neg e,z0 (jv zA) zB,z0[zA]?=some zB,SqT.of z0,λ_ z0=>zA,(by rw[z0];refine zA zB),Nat.zero_le _,AE (A6 z0) zA,(by have z0:=zA;rw[zB]at zC),(z0 zA).trans zB,(by rw[BU (FH z0)]),(by rw[AW z0 e e]),.tup z0,TM z0 zA .lst zB,∀x∈z0,zA,AG s z0,∀y∈z0,zA,(by rw[AZ z0 zA zB]),(by rw[z0,zA]),(by rw[CG z0 zA zB]),AI b,hI.1,(by .exact .inl z0),z0<=1000,⟨z0,zA,zB,rfl,zC⟩,FunAt K mg z0 zA zB,⟨z0,rfl,zA,zB⟩,z0  vs H Q E,(by obtain⟨z0,rfl,zA⟩:=zB),z0≠[],(by refine z0 ?_),⟨z0,?_⟩,s.heap.objs.size+1,(by .exact absurd z0 zA),kJ X.A.units 60,CQ z0 x zA,(by refine z0 zA (DQ vs H Q E h) (λzB f A zC s H vs Q E zD h=>?_)),(by rw[LN t z0]),AG s1 z0,p.2,z0 λzA zB=>?_,xB z0 Q st,qA Nat,y::ys,z0 vs H Q y_3,AET pos AES,AEZ (HF z0),YG z0 o,CQ H z0 zA,eV rfl _ z0,(by simp[z0]),arrOf st,upd z0 zA zB zC=some zD,AI p,(by obtain⟨z0,zA,zB⟩:=zC;rw[AU zD zE zF]),AE List.length_map z0,(by obtain⟨h1,h2⟩:=z0),qD qE,(by exact⟨z0,zA,zB,zC,zD,zE⟩),if_pos e,VR Int,Q (.ref z0) zA,List.mem_cons_of_mem _ z0,b≠z0,eQ 1,(z0).length,AI l,λb z0 e=>zA,GD z0 j zA,AJ z0 _ zA,qA Env,BIN a,eQ 2,(by have z0:=zA;refine zB),j+1,(by .exact .inr z0),pG σ z0 zA,(z0 (by omega)),z0 zA λzB zC zD=>?_,kF z0 V.str,z0 mask zA zB,{s with heap:=z0},(by rw[<-z0];exact zA),⟨z0,zA,rfl,zB⟩,List.getElem?_eq_getElem z0,z0 (.ref zA) zB,(by refine wpS_bind z0),Gl X z0,Heap.get?_push_size _ rfl,(by rw[EC z0 ?_]),AI t,(PU (by simp)),AFA x,BIW st,BIU κ D (ltK kf),z0 zA=false,(by rw[z0];omega),(by have:=z0;rw[TU zA]),(z0 zA zB).length,(by have:=z0;omega),NZ H1,nb-1,pV c,2 ^ k,FU _ z0 zA _ _ s,(by rw[z0];simp),⟨z0,zA,zB,rfl,zC,zD,zE,zF⟩,[a],b.1,(by rw[eT z0 100000]),bH bk z0,wZ κ,e::es,AEQ base z0 zA zB zC,BIE prog,(by obtain⟨z0,rfl⟩:=zA),kx kf z0 zA,AY ((z0)),λz0=>?_,pJ .done z0,pK C6 0,(by rw[pO Q h]),(by refine z0 zA ?_),BG k,(List.getElem?_eq_some_iff.mp z0).1,AG fin z0,k _ z0,z0 zA (List.mem_of_getElem? zB),EN b,(by kernel_rfl),(by have z0:zA:=by simpa using zB),(PU (by decide)),(by have z0:IH zA zB zC zD zE:=A2),qA Stmt,(by have:=z0;rw[QE zA zB]),GY xs.length,wZ Key,AEX us,(Same.refl z0).upd,FU z0 A zA zB E s,ES z0 rfl,c.2.1,z0=none,⟨z0,[]⟩,FD X.mg z0,i<n,GF z x6,(z0 zA).mp,pS bD,kL (kK z0 zA zB),(by rw[AU z0 rfl zA]),na-1,out.push x,qA Keyed,RelV y u,λi z0 H' _ h=>zA,qA AU4,FD mg z0,(by .exact z),PySem.W.mg_none_of X G z0,CQG mainGlobals z0,PotAt H a b,.type z0,Same H z0,kF z0 V.int,z0 X G,Its H z0 zA,CC z0 x,Str.ofString z0,EL z0 qC,EM (GE z0),BG 0,((if z0 then zA else zB)),λi z0 H'=>zA,ib+1,DW [],.inl rfl,x.2,out.push y,λi=>z0,(by rw[FK z0 zA ?_]),(by rw[JY z0 zA]),ED (eX _ (DP z0)),(by intro qK s σ H x y v u Q I z0 zA h),(by obtain⟨z0,e⟩:=zA),(by rcases z0 with q|q),(by exact lq z0),(by exact False.elim z0),MY A.handled,(by rw[fL z0 zA zB (DW zC) zD zE]),AFI u,z0 (OB zA) T zB zC,(z0:Nat),(by refine wpAny_bind (z0 zA)),Heap.get?_push_of_some _ z0,z0=false,(if_neg (by rw[z0])),z0 V.int,(by have z0:=MU zA (o:=zB) zC),(by rw[PP z0 ?_]),Vals z0 zA,vs=[z0,zA],(by exact this),z0 zA σ H,EM rfl,(by rw[FX z0 zA this]),⟨z0,zA,rfl,zB,zC⟩,AI C,λi z0 e=>zA,(by rcases z0 with rfl|zA),λz=>x6,Good st st',(by rw[DG z0 this]),pI SqT.of z0,BIR H',if AY z0 then zA else zB,(by obtain⟨z0,zA,zB,zC,zD⟩:=h),(by rw[AX ?_]),a.1,ia+1,(z0).length,r.getD j 0,JU pos h n,wZ Str,⟨z0,zA,rfl⟩,wY Nat,Nms ns,kE eval z0,z0 qK zA σ zB,(by decide +kernel),c.2.2,model X.prog X.w,kH z0 V.int,z0 (.ref zA),0<=x,(by rw[pL _ z0 _]),CQ z0 a zA,IC s.heap.get?,DX a,z0 b o e,z0 pT (TN zA),(by rw[EZ its z0 zA zB zC zD]),∀b o,z0->zA,λb z0 zA e=>zB,DF x z0 zA,(by rw[z0,zA]at zB;cases zC),CQ H' z0 zA,(by rw[KO z0]),A5 (B2 (z0 zA)),c.2,z0∉bD,(by have z0:¬zA:=λz=>zB),Q (.int z0) H,z0->Prop,(by obtain⟨z0,q⟩:=zA),(by obtain⟨z0,H1,zA,zB,zC⟩:=zD),(by obtain⟨z0,zA,zB,zC,zD,zE,zF⟩:=h),(by rw[AC h1 z0 h2 zA]),DF v z0 zA,(by rw[eT z0 1000]),(by rw[KP z0 zA];rw[QB]),GY n,KD x,AEX vs,AET qM AES,(by .obtain⟨z0,zA,rfl,_⟩:=h;rfl),YJ qN.endLine qM.line,upd z0 zA (zB zC),AEP _ ((z0)),⟨z0,rfl,zA,zB,zC,zD⟩,qD qB,(by rw[z0]at this),A4J z0 _ zA,(z0).toNat,aZ z0 .lst zA,EN p,jv 1,⟨z0,H,zA,zB,zC⟩,bB St,BN A7,JV h',(z0 (by rw[AB zA zB])),(by rw[z0,zA];rfl),BG m,BG i,z0.2.2.2.1,Its H' z0 zA,AO v,⟨z0,rfl⟩,(by refine wpAny_pure z0),⟨_,rfl,z0,zA,zB,zC,zD,zE,zF,zG,zH⟩,[x],(z0 (by simp)),g.1,(by refine z0;have zA:=zB (o:=zC) zD),AG s2 z0,List.mem_append_left _ z0,KA hi,z0 (caps:=zA) zB zC zD,(by rw[HG u z0 zA];cases zB),z0 σ H1 λzA H2=>zB,(by rw[KR z0]),~~~lq z0 zA zB zC,(by refine ES rfl z0),BC z0 K K a zA (xs:=zB) zC,(by by_cases c:z0),.str x,GO H2 z0 zA,(by rw[eT z0 3000]),Cls K C,xP H h,(by repeat (any_goals (first|assumption|wp_step))),Two D kf a b,qA (z0×zA),Array z0,Nat->z0,[AI z0],aZ z0 .tup zA,z0 (~~~zA zB),z0=.ref zA,Q z0 H',z0 V.str,(by refine eR z0 zA),IT H z0 zA,pH z0 zA (BN zB),RB z0 s H _ I h,z0 (~~~zA),["self",z0],I.tok _,HN z0 c,z0 λzA=>EG zB,TN (BIJ 0 z0),eQ 0,[CM],IC h'.get?,z0 b o zA e,(by exact z0 ⟨zA,zB⟩),(Value.none,Value.none),[BP z0],(by rw[z0]),OpR X (compareOp z0) zA,congrArg z0 zA,~~~z0 a,⟨o,z0,zA⟩,BG 1,DW zs,YI IV,z0 λo e=>zA,(by rw[z0,zA];omega),(by by_cases z0:i<zA),xG SqL.of z0,(by rw[z0];rfl),(z0 zA).mp zB,λ_ _ z0 zA=>zB,(F6 z0 zA (by rw[kP])),IC h.get?,(by obtain⟨z0,zA,zB,zC⟩:=h),(by obtain⟨z0,zA⟩:=zB;rw[AQ zC zD]),HA z0 zA [zB],(by have z0:∀zA∈zB,zC:=λzD zE=>zF),s2.heap.objs.size+1,h.2.1,pI .inr z0,(by rw[pO D h]),C1 (IE z0),(by rw[PX s1 H z0 zA]),(by cases h),d.1,(by refine z0;rw[FF]),(by obtain⟨u,z0,zA⟩:=zB),~~~lq z0,if_pos a,bB Bool,DrTx K C,x∈xs,A56 l,CQM BJ1,DR a ta,JT X (BIX z0) (S4 (A4P zA)),fO X8 z0 c.h d.h,CQ z0 b zA,kE starEach z0,DV 0 z0,AY ((z0==zA)),pos t.mask z0 zA,(by show z0;exact zA zB),z0 (Nat.le_refl _),TM z0 zA .tup zB,.int z0 zA,LL z0 zA [zB] zC,DP A2,hsh prog w r,∀b∈z0,zA,qA Key,TV z0 _,A4M Str.ofString z0,(z0).trans zA,lo+n,z0 σ H zA,PQ e,ID a z0,z0 ⟨zA,zB,zC⟩,AI c,z0.2.2.1,(by rintro rfl),List.mem_singleton.mp z,ys.getD j 0,AO x,(by exact z0 zA this),~~~z0 zA a,BIQ us,(by obtain⟨c,z0,zA⟩:=zB),HA z0 zA [zB,zC],RG xs.map,AEU qE,(by obtain⟨z0,zA,d⟩:=zB),AJ z0 (BQ zA) zB,CK xs.length,KN decide z0,OA xs.map,λH' s=>GE (GQ z0),⟨_,rfl,z0,zA,rfl,zB,zC⟩,(by unfold z0;rw[zA,zB,zC]),BH z0 a,RO h.get? z0,W2 B8 T.b_tuple (RU z0 zA),⟨z0,H2,zA,zB,zC⟩,z0=decide zA,BG j,.int _,jv 2,AEU Int,q _ rB,AF9 z0 (rM zA),.str _,qD V,if_neg a,a.size-1,BJ z0 a,GY us.length,wZ YT,A5 J7,1<=n,(by rw[EQ GH z0 zA]),(by cases a;exact z0 (A4T AF)),z0 x y H Q,CY o to,CY e te,Array (qD qB),⟨_,rfl,a,b,z0,rfl,zA,AH,FV,zB⟩,(by .exact(d e e' FV).elim),H z0=BK zA zB,(by rw[z0];decide),EL z0 Hp,(by rw[DI z0 zA rfl zB zC]),[a,b],z0::caps,ATU st',leK kf z0 zA,Str.join z0 zA,GO z0 p zA,z0 λ_ _ zA=>zB,AO 0,(none,z0,zA),Wk rss cs z0 zA zB zC,z0 (leK kf),(by intro qK s σ H z0 zA Q I zB h),(by show z0;decide),GE (AG z0 zA),AJ z0 zA (AJ zB zC zD),(z0 zA).symm,A4K C4 (N:=[z0,zA]) (src:=[none,zB]) zC,AY (z0 zA zB),~~~z0 zA hi,EL z0 SortSt,EG (z0<zA),xC h',z0 _ _ _ _ _ _,DX p,(by obtain⟨z0,zA⟩:zB:=⟨zC,zD⟩),xJ (),x.2.1,z0 b o e zA,BZ List.length_filter_le,(by rw[AW e z0 zA]),OE xs,DA z0 [zA] zB,λi hi=>z0,RB z0 s H,(by simp only[List.mem_cons,List.not_mem_nil,or_false]at z0),⟨_,z0,zA,zB⟩,⟨z0,zA,zB,rfl,zC,zD,zE⟩,⟨z0,kw⟩,AG G z0,YM I.hok.fresh,z0<=mask,z.1,bJ (AUH z0 zA) zB zC,RelV x v,attributeBase o z0 X.env AU5=AU5,(by obtain⟨z0,_,rfl⟩:=zA),(by rw[z0,List.take_length]at zA),A4W z0 v zA,xM IV,z0<=100,(by rw[z0,zA,zB]),y.1,(by have z0:zA:=by rw[JY zB zC]),(z0 zA).mpr zB,(z0)[i]?,(by obtain⟨z0,zA,rfl⟩:=zB),GP xs z0,IY u z0,RelV x u,AFW z0 EP,OM ys (BL/\z0),∀(i:Nat) (z0:zA),zB->zC,decide_eq_true z0,st.1,(by unfold z0;split),(by rw[AC z0 (AG zA zB) zC zD]),BP i,.bl b,BQ a,BJ z0 h,j<xs.length,(by rw[PX z0 zA (DW zB) zC]),(by rw[PX z0 zA (GN zB) zC]),a::l,x<=topN,SqT K H a xs,CQI [],AFM h,P.length+LA.length,A3 (z0 zA (TN zB)),(by have z0:upd zA zB (GN zC) zD=BK .tup zE:=A2),z0 K xs H Q,DV z0 jaN,z0 λzA=>?_,(by have z0:CK (PN zA):=by rw[BII]),{z0 with heap:=zA,toks:=zB},TQ _ z0 zA rfl zB,LP z0 (lo+zA),⟨rfl,z0,zA⟩,z0 prog w zA zB,upd H z0 zA,z0 (zA ?_),∀b o,z0->zA->zB,[e],(by refine z0 (zA ?_)),(by subst z0;exact zA zB),[BP z0,zA],RD.1,FU RE X.A z0 zA X.xe s,A4O z0 .tup zA,(by have z0:upd zA zB zC zD=BK .lst zE:=A2),List.mem_append_right _ z0,(by obtain⟨z0,zA⟩:=zB zC),⟨z0 zA zB zC⟩,(z0,zA)::r,(by simpa using this),(z0 zA).mpr,IS a,PV xs.map,x+1,DW ys,∃z0:Nat,zA,.bl _,λ_ _ z0=>zA,sp vs H Q E,⟨z0,H1,zA,zB,zC⟩,GD z0 zA x,now.getD j 0,A9 z0 (WB zA zB) rfl zC,GP z0 RJ,(by rw[GG z0 wpS_bind zA]),oft r rest,AG z0 _,NY "tuple",BP j,C0 src σ,(by cases z0;cases zA),(by unfold z0 at this),GC z0 2 zA,(z0 t zA).1,BH b z0,A3 (AEO B3 z0 zA (zB zC)),ia+k,YN H z0 zA,A4Q kO,NoAttr K C z0,AUK % CQQ,(by .obtain⟨z0,zA,zB,zC,rfl,_⟩:=h;rfl),pure z0,f.1,E2 X z0 zA,~~~z0 hi,(z0).2.1,j<n,n::ns,RB z0 s1 H1,⟨_,rfl,p,C,dx,_,rfl,z0,U.cl,zA,zB,?_⟩,(by rw[z0]at zA;exact zB),(by subst this),AG s5 z0,(by rw[AW e2 z0 zA]),Int.lt_of_le_of_lt z0 FV,KV qL vs,(by rw[AV7 i hi z0]),st.2,(by by_cases a:z0),(by exact wpAny_pure z0),(by rw[eT z0 300000]),MW e,A4O z0 .lst zA,a=b,AUU bk z0,AJ k OP e,(by show z0;rw[FX zA zB zC]),d.2,jaC z0 (BN zA),AO r,x::a,BJ z0 h2,bB It,y::AVP,FH a4g,VR Bool,EA c,OE X.N,OH Bool,ns.length<=7,xs=AFB,AF6 X.A,A4Y nne z0,A52 us,(by exact Heap.lt_size e),r::rss,SqL K H a xs,CQJ z0 .builtin zA,(by rw[kQ a];exact z0 (A4T AF)),(by rw[yC hs]),(by exact EM e),FU LM A z0 zA zB zC,z0 xs H Q,W1 y ys,(by intro _;rfl),z0 (OB zA) T,(by intro qK s σ H x vs v us Q I z0 zA h),kW AVU AVT,M0 f qS (z0::st) rs,BJR (CRA ns),CRG z0 (OB zA) T,W7 n DY B4,z0 zA X.env,.lst (z0 zA),JN H z0,.tup (z0 zA),∀H',BL->z0,z0+zA<cLine,z0 σ H λzA H1=>zB,x9 σ z0,.ins C dx z0,x=wd z0,s.toks+1,(by intro z;cases z),(by rw[LN t' z0]),AI s.heap.objs.size,FW List.range z0,y::r,z0 kf la lb zA zB zC,LQ (z0 && zA),MethAt K C z0 zA zB zC,BK (z0 a b zA zB) zC,(by rw[bO xs us z0]),BZ List.length_take_le,BN B4,AUE k,BJ0 N5,(z0 zA).map zB,(by have z0:zA=zB:=by rw[zC,zD]),EG (z0=zA),IW (z0++zA),λb z0 q=>zA,A4Z b,(by refine congr (pQ z0) (ATY zA)),(if_pos (by rw[z0])),kM fs,BJ8 AU2,z0∈t.place,(by unfold z0 at h),z0=some v,a+1,xs.getD j 0,pI .inl z0,pJ .yield z0,xs.getD i 0,⟨z0,zA,e,zB⟩,(by rw[List.size_toArray,<-z0]),PT X z0 zA,gdK b z0,WC "words",AUZ-i,z0 x c e,JZ z0 _ (A4U YQ zA zB),(let ⟨z0,zA,zB⟩:=zC;⟨zD,zE,zF⟩),AG s' z0,z0 i hi,gdK a z0,D2 ?_,(by rw[HQ c]),WG [z0],GZ kR _ z0 zA,xN Ofl,RX o z0 (WK zA zB),(by rcases z0 with z|z),TN (J3 K 2 (AUS (BIJ 0 z0) (BIJ 1 zA))),if z0 then _ else zA,hp.1,(by rw[DI z0 rfl zA zB zC]),A4K (AEO M6 z0 zA) zB zC zD,(by rw[kZ r]),K4 z0 (AER zA zB),A5M (JP z0) zA,G7 qL k,⟨z0,_,zA,zB,zC⟩,CQ h.get? z0 zA,(z0,AI zA),(z0 x zA).1,(z0 v zA).1,h.2.2,(by rw[DI z0 zA zB r.get zC]),0<x,(by have:=z0 zA zB;omega),AFS A5C,a4s n r,(by rw[AG2 z0 d tk os s]),decide_eq_false z0,⟨z0,BH zA zB⟩,AG s3 z0,Nat.lt_irrefl _,(by .exact rL z0 zA zB),eQ 4,UA z0 WD QD q,CR3 xs.map,X.prog=P,X.w=w,VP qI qE,(by by_cases e:z0),⟨rfl,z0,zA,zB,zC,zD⟩,(by generalize upd z0 zA zB=zC at zD zE),(z0 zA).trans,CK ys.length,of_decide_eq_true e,VQ α,(by have z0:zA=zB:=by rw[<-f];rfl),if_neg h,BQ h,x::kT,vs=AFB,j+2,AEV fD,JC z0 _,(by rw[HL (z0 ▸ zA) zB]),CQI L,PA X LK t,BKB E8 z0 zA,CRC xs,(by rw[QI AVW a]),z0 (OB zA) T zB,z0 C vs H Q y_3,Cls X.K C,BKH (FAt C H p ra),(by .obtain⟨z0,zA,zB,zC,zD,zE,rfl,_⟩:=h;rfl),(by first|exact .inl rfl|exact .inr rfl|assumption),∀vs H Q E,fZ->vs.length=ps.length,z0 P w K mg,Inv X qK z0 zA zB,z0 K rfl zA zB,.inr (z0 zA),pure (z0 zA),z0 K (jv zA),(by show FU _ z0 zA _ _ zB),RA e,(by with_unfolding_all rfl),(by intro qK s σ H z0 I zA),z0 K (jv zA) zB,congrArg _ z0,z0 zA zB=false,Off z0 H H',AEP _ C2,LL z0 1 [zA,zB] zC,⟨#[z0]⟩,A4H z0 (.fields zA),jaC z0 (jaC zA zB),AY (z0 K zA),((show z0 from zA)),c / 28,z0 X (zA zB zC pos) zD,Same.refl H,∀r∈z0,zA,ns.length+1,RD.2.1,(by rw[AX (z0 zA zB ?_)]),A4 st,AI f,Same.refl _,A6 (A8 z0 zA),E2 X (.builtin z0) zA,⟨z0 zA AH AH zB a⟩,z0 zA (some zB),PQ q,eZ z0 o,(by rw[fE wpS_bind z0]),pF MethOk base C z0 zA zB (zC C),absurd (z0 zA) zB,EM (DP z0),10 ^ z0,z0 (.type zA) zB,VX v z0,IU p,YK x N,(z0).trans,xD z0 zA flatten,Nat.le_trans z0 zA,wd "way",StateT SortSt Sem z0,(by exact z0 this),Q z0 s',D7 x,PQ (PQ z0),AU6 mg z0 zA,L8 ns x,A4H "tuple" (.seq z0),wpAny_call_entry z0 zA zB zC (zD _),EP X qK σ Q z0 zA,z0 (wpAny_pure zA),Str.join z0 (zA zB),(z0).2.2,~~~z0 d,(by rw[AX z0];rw[AX zA]),D4 rfl z0,λi z0 zA=>?_,A5B size,(by refine call_meets z0 zA zB (BZ zC) zD zE),(by obtain⟨z0,zA,zB,zC,zD,zE,zF,zG,zH,rfl,_⟩:=h;rfl),(by unfold z0;rw[zA];rfl),⟨o,z0⟩,qD Bool,List.getElem?_eq_getElem a,DJ ?_,MV RE z0 Q,KB s.TypeIs z0 zA,pR HT.lexLt z0 zA,QA II z0,FD H' p,frs X.stack,AUW q,(A8 z0 zA).symm,BJI now,jaC (z0 zA) jaN,z0 kf a.toList b.toList zA zB zC,sdS rss ss,⟨z0,zA,rfl,GE zB,rfl,zC,zD,rfl,zE,zF,rfl,rfl,?_⟩,⟨z0,zA,zB,zC,rfl,zD,zE,zF⟩,(z0 zA zB zC).length,eQ 3,(by rw[HQ b]),s1.trans s2,YS fp z0,SetS prog w z0 zA zB,A9 b (JP z0) rfl zA,z0 b o e n zA zB,Itz K k1 k2 a b,(by simp[z0,zA]),(by rintro⟨z0,zA,e⟩),(by refine D6 z0),AE z0 e,BH v z0,Heap.lt_size e,(by rw[AZ z0 wpAny_pure zA]),(by rcases z0 with rfl|z),λx hx=>z0,List.mem_cons.mp z,ATX z0 rfl,a+k,BIQ its,CQH CRD,CQH CRF,∀v,v∈z0↔zA,AUP 1,(by rw[List.length_map,z0]),List.mem_singleton.mp a,(by rw[AZ z0 wpS_pure zA]),LQ (! z0),(by rw[PY wpAny_pure]),AEU qB,BIL Keyed,P.length+k,kN "way",List.length_map ..,AF9 z0 (OI zA),(by rw[rJ wpS_get]),CQJ z0 .type zA,G6 qO,A5K h.get?,∀i,i<z0->zA,a1b p q,(by rw[W0 (M4 (λσ H'=>z0) zA) fin]),Binds K fd ps [],(by subst a;exact z0),∀z∈z0,zA,(by obtain⟨z0,zA,zB⟩:=h),(by refine z0;obtain⟨zA,zB,zC,zD,zE⟩:=zF),(by rwa[z0]at this),qA (LLI),MtM X z0 zA,nI K z0 zA,AJ z0 (J9 zA zB) zC,qD Str,VQ Nat,if_pos h,AR z0 d zA,x::r,DZ ?_,c.getD i 0,OH Result,(by rw[KC (z0 (BS zA zB zC zD))]),HH L,(show z0=zA by rw[DG zB zC]),pure r,λy a=>z0,(by rw[AC z0 (zA zB) zC (AG zD zE)]),BIN l,n<=7,z0 zA σ H Q,(by exact DJ h),(by rw[fN z0 zA List.mem_iff_getElem?.mp zB]),rD z0 (zA K),(by .exact z0 x z),CY o td,Sem Bool,xY ns.length,EO K5 x,DA [z0,zA] [zB,zC] zD,A.units+1<cLine,z0 (MU zA (o:=zB) zC),AGA s',AGH xs,VQ (xI α),AGJ BJ3,DR e te,AVM K7 z0 BJG,AWC h,BC z0 vs zA as zB (caps:=[]) zC,Y6 K B4 z0,elem' a z0>>=zA,DR b tb,TabOk t es,YH fD=ATW BJ3,ZB List.mem_map.mpr z0 zA rfl,(by .rw[AW b a a]),AllD D (arrOf st),.of_wp λprog w A R s h=>z0,z0 (zA:=zB) zC rfl zD,List z0,VP z0 V,.Call z0 zA [] zB,(nomatch z),CQ z0 zA o,λz0 H Q=>zA,(z0 : Str),CQD LM,eU s z0 tk,(List.replicate z0 zA).zB,seqObj "list" z0 zA,YG z0 u,.inl (z0 zA),AU1 a,Int×z0,(none,z0),(z0 zA).filter,YL (CK z0) zA zB,pH C5 T.b_len z0,z0 xs ys,(by rename_i e),HOk P w z0 zA,⟨z0,zA,d,zB,zC⟩,z0=BK some zA,z0<s.heap.objs.size,z0 I.hok e,AUA outer b a E,AO 1,DK i z0 e,SqK z0 K zA zB (zC zD),xs.length=z0,z0 (wpAny_bind zA),IS b,CZ > 0,DR (z0 zA zB pos) zC,VY v,i<=j,∀i,z0<=i->zA->zB,(by show z0;omega),AEW st' z0,OpR X (binaryOp z0) zA,(by rw[DT (CQL z0) Bool.false_ne_true]),z0=V.int zA,mask+1,CY (z0 zA zB pos) zC,wd "lay",TW (z0+zA),fA z0 wpAny_pure,qV rss z0,GZ z0 H I zA,O.kle z0 zA,GC z0 1 zA,ltK kf z0 zA,GF _ z0,λc st'=>z0,((if z0 then zA else zB)),(z0 r zA).1,ns.getD j 0,PySem.W.mg_of X G z0,AUM (BJ5 z0),BJ2 topN,BJD Heap.lt_size z0 zA,(by rintro z0 H' ⟨s,rfl⟩ p hp),(nomatch h),(by obtain⟨z0,h⟩:=zA),CQ K.lookup z0 zA,PV ns.map,xL z0 zA hz,FD H' b,(xU).env,Goes rss xs z0 zA zB,(by simpa using e),~~~z0 h1,λa b=>z0,id D,bQ CB z0,BIZ z0 C,AG3 AF,BJE a (z0 (BJK C s H ex) zA zB),a.length<=z0,(z0 zA zB).map,IR s.heap.objs.size z0,IR p H',QA CM z0,BIP V.bl z0,A4U (DP z0) zA zB,c AM,X7 rss z0 j,HE _ z0 (BH zA zB),y9 (CK z0),AY (AVB z0 "BaseException"),A4K C4 (N:=[z0]) (src:=[none]) zA,rI z0 λi j=>BP zA,z0 a b zA zB zC mg k zD,(by show Sub _ z0/\_;rw[zA];rw[EC Sub.one zB]),z0=ns.length,∀c∈z0,zA,(by exact .nil),(by obtain⟨o,z0,zA,zB,zC⟩:=zD),~~~a0G,(by exact wpS_pure z0),AI it,(by have z0:zA:=by rw[zB,zC];rfl),jv 3,BZ Off.refl,VQ GenState,(by rw[GG z0 wpAny_pure zA]),(by rw[DB];exact z0),LQ (z0 || zA),z0 b u e,s.trans s2,GF z AFC,b∉ch,xG .inl z0,SD List.length_map,r∈rss,BJO-2,[e,f],yD (DO z0) zA,AGB rest,BJL s'.gens,cs.getD j none,FU RE X.A z0 zA X.xe zB,(by have e:b=z0:=by simpa using zA),a8P P w a xs,(by rw[z0];exact zA),((ND)),(by exact .inr z0),Heap.get?_update_self _ z0 zA,j-1,x=.str z0,VT p2,s.heap.objs.size+2,a::lJ,((BK6-1)),(by rw[S1 List.getElem?_map z0 zA zB]),te z0 H1 zA,Stps d z0 zA,AFF n,AUI .bl z0,AFP (AU8 z0) (tCB zA t),DQ i j z0 zA zB,la.drop ia,z0 h1 h2,AGG f take,w1++bk++x,A5P (bk.length=1),λi h h' st z0=>zA,AWD A6C rQ z0,wpAny_pure z0,∀(z0:Nat) (zA:zB),zC,z0 _ (A68 zA),AI ra,(by have z0:zA:=by rw[RC]),(by exact Nat.le_trans z0 zA),(by have:=z0;rw[zA,zB]at this),Q (.bl z0) zA,decide_eq_true e,J5 e,J6 e,VQ DictEntry,VQ (AU4),i<xs.length,lo+m,(z0 t zA).2,AR z0 c zA,AR z0 g zA,EN a,EN s.heap.objs.size,BD c,(by refine ES rfl ?_),y::b,VR A6M,HA z0 zA (A4R zB),OE l,YI (BN z0),(by rw[W0 Classical.byContradiction z0]),C1 ?_,λH' s'=>z0,eZ a z0,(by rw[FZ z0 zA Array.getElem?_toList zB]),Ris xs,Bds xs,Small xs,sa+j,DV 1 (BN z0),λH' s=>BL0 z0,bN la.Pairwise,bN lb.Pairwise,m<=200,A52 xs,AUG decide_eq_true,AUI .str z0,z0 x vs H Q,MG K a z0 zA zB,MG K c z0 zA zB,BJ6 33 z0,BJ6 86 z0,α->V,X.A.units+1<cLine,AFP (AU8 z0) (BKF zA),(by rw[RV r z0 zA I.list zB]),t::AFD,yU y7,VP κ qB,DR o td,V->A0->A54,A6W (kK z0 zA zB),BJY Int,c::cs,AX3 (AGN z0),(List.getElem?_eq_some_iff.mp e).1,VP Int qI,ID nt BKA,CRP zs.length,CRS items,λi v x z0 zA zB zC zD q=>?_,(by rw[CS2 z0];rw[AWT zA zB zC]),Wg (wd z0),(by have z0:=s1.trans s2),(by rw[EZ r z0 zA zB hI.mem zC]),(by exact(show False from z0).elim),CSA gG,CSG Sg5,CSL qQ,VP TE TE,EO a8S scope,(by refine wpAny_passesOwn hp z0),SetTable.below xs j,PZ dvs ds,absurd rfl h,(by rw[fF z0 KeyOrd.kle_refl _]),C3 (R7 (A61 z0)),aZ a .dT qL,W2 C5 T.b_len LT,(by obtain⟨f,fd,h1,h2,z0⟩:=zA),a0T CX X E,DrAt C H p ar as ac ap d,(by rw[fF a z0 b]),DA N ps st,bU B9 scope X.env.scope,kU MS o ia ib,AFZ FnOk X.base CX k f fd ps sp,Binds X.K fd ps ds,BIH (NY z0) zA,(s.heap.push z0).zA,z0 _ _ _ zA zB,(z0 zA zB zC (by show AY (BZ B9);rfl) BIG BIG),FE (z0 (zA zB)),V.str (z0 zA),NY "set",H' z0=BK zA zB,tOp z0 ta tb,{s with toks:=z0},[z0,"one"],Q (z0 zA) H',C8 I q z0,ATX z0 (BH zA zB),.int z0 0,FJ (WA z0) zA s1 zB,RI kf κ z0 zA zB zC,VW z0 lq zA,z0::rest,["self"],CC z0 v,VU a z0,eW bF z0,EL Hp VK,IR p (bI z0 zA),TY z0 xs,.str (z0 zA),ObjOk z0 zA H zB zC zD,GR z0 (bG zA zB),xs.map z0,AEW st z0,AF4 now,(show z0 by decide),{z0 with heap:=zA},(z0 zA).upd zB,xs++[z0],x::ws,JV (AF7 z0),Ans rss v,x8 z0 a,(by refine pQ (ATY z0)),A9 a z0 rfl zA,RB z0 s1 H1 _ zA zB,y.length<=z0,show z0 from rfl,["self",z0,zA],(z0).lookup,λz0 zA e=>?_,F8 st,⟨CB,z0⟩,CQ s.heap.get? z0 zA,WE X.env.cells.lookup,A4X a0 z0 zA rest,z0 C H' p zA,[AUR AFO],YG H z0,J0 K z0,X.held p,xE #[] 0,CY (CQS z0) (A4P zA),DF r rss z0,ItAt k z0 zA l zB,{cls:=z0,dict:=zA,data:=zB,slots:=zC},List.mem_of_getElem? z0,z0->Bool,BK .builtin z0,(z0 (by rw[JY zA zB])),IC H,2 ^ 63,a3B rss z0 j,.r z0 zA x y,sIx items.size 0 lo,.tail _ z0,t.2.2,NY "list",Q (.bool z0) zA,((k+1)),bB A0,EH z0 V.int,[([],z0)],pF MethOkE base C z0 zA zB zC,A4R "rows",YK YR N,(z0) % 26,xW v,D.nx σ H,a1N prog w z0 zA zB zC,λD σ H=>z0,CQX lo,z0 T zA (eq_of_beq zB),(by rw[WL wpS_pure g (ED (DJ z0))]),CQ z0 s.heap.objs.size zA,BZ Nat.le_add_right,wd "cap",D2 rfl,r.length=n,YO z0 t,AUC pos,L8 ns y,BJJ ForInStep z0,A59 z0 x y,DF b fp z0,⟨z0,zA,e⟩,(by unfold z0;rw[AX zA]),wd "least",MU H,vs=[z0],ID c z0,λi h=>z0,AEU NameKind,sIx n z0 zA,h x List.mem_cons_self,AFG s.heap.get?,D0 K z0 (jv zA),AVL rR,CQU Nat.ne_of_lt,ns.getD j (wd ""),(by obtain⟨z0,zA,c,zB⟩:=zC),(by obtain⟨z0,zA,f⟩:=zB),(by unfold z0 at a),(by rw[<-z0];exact zA zB),if z0 then LS zA else zB,BG (-1),(by have:=z0;rw[fQ]),(z0 b zA).1,GD b.toList z0 zA,BH z0 j,Q z0 st',CC rss z0,(List.range z0).zA zB,tn i z0,EN l,JR ws.map,D9 P w,2*M,A51 vs,A5D (OJ<z0),AFE AV8 T8 te z0 H,c % 28,(by obtain⟨i,hi⟩:=z0),[z,TI,TO,g,j],(by rw[List.length_append]),⟨rfl,z0,zA,zB⟩,⟨σ,z0,zA,zB⟩,(by obtain⟨e,z0,zA⟩:=zB),z0∉t.place,BG L,jaC z0 (pX zA zB zC),List.mem_append.mp a,DP hp,DX l,BIE P,BQ h1,BQ h2,elem' b z0,PR ((z0)),pK F5 0,eW qQ z0,(by rw[W0 List.ext_getElem? z0]),Q (.str z0) H,m<=2000,GZ (AI z0) _ zA zB,rC e z0,(lL (by decide)),R (AWJ z0) zA,AVD v,BJH a,c i ys H,AGS ys,BKI a5a,(by rw[KC (JQ C7 z0 y e1 e2)]),ON+k1,ys++ys.reverse,[v0,Y],V.str z0=YV zA,pQ (BJW (ATY z0)),((∀H2,CRT->z0)),(by rw[AFY (KB field z0 zA)];rw[BKG zB zC]),λ_ _ z0 H _ I h=>zA,Ss.map λS=>V.str S.T,xB z0 (zA kf st a b zB) st',(by obtain⟨z,its,n,r,z0,e⟩:=zA),a1n w a ep es,z0 (t':=zA) (o:=zB) (lI zC rG) BV zD,List.mem_append.mp z0,∀t∈z0,zA,(nomatch e),(by obtain⟨z0,zA,e⟩:=zB),(by obtain⟨v,z0⟩:=zA),~~~a2H,(by simpa[z0]using this),absurd z0 zA,z0 (.inr zA),(by exact .inl z0),(by exact SqL.of z0),AG ((z0)) zA,AY b,(by have:=z0;rw[rY zA]),~~~z0 h,BH p z0,NY T,BP m,List.mem_map.mp a,(z0 j zA).2,kG s',JP if_neg,rest.getD j 0,x::l,2 ^ A6L,wY LqR,.k n,(by rw[TU z0];rw[QB]),MW g,wpAny_pure ?_,wpAny_setField_rec z0 AF,pX LT z0 zA,z0 rfl zA WH,(by rw[KG CSC]),A8 e z0,AU6 X.mg z0 zA,A4W z0 u zA,YW z0.1 zA,WR a2F,Value.int i t,v::vs,AUP 2,AFR ys,vs=[z0,zA,BP zB],lT (DZ z0),x≠"__name__",AGO z0 h2,BJV z0 (NY zA),FJ (A5N z0 zA zB) zC s2 zD,BKZ::ks,(by rw[e1,e2]),Meets (z0 zA) (λ_ R s=>zB),BS i j z0 zA,BS z0 H1 s1 zA,a1b q p,(by rw[cB z0 rfl (fW zA zB) zC AD]),AWR Wi cs,KT H qL xs,(by rw[BII]),(by rw[z0];rw[FO zA j]),kv.1,⟨z0,zA,?_⟩,(by cases z0;rw[HQ zA]),(by obtain⟨a,z0,zA⟩:=zB),(by obtain⟨z0,zA⟩:=zB;obtain⟨zC,zD⟩:=zE),(by obtain⟨j,z0⟩:=zA),⟨q,z0⟩,(by unfold z0 zA;rw[PP wpAny_bind zB]),(by try rw[CSR]),(show z0 by rw[DG zA zB]),show z0 from rfl,qA β,qA Sy,fuel+1,mC+1,(by exact wpAny_bind z0),AI q,AG s4 z0,(by have z0:zA:=by omega),(by have:=z0;rw[AW zA this this]),AE z0 List.mem_cons_self,AE z0 (lq zA zB),~~~a0W z0,AJ z0 qr zA,qD Expr,CK vs.length,jv 5,CC ((z0)) zA,E3 K z0,GE I,List.mem_cons.mp b,hR r z0,BJ z0 hi,TN (W6 z0),(by .exact KeyOrd.kle_trans z0 zA),vs=WI,BD q,j<ys.length,EH z0 V.str,VR UB,VR AHS,wds l,OH Unit,(by rw[z0];exact LX zA),p::r,(by rw[KC z0];dsimp only),(by rw[KP z0 List.length_map]),FiTx K C,WE qP.lookup,WG (AUB z0),d.names.length<=7,QF z0 rfl zA zB,IL (lq z0 zA zB zC),GC z0 0 U3,CY (BIX z0) (A4P zA),j<=k,rH a,kX z0 zA zB (WC zC),UW e1,k<xs.length,AJ o (J9 d z0) zA,AFN CM z0,(by refine IE ?_),Itl K a,gD z0 hr.mono zA zB,(by rw[gF z0 zA];dsimp only),AV1 vs,AV1 ys,yA size,(by rw[kQ a];exact z0 (A4T zA)),AG7 qL.length,A60 CSS,(by rw[RV r z0 zA I.tuple zB]),(by rw[BJM (HE g z0 zA)]),o=o',(by cases r;rfl),AGQ b,gR z0 zA E4 jaN,AW6 s.heap,BK2 s.heap,(by rw[HQ r];rfl),CR9 Loc,W i m σ H,K.In s.heap,(by rw[BI z0 j i]),CRI plainId_quiet,[wd "0"],AX7 k,EO K5 y,(by rw[FX z0 h1 h2]),(by rw[W0 b _];rw[lK ?_ c]),BLB vs,CY (AFT z0) (BKU "list" zA),CRZ PySem.F.plainAttrs_list z0 zA zB,q::qs,a4F z0 (a3o zA),BMK lN,t.led=AFU,thn (A5N z0 zA zB) zC,yE=KY,BLU∨AWA X.env.scope.names.lookup,(by generalize z0=H1 at s1 zA),.str (Str.ofString z0) zA,t.place.getD i 0+1,(by rw[AB Heap.size_push (AX1 z0)]),AEP _ (YU z0).h,a3e ns zs,(by .rw[xO];rw[A6Z (A6Y z0 zA e)]),(by rw[BJM ⟨g,DC (eX z0 zA)⟩]),AHC (CK z0) zA hz,AG6 (a2L z0 (a0L zA)),(by rw[AHW z0 zA us rss zB]),BJX "is_answer" 3 a1T,(by rw[CS1 b b.unheld]),(by .obtain⟨z0,zA,zB,rfl,_⟩:=h;rfl),(by .obtain⟨z0,zA,zB,zC,zD,zE,zF,rfl,_⟩:=h;rfl),key _ ⟨z0,zA,?_,?_,AH⟩,AY (T9 N src X.N scope),z0 zA qK s1 σ H1 _ zB zC,λv F=>(W v F).tk λc xs e=>z0,pU "_law_next" "_law_pot_here" "_law_many" a3F,(by have f:AVG d d.toArray:=by simp at h2⊢),(by have h1':AVG us us.toArray:=by simp at h1⊢),wX z0 i zA zB (Or.inl rfl),λ_ _ _ _ z0=>zA,pF Ok,AEO B0 z0 zA,YH es,KN (backTo z0 zA).any ((·.1)),VP Str z0,JA X z0 t,(arrOf z0).zA,OD z0 rss,.Attribute o z0 zA,λvs H Q E=>z0,qA Keyword,CXE P w,(pendingOf z0).zA,x5 z0 LK pos,dot r z0,s.toks+z0,Room k z0,s.heap.push z0,["rows",z0,zA],TQ _ z0 rfl zA ?_,ATZ z0 (xA "__debug__"),VT p,(by cases z),u::r,CompW src z0 zA zB σ Q zC zD,List.replicate z0 0,x8 z0 c,ffl ra ca z0 zA af aw,RelV v z0,OG "__next__",∀p,TZ->z0,pW "list_iterator" BIY,(by simp at z0),AU0 PySem.W.findIn z0 zA,wd "of" :: ns,CY (AF3 z0) zA,z0 rss cs zA,bump z0 j,rss.map λr=>z0,x5 (AEY z0 qN) LK qM,CQK w.params.followText,A4I z0 push,fJ z0 (AUF zA Q),SqAt k z0 l zA,(by rw[RK (z0>>=_)]),AU7 z0 X.K X.mg,z0 ns rss ss cs,Nat.ne_of_lt z0,(by obtain⟨z0,g,zA,zB,zC⟩:=zD),⟨qU,z0⟩,AY (z0 K zA zB),lo+k,C3 (a2k z0),z0<sizeLine,z0 s.heap zA,((show z0 from zA)),JN H' z0,a2l n z0,eU s h' z0,AFH b ah,pH O3 T.b_zip z0,((∀i,i<z0->zA)),(List.zipWith z0 xs ys).zA,AY (AUL z0),DO 0,AET pos z0,pR behindInMarks z0 zA,CQO base z0 zA zB (zC zD),MJ kf a b z0 zA zB,IT H' v z0,AR z0 h1 zA,VU z0 us,VX y z0,VY .non,AFK (A55 H z0),FN=none/\z0/\zA,(by rw[AV4 ex AUN z0]),z0 prog w zA,(by intro X z0 hw zA zB i qK s σ H E I zC st zD;subst zE hw zF),W.length<=z0,(by rw[z0,zA,zB];rfl),BK .str z0,(z0 zA zB).extBut,BH x z0,Q (some z0) zA,xD z0 OJ zA,fK q z0,y=.int z0,.int i t,BJA 2,⟨_,_,z0,rfl,zA,zB,zC⟩,z0 λσ2 H2=>tb (CR6 zA zB) σ2 H2,(by exact PySem.W.kia_one z0 I.kIn zA e QJ h),z0 (·.1),(by show z0;rw[DG zA zB]),(by injection z0 with e1 zA),excClassObj z0 zA zB zC,(by refine .inr z0),(by have:=z0;rw[QL zA]),(RT z0).1,~~~a0V z0,pF FnOk,YJ z0 Value.none,fA wpAny_bind z0,AUC p,AUD AFL,A5E s' z0,((z0 zA).take zB).zC,AEQ base z0 zA zB (zC K),z0 R1 (zA,[]),qI×qE,VW List.getElem?_eq_none O1 z0,((BJP (xS b))),(by rw[AW z0 z z]),(by .obtain⟨z0,zA,zB,zC,zD,rfl,_⟩:=h;rfl),A4H "dict" (.dict #[]),∀(z0:zA) (zB:Nat) (zC:zD),zE,(by obtain⟨⟨z0,zA,zB,zC⟩,zD,zE,zF,zG⟩:=id zH),(by rw[<-Array.length_toList,z0,zA]),List.Perm.append_left _ z0,AG z0 e1,AE e z0,xs.getD z0 0,aZ z0 .own zA,.cons r z0,EO d z0,tVar i,SqT K H z0 zA,Q (.bl z0) H,EL Hp ((z0)),RW (IC z0) zA,λH' s=>⟨z0,zA⟩,AUB "other",z0<2 ^ 62,AUD xH,.dK [],.dT [],xZ wpAny_pure z0,z0<rN 60,BS b o z0 zA,o.cls=.type z0,rK z0 1 A50 zA,λH2 s2=>z0,(by obtain⟨z0,zA,p1,_⟩:=zB;obtain⟨zC,zD,p2,_⟩:=zE),RB z0 s2 H2,∀(qK:DL) (s:qC) (σ:St) (H:Hp) (z0:zA),zB,{d with z0:=zA},(show z0 by omega),z0->zA->Bool,Vals (z0 zA) zB,(z0 zA).foldl,bc+1,ac+1,(z0 zA zB).trans,(by have:=z0;simp at this),(AVE).2,2 ^ b,((most+1)),A3 (G5 K DY z0),GP z0 (bG zA zB),pK E3 z0,IU X.env.locals,x9 xs z0,bE UO,AU9 "left",AU9 "seed",AU9 "many",GC z0 0 A7,BIZ z0 D,A5A ca,(z0++zA).toArray,A4Q (AF5 CRH),E1 lD,(by rw[AW2 z0 rfl]),J1 A7,G8 l ρ,(by rcases z0 with⟨zA,zB,rfl,zC⟩|⟨zD,zE,rfl,zF⟩),Obj.putSet d l,rawInt z0,z0<=10000,(z0).trans,((nomatch z0)),z+1,AE z0 (lq zA zB zC),wd "price",lo+x,(z0 x zA).2,(by rw[PP wpAny_holding z0]),HN z0 .cell,ID z0 (RG zA),EH wd z0,GZ z0 rfl zA zB,F0 z0 U.mono zA,x8 h.get? z0,(List.mem_filter.mp z0).1,frs l,ys.length<=i,YJ z0 0,I.pin p z0,(by rw[HI wpAny_pure]),DV 1 WH,YU a6W,bP (0<z0),bP (GY z0),frs outer,NiO kf z0 lo zA,d+n,rP a,rS (AG Heap.get?_update_other z0),Itt K a,AV3 p n,G8 z0 ρ=i,M8 D.ok,∀x c,A5W->z0,WF qL.any z0 (zA=k),AWZ its.toArray,z0 (Nat.le_refl _) zA,A5X st' a,λb o _ _ z0 e zA=>zB,a0M B4 z0,(by rw[AW z0 e1 e1]),D0 K z0 A7,(W4 L.size z0 zA).zB,λi h1 h2=>z0,∀ys H,z0 zA ys H->zB,wpS_mono (z0 ?step ?fin zA) ?post,kF (R.map V.str).eraseIdx j,z0 λσ2 H2=>CSI σ2/\zA σ2 H2 λb zB=>QO b (te σ2 zC λv zD=>zE) zF,BK1 map λ(PN j)=>DO j,ForInStep z0,(z0).toArray,(by rw[AHG z0 zA]),if z0 then AO zA else zB,(by simp[List.getD_eq_getElem?_getD,z0]),(by obtain⟨_,_,rfl⟩:=z0),(by rename_i hk),(by simp[z0,List.find?_cons,zA]),O.blt z0 zA,AI d,AG k z0,BG xs.length,(z0 (by simpa using zA)),FD H1 z0,BZ IsTp.new,i<xs.size,r.length=z0/\zA,2 ^ 64,((2*z0+1)),GO H1 z0 zA,(by rw[PP wpAny_tryCatch z0]),GP z0 (BJ2 zA),VT pt,KA hj,MW KF,IY xs z0,HR I,kI (VY (A57 z0 zA)),IF e,pS [z0],YN H1 z0 zA,kN "rows",YS z0 (b∈zA),ItAt k1 z0 zA zB zC,n<2 ^ z0,bS Option.some.inj z0,A51 its,WQ Prod.fst z0,(by rw[rJ a0c]),A5F Same.refl z0 zA,A5O 60,inV (z0 x) zA,AGC t',∀m,m<n->z0,λv z=>AFC,R (.ok (RH .ret z0)) zA,E9 x.toNat,BK7 os.map,lb.take nb,lb.drop ib,AWU intKind,EO xs.all K5,a1O ρ z0 zA,GD vs z0 v,(by cases(pZ AUN d)),BMB (AUV z0),CSW CSN,(z0::zA).contains,BH H1 s1,kH caps.map ovI,λi H z0 H'=>zA,bU fr owner z0,W2 a4f T.b_all (RU z0 zA),cJ (cM z0 zA rfl),LO (b.take i),λqK s σ H z0 I h=>zA,AXH t/\t.length<=2,A5Z++CRJ++BJ7 (CSF A72 caps),(by rw[xO];have e:¬z0:=λz=>BK9;have zA:zB:=zC;split),List.mem_cons.mp z0,List.range z0,us.length=z0,[AGI],(by rw[BNN]),(by rw[List.sum_cons]),this.1,if z0 then zA else[],(by injection h with z0 zA),(by generalize z0=H1 at zA zB zC),(by generalize z0=H2 at zA zB zC),AI va,BK z0 _,AG a z0,AG s7 z0,AG z0 D,AY A5J,(z0 zA zB).toList,z0 zA (List.mem_of_mem_take zB),.ok _,AE List.size_toArray z0,(z0 y zA).1,GD xs z0 zA,BH m z0,BH r z0,BH j z0,BH z0 d,Same z0 H',arrOf a,a1w a,(by .exact A71),(by have z0:qL.length=zA:=zB),decide_eq_false e,a0r e,hp.2.1,λz=>?_,CC z0 (zA i WM),eQ 5,if_neg b,JP if_pos,JP decide_eq_false,MU z0 (o:=zA) zB,AR z0 h2 zA,BJ z0 c,BJ z0 b,BIF Expr,BIF V,(by have z0:=zA (o:=DW zB) zC),vs=WN z0,PQ KF,BD h1,IS e,.v i,(by .rw[AB ZF z0]),wY ((LLI)),D4 z0 ?_,E9 n,(by rw[GG z0 wpS_pure zA]),(PU (by rw[zO])),JZ z0 rfl zA,r.getD i 0,KA (BKM z0),ATU s,LO l,ATV o,eW (CTV z0) zA,HR hp,BIK Prop,pS l,z0=pure (),its[i],s'.trans s2,YM List.getElem?_append_right,D6 ?_,absurd z0 AF,NA x,.a x y,.s x y,AEZ (zT z0),q _ cQ,bN l.Pairwise,UG z0 zA (lq zB zC),Q v H,Heap.SameBut.update ..,z0<2 ^ 64,ZA lM,A4Y G.mono z0,xM WH,ZB List.mem_flatMap.mpr z0 zA zB,Stp d z0 zA,O9 z0 A7,AFF qW,AUI .int z0,bZ a1J,kX z0 zA zB A50,MG K b z0 zA zB,AFK (IR p z0),AFN GV z0,AFN ZC z0,X3 hl,BJ6 59 z0,BJS 0 z0,AFR now,AFT m,CQM CTG,y4 .BoolOp z0 zA zB,gE v,yB .Add z0,yB .Mult z0,A9 b (WB z0 zA) rfl zB,rX (AU4),.bool true,(by exact ES List.mem_cons_self z0),yI wpAny_pure,yO False,BJH d,A64 .Mult z0,yR hR z0,VQ (xI qB),z0 lo n a,bJ z0 q q,Under now xs,CQV qL,LS (z0,zA,zB,zC,mg,k,k1),xs.length<=8,32∉x.cps.toList,DR o to,AVY x,AVY z,k z0 AF _ zA,V->V->A54,tG z0 j,AW4 H z0,BK2 h,0<=z0/\AIF zA,a≠b,⟨z0 h.h⟩,AH1 b,M3 h₀ h,CR9 Vis,A7A zL,Sm ys,z0 X (zA X.K),A7G CST,BKJ ys,λb u z0 q=>zA,AU6 BKP (xA z0) zA,AU6 CS0 (xA z0) zA,BKL a,AGK op b,BKT k1,A0->A54,PPs X pos z0 zA zB,AI6 t,k (cP z0),BLG qW,(by wp_walk using wpAny_loadPart' a),BLN YT,AY0 i,(by rw[FO CU k]),SqL K H p xs,BLS decide_eq_true,PI X tg z0 zA,BM2 Nat,AY7 UC,(by rw[AHD e e2]),AWY H' s'.heap,CSM κ,lo+z0<=sP,(UL z0).size_eq,(by .rw[BMR z0 zA];exact a1x e),CY i ty,.int a t,Y8 z0 (WB zA zB) rfl zC,BN3 2,kY X2 z0 zA nb,AFQ StP ys,lY a tA,BNE cps.toList,BNG hp,Room BX X.A,BNQ x,z0 K vs H Q y_3,CT3 none,gI n x,xR BN1 q,.dict es ep,λi h st z0 f=>zA,CTC o,(by intro _ _;rfl),CTP (W 0 m σ H) z0,CTR 0,(z0 i H/\A6U)∨(zA i H/\BNS (∃zB,zC<m/\zD) (CTZ zE)),CTU (z0 K d b) zA,t++BM9,(by obtain⟨z0,h1,h2,zA⟩:=zB),(by rcases z0 with w|w),(by unfold SetTable.runEnd;split<;>omega),BH H2 s2,Bel r ys,x::zs.map D7,DR l tl,.t y n,.m n y,A3 (CS4 B3 z0 zA zB),∀a,CTL->z0->zA,W2 B8 T.b_tuple z0,(by rw[RK (z0>>=D2 _)]),A4S .bl true,UM vs rss,xR (PySem.W.nsIn K mainGlobals z0) zA,Tk H H',AFE g z0 te zA H1,D0 K DY A7,(by rw[cG h h]),A5Q "rows" "caps",mR CQR CQR,entryFor table z0=some zA,AWE K8 T.b_range z0,LvF cs.length z0 v,⟨_,rfl,z0,_,rfl,zA,rfl,zB,zC,zD⟩,CS6 "free" a5D,λfs z=>x6,∃u∈L,AWM,It1 K k a,AYF 32 20 (ys:=z0),a8z kf a b,tgl row.length qO c,G7 qL k=none,wpAny_field b z0 (x:=zA) rfl,HA x st ps,.ins C dx r,(by rw[DB];rw[WL .inl z0 (YY hd p)]),IsEnum z0 e it zA a,C3 (yM K3 B4),z0 (us:=us) (Nat.succ.inj h),a1s z0 λl h=>zA,(by rw[gZ x y xs ys]),T3 ns (prices.map prO),AGL "least" 7 BNA a2Y z0,λqK s σ H z0 I zA=>zB,opI λz0 zA _ _ _ _ _ a q=>zB,∀(qK:DL) (s:qC) (σ:St) (H:Hp) (z0:zA) (zB:zC) (Q:zD),AL->zE->zF,(by rcases g with⟨qL,k,e,z0,l⟩|⟨qL,k,b,e,zA,zB,l⟩),∀(a:qB) (f:qE) (A:Around) (outer:JD) (s:qC) (H:Hp) (vs:A0) (Q:VK) (E:XK),BMG z0 qZ zA,(false,z0)::zA,arrOf z0,CY z0 ta,ATT pM z0,ED ⟨z0,zA⟩,eR funext z0,PR ((z0==zA)),z0 K zA zB=some none,CQC A4N (.set #[] 0 (.fresh 0 0 z0)),LR e,A4L z0 Str.join bk,((qJ)),RA o,z0 zA=BK .ref zB,z0 X.prog X.w zA zB,.Name z0 p,pI Str.ofString z0,CQE AF1,["one",z0],.Name x z0,A4I z0 objs.size,pk b l t z0,z0 X qK σ zA,e (z0 z),wpAny_mono z0 zA,kI (A4S z0 zA),A4H "list" z0,SetTable.bits h,Ans rss z0,rI0 λi j=>z0,BIT a,envOfC qual scope z0 f cd,pP F4 z0 A7,AF2 z0 size,BIO V.str bk z0,B5 z0 (B5 zA E6),kH z0 V.str,KQ Str.join z0 zA,λx c st'=>z0,IR z0 H',WF (xK z0 zA) zB zC,FD H1 p,SetTable.runEnd mask i,C9 z0 (AI zA) (C9 zB (AI zC) zD),PZ z0 us,∀z0 H',BL->zA->zB,(D8 t.mask z0 zA).j,(by subst z0;obtain rfl:zA:=zB),JR (z0).map,OA (BJ9 z0),(by rw[bC z0 zA List.mem_iff_getElem.mp zB]),B1 0,SoO kf z0 lo zA,JZ _ z0 rfl,z0 (.type zA),DP hl,ys++[z0],rows i,RH pyNext z0,IZ z0 zA[j],pY z0 rA,xE vs.toArray 0,z0 zA (wpAny_pure ?_),U4 mask i pt z0,SetTable.below t.place z0,⟨z0 zA c.h d.h zB⟩,F9 kf a b z0,[RQ],x::st,MI kf a b z0 zA zB,x5 (AU8 z0) zA pos,∃t,u=z0,CQT (IW LK),BJF LK,Same H1 z0,List.mem_cons.mp a,Wg x,W1 z0 xs,pU z0 "one" zA zB,z0 ns zs x,qT z0 .BoolOp zA zB zC,(by rw[qY wpAny_seqItems z0 zA]),Nat->Nat->z0,∀b u,xF z0->zA,a4J w t z0,DRaw z0 d es ep,⟨_,rfl,_,rfl,z0,zA,zB,zC,rfl,zD,zE,?_⟩,t.2.1,DO 1,HN z0 .local,(by have:=congrArg z0 zA),z0 t List.mem_cons_self,fC z0 zA (IC zB),z0 rfl zA (BN zB),EH E9 z0<=zA,A57 Str.ofString z0,AUO a.heap.objs.size,z0 λq=>zA CZ CS,.ok (.ret z0),call (.builtin z0) zA,IsTup z0 b its,CR5 F,z0 zA qK s σ H _ I zB,eq_of_heq z0,v.length=z0,hs.2,AY (z0 zA v),AO 2,(by rw[bC z0 zA Option.map_eq_some_iff.mp zB]),z0 prog w,PySem.W.findIn K z0 zA=some zB,i<=xs.length,AEY m qN,AU7 HOk z0 zA,AUJ (BJ4 z0),putK qL k z0,CR7 Nat.ne_of_lt z0,(by .rcases z0 with⟨_|q,zA⟩<;>rfl),AV2 v z0 y6,λi z0 H' _ _ h=>zA,Value.type z0,AY (z0 K C),(AVK z0).1,(List.zipWith z0 zA zB).zC,S3 st,0<r.length,JU SetTable.leap z0 zA,D4 z0 A2,VT l,F1 (RH z0 zA),xs[i],[(OG z0,zA)],RZ z0 AVX,pZ (AVS z0) zA,(show z0=zA by omega),.bool false,QC c i,AVA KF,TK prog w s.heap z0 zA,a0a (v:=z0) rfl zA QD,CRE xs.zip ns,AW7 true true z0 zA (OI zB) (OI zC),St5 z0 zA a b l lt ld us ds Ss,x.length<=z0,z0=runs.flatten.length,[tg],List.zipWith z0 zA zB,lo+MX,v.length=z0/\zA,RA a,PQ YZ,x=.int z0,(by rw[fF z0 wpS_pure zA]),UG z0 zA List.mem_cons_self,LL z0 2 [zA,"one"] zB,(s.heap.update a z0).zA,(by rw[z0,zA]at e;rw[CI]),CQZ (IR p (upd H1 p z0)),BK8 J.mono z0,Lst a v,pH B8 T.b_tuple z0,M0 f qS st (z0::rs),(by unfold pyNext;rw[PP wpAny_attempt z0]),(by obtain⟨z0,f1,f2,zA,zB,zC⟩:=zD it AF),g+st*i,(D8 mask p n).z0,M7 (c:=z0) (B:=zA) zB,a4u X qK H b,(by rw[<-z0];exact zA zB zC),(by rw[z0,List.length_cons,zA]),(by rw[Heap.size_push]),⟨GT z0 zA,zB⟩,(by cases r<;>exact z0),AI nt,.head _,Value.ref a,DA z0 (A4R zA) zB,IS z,(t.put z0).1,VZ ws.map,WE (BL9 z0 zA zB),typeIs_int z0 zA t,j-i,.Name y u,AFF xs.length,c∈fgs.cps.toList,W8 k l,EqV K H z0 zA y zB,CR8 B,qD Unit×Unit,TupsAre z0 vs rss,n-a,fs++zs,a3m K U3 z0 zA,fG x' (BP z0),CRY ys,(BKR).zip,(show z0<=_ by exact zA a zB),(z0 prog w).zA,(b,o),KN a i,EO a i,pR fr owner z0,YY t Q,CS5 us.toArray,wpAny_callSpecial?_slot (name:=z0) zA zB,bT z0 zA none CS9,⟨_,rfl,_,rfl,z0,zA,rfl,zB,zC⟩,A58 P w h a z0,A5Y DrAt ar as ac ap z0,(by rw[List.getD_eq_getElem?_getD,z0]at zA),(by simp;exact z0 zA zB),(by unfold z0 at zA;split at zB),~~~a3U,((-1)),(z0 zA).take,c0+1,AI x,BG t.length,AE z0 h1,z0.2.2.2.2,z0 x List.mem_cons_self,z0 r List.mem_cons_self,A9 z0 (A4Y zA zB) rfl zC,z0 X e t,DS m,DS j,DZ rfl,Sum.inr n,1<=m,KB .call z0 zA,Srt rss z0,xI qI,pendingOf s,rH c,(n,k),(by rw[GG z0 C1 CSY]),(by rw[DI z0 zA e List.mem_map.mp zB]),A5G (-sd),lH z0 bk,[e,it],(by rw[lP z0];rw[zA]at h),AV5 US,AV6 BLY,AV6 BM4,a i ys H,∀σ H,z0->zA,ID p (kM z0),BJN T4,BJQ j,R (.ok (CRW z0)) zA,z0 zA _ (List.getElem?_eq_getElem zB),xX z0 H zA zB V.int,AW5 AM,~~~a3V i,C3 (z0 zA A7),M3 s.heap h,AWP cs.length,z0 σ H1 Q,DF t ts z0,CRO w.params.followText,.frz o u,fP k x,CRX Came,PI X tg l z0,BLF z0 .ellipsis,∀x,z0=pure x,A59 z0 y x,a0n xs lo hi,TW (z0+UI*zA),ca x',y / x,wd z0 ++ bk,wpAny_bind (m:=z0) zA,fG n CM,BJC 4 7,(by rw[List.all_eq_true];intro v z0),hd ys H p,FU RE X.A z0 Q E s,EI j h1 h2,BM1 I.turned z0 zA f1,BC z0 A zA s s (e:=e) zB,E1 (a0q ns z0),(by refine JQ wpS_mono z0 r k f),qL.map (·.1)=IK z0,(by simp only[List.mem_cons,List.not_mem_nil,or_false,not_or]),z0 (base:=base) (P:=l.prog) (w:=w) zA zB zC,AXQ a b ha hb,a0i (AW0 z0) zA λl m h1 h2=>zB,(by rw[OU (λi m z0 H=>m=zA-i/\zB/\zC) zD];rintro i m zE H ⟨rfl,hi,p⟩),V.str z0,xs.sum-z0,z0=b.size,(by simpa[z0]using zA),z0.2.2.2,(by rw[List.map_cons,z0]),(by rw[z0,<-zA];exact zB),((if z0 then zA else zB)),AI s2.heap.objs.size,AI pp,AG z0 t,(by refine wpAny_call z0),(z0 (by decide)),AE (AWO z0) zA,AE z0 b,(BL3 z0).1,~~~a0H z0,Lsts H z0 zA,NY "int",DW xs,i<ys.length,List.mem_append.mp b,kG UE,decide_eq_false h,List.getElem?_eq_getElem h,BJ z0 i,upd z0 zA (DW zB) zC,JR L0.map,JR six.map,ID l z0,DS l,(by rw[List.getElem?_map,z0];rfl),IU e,OA CTJ,EA h1,RG j.map,RG d.map,RG d.sides.map,RG BKV,(by rw[pO R h]),MW i,A4M D7 z0,bH KW z0,b∉ex,eqV x y,pY PySem.W.keepIn z0,σ[j]?,xK List.range z0,YW UU z0,IY o ?_,.str w,xs.map λx=>z0,∀z0 H',zA->BL->zB,bW sU,UP t,AFG h'.get?,AUF EP Q,A5A D7,AUT ws.map,h _ ?_,gB la z0,rT z0 its,l.length-2,AV9 IG z0,AVH PySem.W.keepIn,(by rw[z0,zA,List.length_map];omega),sI wpAny_pure z0,.str x t,lo+x-1,GC z0 3 A7,BJU k.map,BJU CTN,F0 d p.mono z0,I.hok p _ z0,∀j,j<z0->zA,AH2 z0 st,(by rw[AWB List.length z0]),BKC h.Ns,AX0 v,la.take na,KU-at_,AI3 True.intro,AXJ (EU z0) zA,Bar F z0 j,LA.length-k,JR (FE A5H),min k n,OD zs qO,AY2 z0 z,CS8 A73,CY (AVR z0 fD) (tCB zA t),⟨xs,z0,BV⟩,(by .rw[List.pairwise_append];rw[AU z0 zA zB]),SetTable.runEnd mask z0,BN4 BL6 z0,BN5 vs.toArray,BN7 e.length,kU MH o z0 nb,BNM z0 ea,BMM JB z0 A5T,CSU D9,BNO z0 21,BNR ?_,D.nx σ z0,DR (AF3 AHM) z0,AY6 (kF z0 f),AIQ z0 x y v u,xs++ys,z0 (Str.join bk),decide z0=(zA==zB),Nat.le_add_right _ 2,RB z0 s2 H2 _ zA zB,λys H p=>z0,λq b=>z0 q y0,((∀c o,z0->zA)),AF8 "totals" "j",[DO (1+i),x],Nat.ne_of_lt (Heap.lt_size e),BJC x4 r5,BJC 150 40,CQY zH5 get?,BK5 "names" "numbers",BK5 "numbers" "width",(by rw[F2 List.getD_eq_getElem?_getD z0 List.getElem_mem _]),(by obtain⟨z,hd,vs,c,dd⟩:=xT a4H),BL8 (CU0 A6T z0),rE (z0 zA d f zB) b.h c,(by have:=O m e),JQ codeAny_mono z0 r s' zA,(by cases(pZ (BIT b) z0);obtain⟨z,hd,xs,c,dd⟩:=xT a4G),CTQ (osV an),λi ys H' h=>z0,(by rw[z0];refine mE p l zA;exact AJ k (A5F s.upd zB zC) (AXC l)),(by rw[AHF ⟨z0,zA,BNB p' zB,BMF⟩]),OR++(b.extract at_ KU).reverse,[DO g,DO st,DO l],(by simp only[List.mem_cons,List.not_mem_nil,or_false,not_or]at z0),out++a.extract ia gT,mirror IG lo YX ((YX-lo) / 2),(by have s':NZ (YN H' p z0):=s.upd hp;refine tL p zA A2 zB zC zD [];rw[zE];show Sub _ zF/\_),(by rw[AHZ cls dd data sl z0 zA zB hd zC]),⟨_,rfl,p,C,dx,_,_,rfl,z0,U.cl,zA,zB,zC,zD,zE,zF⟩,[AW9,DO 3,DO 5,DO 7,DO 9,DO 11],A5 (a1C z0 PySem.F.excBase_ValueError rfl PySem.F.excBase_ValueError rfl lB),(by obtain⟨⟨dx,ah,hs,h1,h2,z0,zA,zB⟩,⟨fs,f1,f2⟩,⟨zC,zD,zE⟩,ne⟩:=zF),I.tuple z0,wpAny_bind z0,List.getElem?_append_left z0,z0<=t.mask,(by rw[FY z0 zA]),(by simp;omega),(by rw[z0];dsimp only),⟨u,z0,zA⟩,(by exact hr₂.elim),(by rw[List.take_add_one,z0]),(by cases z0;rw[HG u zA zB]),(by rw[List.map_cons]at z0),(by subst z0;refine⟨zA⟩),(by unfold z0;dsimp only),⟨h1,z0⟩,(by rcases z0 with zA|⟨o',zB⟩),(by simp[List.append_assoc]),(by obtain⟨_,o,z0,_⟩:=zA),(by obtain⟨its,z0,zA,_⟩:=zB),~~~a9t,(by dsimp only;rw[W0 z0 _]),(by rw[List.getElem?_map]at z0⊢),(by generalize YN z0 zA zB=zC at zD zE),(by rcases z0 with zA|rfl|zB),(by obtain⟨_,_,_,_,_,z0,_⟩:=h),((CT2)),if_pos (z0 zA),z0 (List.mem_map.mpr zA),z0 (List.mem_of_getElem? zA),z0 (List.getElem?_eq_getElem zA),z0 (wpS_pure zA),xs.length+1,(by exact decide_eq_true z0),AI g,AI za,CQ z0 s2.heap.objs.size zA,AG j z0,AG ss z0,AG z0 hn,(List.getElem?_eq_none (by rw[z0])),AE List.length_replicate z0,AE K6 z0,jaC z0 lB,GD a.toList z0 zA,G3 rfl,List.mem_singleton.mpr rfl,AO q,AJ f3 z0 zA,YG s.heap.get? z0,BP x,a2c e,BN AH7,CC xs z0,n-1,DP D,DP (AJ z0 zA zB),GE N,.inr x,.bool b,a5s b,0<=AJL,K.In h,BQ d,ED (DZ z0),BJ z0 e,BJ z0 h1,TN (W6 (z0 zA zB)),EO z0 ((· < 128)),A6 c,GN xs,(by have z0:=s2.upd (o:=zA) zB),.Name y z0,A5 (AEO B3 z0 zA zB),HN z0 .free,IS c,IS List.mem_cons_self,D2 none,LP qQ z0,GP z0 (A79 zA),(by rw[List.getD_eq_getElem?_getD,z0];rfl),Str->qD NameKind,VR Nat,VR qI,VR Str,D4 za z0,LA.take k,HA z0 zA A6Q,IU [],LB.drop n,EA q,A5 (G5 K DY z0),λi _=>z0,1<=ns.length,1<=d.names.length,List.mem_of_getElem? l,OH TR,F1 CT6,n::r,KD "len",GS lv.sum z0 zA,VZ Ls4.map,i<=k,i<=n,HH a,IF dot,x > 0,if_neg λz=>z0,(by rw[z0]at h;exact zA h),x∈D,x∈Ls4,.no f,GI z0 A2,u=Value.bool z0,b∉X.fs,NA "len",AEZ (AJE z0),Sz xs,(by rw[KG Sub.one]),(by rw[LU];exact z0 zA),c≠z,RZ xs z0,xI Nat,v∈g,(by congr 1;funext z0),AF3 AWX,xs=ys,(by rw[S1 Array.getElem?_toList z0 zA zB]),bQ s' z0,List.mem_append.mp m,JU D8 z0 n,AF6 A,x<=y,UH List.getD_eq_getElem?_getD z0,List.mem_singleton.mp q,z0<2 ^ 63,bS z0 _,ZA o,NoNum w,WO List.length_map,kS m,WP .In z0,WQ not z0,bW Unit,A56 c,BIX op,a1A z0 A7,rD "len" z0,rD z0 (zA X.K),SJ Hp,ns.length<=n,r::rs,UT (z0 zA).set,A5A ((·.1)),w::vs,rP p,AFR u,AFS CUI,gE l,IsPair z0 zA x y,cK h,c∈z.cps.toList,rV cF z0,absurd rfl z0,cR s,yF .Subscript z0 zA zB,yI wpAny_letGo,yJ AXA,O7 ts,AL->AZG->z0,(by rw[GG CU6 D6 z0]),AVH keepIn,A64 .Add z0,A65 (GY r.length),A69 V,hX z0 (AJ8 zA),Value.str x t,PA X es t,BJN a1t,BJQ C,a<h.objs.size,o=.tm,y∈ys,AE (rC q z0) q,AGP t,t9 IX,A6O [],AW0 a9E,zK 2 z0,mX (pK E3 0) z0 zA,AVM a1V z0 BJG,BJY V,AW5 i,AW6 h,AGX most,(by dsimp only[B1,ovI]),pK C6 1,AWF n z0,AWL h,qO.Perm F,(by rw[AB e BKW]),A7F y,BKJ xs,∀H',AZM z0->zA->zB,GS z0 Nat.lt_irrefl _,(by have z0:NZ zA:=A5F A7E zB zC;refine zD),BKL c,UM zs qO,A05 (A06 z0) zA zB,AGK .In b,BKT k,zs.map some,na-at_,j∈tH,AI2 T.db,A3 (D5 (z0 K LT zA)),HE z0 (OI zA) ?_,ltAt' z0 zA>>=λr=>zB,AIC X.base.get? z0,xL 1 a9r z0,AXO CRM z0,.dK qL,.dT qL,AXS 60,dx≠x,(x,NameKind.cell)∈z0,(by rw[<-Array.toList_push]at z0;split),(by rw[<-a3c]at z0;split),FD BKP (xA z0),FD CS0 (xA z0),AJ4 AH7,AJ6 3,T3 ns cs,W1 v r,W1 v ns,bI H [],AJD Y5,(by rw[AX2 c n]),(by rw[AX2 c c]),AXR C H',CSJ SysOk,St->AIB z0,a<=topN,p::P,(xs.map (·.1)).Nodup,⟨z0,zA,zB,rfl,zC,rfl⟩,⟨z0,AXG "start" zA⟩,AYP (A4R z0) zA zB,TW (A6S AYD),(by rw[IM (List.nodup_cons.mp h)]),I.kept (t':=tk) z0,AZ3 s.heap,z0 K x y H Q,AZL o,N-d,us.length<=6,BNU b.length,ws++c,(by refine iD z0 zA (BLA zB)),richCompare .Lt z0 zA,CT1 z0 filterMap,(CVY:qI),BNY f1,a9I K z0 zA CV,CC σ cA,DR i ty,(by have s2:=s1.upd (o:=z0) zA),BO7 n,(by rw[PX s2 H1 z0 zA]),bE (DS i),QA x y,BOD f,CT5 AWX,A6H (A6H AYN),AW4 h.get? BKK,A02 z0 q hq,c0<=ia+ib,BKN j.map cD,(by rw[OY t (AXI z0 r)];rw[CI];rfl),AIR Q z0 (AL->zA),qT z0 .Assign [zA] value zB,BLT σ v,(J8 ns cs).z0,⟨_,rfl,_,rfl,z0,zA,zB,zC,rfl,zD,zE,zF,zG,zH⟩,CTI C,x5 (AEY "get" qN) z0 qM,c 0 [] H1,0<=z/\z<=301,BP4 c5C z0,p<=xs.size,mi=most,x'::D,vs++dvs,names.foldl (N2 z0) zA,.ext λh=>z0,(by rw[AC z0 (yT zA) zB (yT zC)]),(by rw[AZ z0 List.mem_cons_self ..]),M b A,x=.bl c,A3 (BP2 E4),DA A50 A50 z0,pJ some SF,Fw n a,A5S x c,A5X st runs,∀o,z0->BPE CT,∀H',BL->z0->BLD (AI D),AXE Builtin.SmallTypes.nextOf it,AJ5 z0 y x,(by obtain⟨⟨dx,tn,z0,zA⟩,⟨us,zB,zC⟩,zD,zE,zF,rs,zG⟩:=zH),10*BMO t.mask,ObjOk X.prog X.w z0 zA zB zC,CVP z0 I.pin,B<=CUB,A5Z++CRJ,(by rw[AJ0 CB]),FB×AA,(by obtain⟨z0,h1,h2⟩:=zA),(by subst hj';rw[BI z0 i j]),(by rename_i z0;rw[SH zA zB (BMY zC)]),(by simp only at z0 hd zA zB;subst zC hd zD zE),a4b z0 [-1],a5c ρ z0,α->β->z0,X.env.frame=some X.env.locals,.cons _ t,modify λs=>z0,tmW x n,z0 b (λh:b=S=>zA),GF q q,GF h yY,SeqAt.EqAt z0 s zA zB (zC zD),(by .rw[AB Array.getElem?_toList (lZ z0)]),A3 (z0 (hp:=PassesOwn.leaving)),Answer rss cs.length z0,ATX AD AD,Nat.le_trans cF AF,kL (z0 σ H (zA Q)),v∈X4 cs,WP op r,(by rw[xO];rw[SH e z0 BK9]),(by cases(pZ z0 r);rfl),AJ o (J9 P z0) zA,fY _ False,(by rw[lF z0 (BM0 zA) zB Heap.size_push zC]),lG yS BLO,y4 .Constant z0 j zA,Stps e z0 d',z0 λz a=>CUR,yF .Constant z0 j zA,SqL K H a zJ,AFE CVR T8 te tW H,AGV ent x,a0n z0 none (some zA),4*(xs.length+1),BKN d.map OQ,∀b u,CUH->rQ->z0,(by .rw[BW z0 e AH AH]),(by .rw[yX ys];rw[CG z0 List.take_length BKW]),na+nb+c0<=BKS,⟨z0 c.h d.h⟩,z0 mask gY AUK zA,(AXB p.i p.perturb).1,.Slice lo hi none p2,AZJ "a" "b",∀x y H1 z0,zA,z0 AZC (fM (fM zA)),ρ 0=1,∀y,A7Y z0 y->zA,(by have z0:es.size=zA:=by rw[AI0 zB List.length_map]),EU (A7J 0 lo),(by rw[BO z0 c b d]),W1 (AI OQ) ET,YP "show_vector" 1 "one" spShowV,(by rw[cL f];rw[QI f rfl]),A66 s.heap it i,AVQ out ia ib,AX8 (BOU z0) zA rss sum,λb o e n=>z0 b o (cE zA n) n,(by simp[T9]at h),(by rcases r with⟨_|q,r⟩),AllD D a0,k .tm z0 H1 s1,k b u q,λb z0 q _ _ _=>zA,AGM out na nb,s b u a e,CV8 BN6 DK,λA R s=>z0,(by rw[z0,zA,List.take_of_length_le];rw[BOO List.length_zipWith]),(by .rw[A7W (z0 (λj=>zA) c d step)]),(by unfold z0;rw[QP zA h1 h2 zB zC]),(by obtain⟨_,_,_,_,o,_,_,e,_⟩:=x),⟨z0,(U0 f zA zB).symm⟩,(by first|rw[AX (AVJ wpAny_typeNameOfWhole_keyiter I.typeIs)]|rw[AX (AVJ wpAny_typeNameOf_keyiter I.typeIs)]),⟨z0 zA d.h e.h f⟩,qD (Array Keyed),pushCells (z0 AHX) scope.names,A8 e (n.free z0),(by .exact z0 x hs a),GS List.map_map SqL.of A2,LnD n x zs,LS (AO none,MX,RD),AFE AV8 z0 (tVar 0) zA H,a2a n DY B4 z0,ObjOk P w z0 h' zA zB,K4 z0 (J3 K 2 (AUS (AER zA zB) (AER zC zD))),(by rw[KC (JQ C7 z0 x f1 f2)]),(by rw[AGU z0];refine a0O zA zB c zC l ?_),a7J src z0 g zA te,BL4 "row_sum" "row" a0f,(by unfold z0;refine wpS_forRange (I:=zA) ?step zB zC),CUM ps x m o,(by rw[DI j a e List.mem_iff_getElem.mp z0];rw[zA]at a),a2V C z0 (zA C) [] E0 AI8 zB σ H Q,a4t kf la lb (z0++zA++zB),(by rw[List.all_map,List.all_eq_true];intro x _;rfl),(by .exact z0 x q y b),zI f ⟨oc,od,.func z0,zA⟩,∀i j,y7->iA->z0->zA,⟨_,rfl,_,rfl,a,b,z0,rfl,zA,AH,FV,zB⟩,(by rw[CVZ z0 zA];rw[DI zB zC e2 zD hy];subst e1 e2;clear hx hy),(by rw[CW0 (AJ z0 e1 na) A2 zA (BLA zB) zC zD zE]),(by .simp only[List.mem_append,List.mem_singleton,not_or];rw[AQ z0 zA]),(by .rw[BK4];rw[AY1 e1 (JZ g r e2)]),AUA outer a i E,z0 C CN CT vs H Q E,step (o:=z0) (fl:=zA) (v:=AI zB) zC zD,pU "filled" "text" "empty" spFill,PassesOwn RE X.A X.env X.xe,(by obtain⟨z,its,n,r,e⟩:=z0),(by rw[mK];exact z0 a t' b t),LL "read_number" 3 ["word","top"] spRN,LL "_law_of" 2 ["_law_pot_here","_law_some"] c4u,(by refine cN false p _ YQ z0 ?_),(match r with | .done c'=>CSE z0 | .yield c'=>CSE zA),∃(n:Int) (z0:qI) (zA a:qE),zB,AUH z0 zA λe s z=>absurd z (zB e s),(by .rw[sR p z0 zA zB ns rss ss cs ps]),∀q zs H',BL->BN9->UM zs z0->tF,(by rintro z d st' _ z0 ⟨g,e1,h1,h2⟩),(by rw[KA z0,e]at e2;injection e2 with e2),⟨_,rfl,p,C,dx,_,_,rfl,z0,U.cl,zA,zB,OW zC,?_⟩,(by rintro d st' ⟨g,e1,h1,h2⟩;rw[AQ g (DC ⟨e1,h1,z0⟩)]),λ_ _ _ _ _ st h=>z0 st h,λ{_ b l t k} e=>AYH (z0 b l t k) DGet.k (k:=zA) e,⟨_,rfl,z0,_,rfl,zA,_,_,rfl,rfl,zB,zC,?_⟩,(by refine⟨?_,BIO .str a ys,H,WD,HJ s.toks,q⟩),(by refine PySem.W.methodCall_KW (pl:=pl) z0 zA;obtain⟨x,H1,zB,zC,a,dx,fs,ex,zD,l,q⟩:=zE),∀{H:Hp}{b:qE}{l t k:Int},BLZ->DGet H a (AWG z0) zA,(by obtain⟨x,ex,m⟩:=J4 k h1';obtain⟨y,r,o⟩:=J4 l f;exact(g j x y ex r).at I (by show CUW;exact a9w i z) m o),model z0 w,qA (qD z0),(by rfl),{cls:=z0,data:=zA},(by rw[bA sizeLine_eq]),AER z0 (L2.nd zA),Keyed->z0,qA (qA z0),G9 z0 P w K mg base N zA,x=.ref z0,z0 (Str.join zA zB),z0 (decide zA),Vals xs z0,PotAt z0 a b,.Compare a z0 zA pos,u=Value.ref z0,eY Cmp A s,z0 kf st a b zA zB st',kindOf z0=κ,BIS [z0] [b],#[IX,A4V 0],z0 zA vs H Q E,z0 ns xs a,bE none,RJ/\x<=z0,YH [],.seq z0 n,BIP .bl z0,E7 (top z0) zA,VZ (AU3 z0),X5 AU2 z0,FW cst z0,pP D0 z0 A7,z0=pure false,[DO z0,DO zA],Nat.lt_of_lt_of_le (z0 zA) zB,∀z0 C s H ex,zA,(backTo qM (YH z0)).all (λx=>! ET) && (backToKw qM CQN).all (λx=>(ET).isSome),O0 _,ATZ z0 sysModules,Pl rss z0 xs,StateT SortSt Sem (z0 zA),X.blk N scope a z0,AllBare z0,(by .exact wpS_pure z0),z0 ns zs y,AUQ g,fC z0 RP WJ,xQ z0 g tk os,z0 rss ss cs ps,(C0 src σ).set,["names",z0,zA],JR (AU3 z0),TyOf K H z0 zA,funext λ_=>z0,LL z0 zA ["rows","one"] zB,Int->Int->z0,(by rw[pL A.in1 (z0>>=_) _]),z0 outer s H E,(StP rss cs ys).z0,SRaw z0 a es ep t,(by show z0;decide),(by dsimp only at e1),["word",z0,zA],BG xs.size,kF z0 ovI,F0 c z0 (YI zA),AUG beq_iff_eq.mpr,AUT ns.map,A5 (D5 (pP z0 zA zB)),z0 mainGlobals mg,start N vs,BJB (z0 zA zB pos.line X.env),tCB (z0 K) t,(by rw[PY (wpAny_field z0 rfl (x:=zA) rfl)]),z0 ca af aw b L F W,kE z0 scope,a0q ns z0,xF h'.get?,JT X z0 tA,bV R5 z0,z0 λx=>Value.ref zA,A4Q (AF5 (CQP)),A5R AGD,O7 AFD,(R9 a xs).1,a.size+b.size,SqK z0 K H a xs,tBM K z0 zA to t,A4L qO.map dot row,hd H' p s hp,List.replicate z0 zA,X.A.units+1,AO k,DP (GQ z0),DX f,GN [AI z0,zA],R9 rss z0,pU z0 zA "one" zB,z0 (eqU x),JU a3O i pt,GO H l z0,A5U (QH v z0),(cellsFrom z0 zA zB).lookup,BK3 (PN z0<1000),IntsAre z0 ns,r=.int m,E z0 none H',λt:qB×V×qI=>z0,IsZip z0 z TI TO zA,ys.length=z0,if z0 then 1 else zA,show MY z0 from zA,kE assign z0,Builtin.Tuple.tupleExact _,FD failedOf z0,EL z0 Heap,VP z0 CRV,ms.getD j 0,RA b,MZ us,eval e z0,if_pos (z0 e),xR z0[i]? zA,EO X.fn x,starEach es z0,AV9 bF z0,yK fX z0,Ls now xs,CQV lC,CQY z0 objs.size,z0 (t':=s.toks) zA zB zC,z0×Nat×Nat,Rs z0 rss,l++[j],[b,c],CRQ #[],CRU s',h1.push AVI,wd "+" :: BKQ,g x z0 H',wpS_forRange (I:=z0),∀x H',z0 i H x H'->zA,CR4 r n,λx y H Q=>z0,EI x H' y,AF6 (A.deeper (CRL z0 zA a))->zB,EE b o e z0 zA zB,.ins C dx (C9 z0 zA zB),z0 zA ar as ac ap,⟨_,rfl,_,_,rfl,rfl,_,rfl,z0⟩,[NY "ValueError",NY "Exception",NY "BaseException",NY "object"],∃t,z0 zA zB t/\t {nx:=GF H' AGR,rt:=Q} BKD H,st'=st/\∃l o,c=bL l o/\l<o/\z0,SetTable.turns z0,s.heap.objs.size+z0,z0*cs.length,(by rename_i z0;rw[zA]at e),BG G,Nat.succ_pos _,~~~a1p z0,(by rw[List.map_map];rfl),x8 h'.get? z0,kI (z0 K H' a zA),z0 (beq_iff_eq.mpr z),kN "lay",DV 1 UC,owner[j]?,kS n,SE jv z0,(D8 mask z0 zA).j,A4H "list" (.seq z0),b H' CB,b0K P w a z0,QF _ z0 zA rfl,AH4 zs,CRB "most",λσ' H' z0=>zA,AWH::outer,BK0 (BIM z0 qual zA f a A),(E9 n).z0,(AFV z0 zA).get?,(A6 (by rw[ZE];rw[AW z0 q q])),CRR xs.length,BKE swapsWith z0 (AO zA),z0 ET==AO zA,((RW RP CRN)),SetIt w z0 it a,CSH z0 (I.hok a _ zA),(by rw[isSubtype_type];kernel_rfl),Nat.mul_le_mul z0 (Nat.le_refl zA),ovI (prO x),h z0 (List.mem_cons_self ..),AH8 rfl _ rfl z0,∃N:UB,(∀σ' H',N σ' H'->z0)/\zA,Array.getElem?_eq_getElem z0,a.length=z0,reverseSlice' z0 zA,Nat.mod_lt _ z0,CQ h'.get? z0 zA,AG T.da z0,AE z0 lA,AO 4,wd "rows",wd "beyond",wd "cheapest",rEqD K z0,BQ p,z0 X st t,EH E9 z0,PZ ys z0,z0 l items,z0 l vs.toArray,[(false,z0)],z0 PyProof.Rows.F.plain_set_update_loop _,b7f ns zs z0,ns[j]?,((x-1)),x=.non,UL z0.2.2,CM::us,rT z0 xs,LS (z0,zA,zB,zC,mg,k,bc),P.zip vs,A6E ys<0,A4M wd "0",(by rw[AZ z0 Nat.le_refl _]),A4I xH get?,CQ mg z0 (YO zA zB),CS3 z0 t.place zA,Un z0 zA H H' s.heap zB,kY X1 z0 ia zA,λt r=>t*z0,LL z0 zA ["names","words"] zB,λσ H R=>z0,lE cst z0 V.int,BindsTo s fd z0 zA,A6V z0 h' s.heap.objs.size xs,a2O sz lo z0,∀p∈X.pn++qK,z0,G5 K DY (z0 jaN),(AWQ b (CSP z0)).trans zA,z0 (CSX q (zA q)),∃l r,c=bL l r/\z0,(K w.params).In z0,seqObj "tuple" vs.toArray 0,∃σ' H',BM7/\z0,.ins C dx (C9 z0 (AI zA) zB),AVQ MX fH qX,AGM qX MX fH,pW "range" #[A75 lo,YO hi u,.int 1 v],CSV (∃h' tk xs,s₂=bY/\z0/\zA),Fin CN z0 H Q E o,LC rfl l o f g m z0,z0=rss.length,["_law_script"],(by rw[WX z0 zA]),(show z0 by rw[BMV]),(by dsimp only;rw[A5L z0]),show z0 from rfl,if z0 then yH zA zB else zC,if AY z0 then zA else zB,(show z0 by simpa using zA),(tupleKind z0).zA,s1.toks+1,AI M,AI I,BG its.toArray.size,AE List.append_nil z0,AE Array.getElem?_toList z0,BP sz,(SetTable.insertAt z0 zA zB).zC,DO (-x),isNm x,2 ^ 62,JR (FW z0 zA),pJ ForInStep.yield z0,List.mem_filter.mp z,FH (AY9 z0),OA c.map,sdC n,(by rw[BM (List.mem_append.mp g)]),PV ys.map,EU 0,IW (z0++bk++zA),xs.length<=i,GS List.length_map z0 zA,AF2 st z0,AU9 "own",Q (BJ5 z0) H,UH z0 List.map_append,GC z0 0 B4,ZA (RG z0),AUE BX,WS h1 z0,xS l,Sem qB,AFQ Over z0,λv=>AY8,g i j,lQ (atI xs z0),AG4 codeIn z0 zA,gO z0 A7,DF y ys (A5O z0),CQZ (A55 H1 z0),(k,y),F1 (call z0 zA zB),IZ xs x,WG [z0,"_law_pot_here"],(by rw[BJZ (tryCatch z0 _)]),(by rw[BK4];subst e1),pK F5 1,bT z0 "_law_pot_here" bK zA,f+s*k,(by rw[AHA z0 True.intro]),BN2 λi=>z0,CC es e,h z y0,AHT hi,.Tuple es z0 zA,yN y x,(pendingOf g)[z0]?,AXX cs.length z0,AL->cU->z0->zA,(by rw[List.getElem?_append_left hi]at e),(z0 zA zB).map (·.2),TM H a .dK z0,SqL K H p ys,n∉AHB z0,backTo pos z0,a.getD z0 WM,BMU e5,cT z0 zA z (False.elim z),CK qL.length/\z0/\zA,∀x,ZH∈z0->yV,AY4 BM6 push,Fun K x z0 st f zA,F4 K z0 (Y7 A7),prices.map prO,⟨xs,AXF,z0,zA⟩,(by unfold argsOk;kernel_rfl),(by simp only[List.lookup,hb,z0]),(by unfold leK KeyOrd.kle),.dK (a0X z0),eqV z y,Bel f ys,bL MX RD,xs.toList.reverse.getD m .none,AG8 M3 h',AVJ wpAny_bind (m:=z0),BK ca z0::bE (BK zA zB),RelV AW8 t.1,AID CTA CTB,rF BJS 0 v,if i<0 then -i else i,z0 zA d zB es.size ep,DW (prices.map λx=>BNP),GK z0 v (bS zA v),wpAny_callSpecial?_slot (name:=z0) zA zB (sG zC zD zE ?body zF),Un fs ex H z0 h zA,.ListComp z0 [⟨tg,zA,zB,0⟩] scope pos,ObjM z0 x dx C zA,BC z0 h' h' a zA (o:=zB) zC zD BV zE,(by refine BC O6 xs z0 zs zA zB (OM zs (BL/\zC)) zU (AX4 zs ⟨(CRK).1,(CRK).2,zD⟩) ?_ ?_),UR z0 _ rfl (QM zA) _ rfl zB zC zD,(by intro z0 qK s σ H Q I h),∀(kV z0 pm:qB) (an:IN) (zA ct:qB) (us:AN),us.length=ps.length->CTS zB,z0 Sum.inl,F.length<=z0,(by rw[L1 z0]),(by rw[Bool.eq_iff_iff]),(by obtain⟨hi,_⟩:=z0),⟨o.slots,z0⟩,(by dsimp only;by_cases b:z0),(show z0 by exact zA zB),(by simpa[List.getD_eq_getElem?_getD,z0]using zA),AI j,AG I.hok z0,(by refine wpAny_Call_Name_kw z0),(by refine wpS_pure z0),AE z0 (lq zA h),(CS7).1,this.2.2,ns.getD z0 0,AO y,pF MakeOk,BP x',BN LT,BN (BJA z0),q.2.1,wd "x",λz=>z0 (zA z),PN m,(mH z0).2,(CS7).2,Option.some.inj h,BQ b,v.getD j 0,Nat.lt_of_lt_of_le a z0,EO z0 b1R,0<v.sum,z0 zA (Nat.le_trans zB zC),IS g,GP scope.names z0,GP z0 (D x),List.replicate k z0,OA j.map,RG CV5,DC (UP z0),EU BX,KA f,F1 (AWK z0 zA),YJ z0 a.size,TW (hi-lo),TW ((z0*3+zA) % 8),valueAt z0 k,kJ A.units z0,JC a1F z0,(by rw[HI wpAny_holding]),Value.ref C,LW<0,GU List.size_toArray z0 zA,_+1<=_,a+o,YW (ZD z0) zA,Heap.size_push ..,WN z,QM hn,OV r.length z0,F0 c G.mono z0,A53 x,A53 (BOF),fM List.mem_cons_self,xP H' z0,AUG h1.trans,WyO ns rss z0 zA,AUO b.heap.objs.size,a-o,AFM e,z0 λv=>Lst zA v,(n,x),(by rw[GG z0 C1 (IE ?_)]),A5G v,A5I (sF z0),CameS rows z0 zA,z0 λj=>A7P,∀i,NB->z0,rZ v,AGC kO,mD I.cell,(x,v),λx y=>DO z0,E9 z.toNat,λu=>CUT,32∉y.cps.toList,A6N ys.map,sZ (AWK z0 zA),BJV CM z0,IZ ((z0)) x,GI (XE q z0) q,M8 ok,(by rw[tP];rw[kQ c]),CRB "one",AJ3*(z0+1),(show z0<=zA by exact zB zC),AHL wpAny_onRaise,BKM c,A07 bm.contains,SetTable.insertAt es z0 zA,JPs X pos z0 zA zB,z0 i v hi,Bar z0 ys j,fY q rG,[x,y],BLI A.in1.handled z0,z0 S _ (BQ zA) zB,BLL st',CSJ a3E,(by have z0:X.A.in1.handled=none:=zA),∀h',z0->Heap.SameBut it s.heap h'->zA,eW IG ((n-1)),BMX SqT z0,cE j a,CSQ s.heap.objs.size,AWV QG z0 BL1,SqT X.K H a z0,BLH (i=j) 0,BNL s.heap,z0 (MZ (VT zA)),λq z0=>d q zA,F++z0 λv=>A5J,BNW BMT,eqV y x,JU Lay owner z0,(by rw[CT4 z0 List.map_append]),z0 λx=>V.ref cD,(by rw[AFY (RH Builtin.SmallTypes.nextOf z0)]),(by intro x a;rw[A7S z0]),∀m,m<z0->lO (YK zA m),CTE pos',BOS z0 zA s'.heap,AZ0 n x z0,.int (g i j),z0+1=a.size,(AYR A6R).z0,z0 (λx y=>zA) V.int,(none:qD z0),FD fs.lookup m,∃m,m<n/\z0,.UnaryOp z0 a pos,adv t.mask p,RO H1 lM,CUG z0 its,CUK BN0,CUO List.length_append z0,CUU A6R,(by refine rS (AI1 z0) ?_),codeAny LM A z0 R s,(by rw[mU u z0 a4x r]),AIJ (z0 e1 e ?_),⟨_,rfl,z0,_,_,zA,rfl,rfl,zB,zC,zD,zE,zF,zG,zH⟩,Ea z0 us Ss,z0 λH2 s2=>HJ zA,if x=y then z0 else bX x y,(by cases z0;rw[HI wpAny_truthy_bool]),(by simp only[List.length_map]at z0 zA;rw[PX zB zC zD zE]),(by unfold topN at *;omega),cellsFrom z0 scope.names zA,(Sum.inl:Int->Key),AY (PySem.W.plainGet K C z0),(by have:=z0;rw[AZ zA zB this]),OvB n z0 rss,CQC A6J (.seq CVE),wd "sum" :: (z0++CR8 zA),AEY f pos',GZ _ _ rfl z0,AF8 "width" "most",AF8 "at" "one",fR a1H AH,WW z0 (k zA AF o e),AUX List.range z0 j zA,xQ h g t os,A5Q "most" "one",A5Q "word" "numbers",(by rw[gN ltK];rw[fQ]),z0 λx a=>h x fS,z0 λ(PN i)=>UJ,mP f z0 f,BJT "row" "side",BJT "words" "kept",BJT "numbers" "alone",List.all_eq_true.mp z0 _ (List.getElem_mem zA),b6r z0 (B1 i),AGV hsh ET,CR4 ar tn,AG6 (a1z z0 (a0K zA)),BKX ns.length none,∀b u,z0->xF zA->BKK,rF σ.set i v,["told","row","most"],["told","counts","width"],["found","one","j"],EE i z0 zA hi zB q,RO z0 (xE #[] e1),z0 i n ep t,BOQ "TOP" 1000000000000 z0,(by rintro i x ys H' hx ⟨s,rfl⟩),CTX z0 a0j a0j,(l v g).sum,⟨_,rfl,_,rfl,a,z0,us,rss,zA,rfl,zB,zC,zD,zE,zF,zG,zH⟩,starEach LK z0=ATT (BLR zA) zB,[YV "way",YV "lay"],(by show(_>>=_)=(_>>=_);rw[A5L z0]),HT.lexLt iB CV0,List.foldl z0 #[] (BKX zA zB),AJ h WD ?_,∀c o,z0->zA->AFG zB,(p,w)::BOL,(∃xs,z0/\k=! xs.isEmpty)∨zA,sIx items.size items.size hi,(by refine EB z0 i h1 h2),(by rw[S2,I0,a5k h0];omega),∀base:Heap,z0->CUP->zA,TK prog w z0 r a,[qO.map (dot row)],AZK l _ AVC (A7Z p1),Turn P w K tg z0 [it] it (A7H zA),⟨_,rfl,p,C,dx,_,_,rfl,z0,U.cl,zA,zB,zC,zD,zE,zF,rfl,_,zG,?_⟩,∀(s:qC) (z0:qB),BOY (MZ zA) [(zB,zC)],(by obtain⟨r,b,its,_,e2,z0,zA⟩:=zB),["rows","sides","width","most"],(by rw[EZ z0 f1 f2 zA id I];obtain⟨od,e1,e2,zB⟩:=zC),["rows","caps","found","level","room"],(by rw[LV codeAny_builtin PyProof.Rows.F.entry_set_update_loop];rw[BOC Around.under_plainId];show KZ A.in1 (AVF I>>=_);rw[AX z0]),λH2 z0 c=>k H2 zA (s1.off.trans (c.mono λb m=>zB)),BC I.step g' s.gens d' s.drawn z0 zA,OwnCls z0 zA BML "ValueError.__new__" mg base,(by obtain⟨⟨dx,ah,hs,g1,_⟩,_,_,_⟩:=zR;exact z0),BC a2S k k l p (items:=its.toArray) z0,∀{xs:A0}{us:AN}(z0:Nat),ZK->zA,∀(z0:zA) (qK:DL) (s:qC) (σ:St) (H:Hp) (zB:zC),zD,[A7D,BO2,BO3,BO1,rW,yG,rW,yG],(by intro a b c d e f g i j h),(by .obtain⟨its,r,pl,hz⟩:=z0 a;refine zA (eqU x) zB (λw hw=>a1o c b r fs w CUA) (BLX ?_);rw[CG (show BL5 its.toArray.any=BL5 its.any by simp) (a3A r fs) q]),beq_iff_eq.mp z0,of_decide_eq_true z0,List.getElem?_eq_none z0,s'.upd z0,s1.heap.objs.size+z0,X.s₀.heap.objs.size<=z0,z0<b.size,z0=vs.length,z0=ys.length,(by cases z0<;>rfl),(by rw[bA z0]),(by rw[<-z0];rfl),(by rw[z0,zA];exact zB zC zD),(by rw[lX z0];exact zA),(by rw[nJ z0 z zA]),(by rw[BRU]),(by rw[z0,List.length_map,zA]),(by rw[List.length_map]),(by rw[Int.toNat_natCast]),(by rw[List.lookup_cons]),this.2,nF.2,(by exact Iff.rfl),(by rw[z0,List.append_nil]),owner[z0]?,(by rw[List.length_map,z0,zA]at zB),(by rw[z0,List.getElem?_map,zA]at zB),(by simp[Array.getD,z0]),(by subst z0;rw[GM A2]),(by simpa using a),(by obtain⟨_,_,_,z0⟩:=x),(by obtain⟨m,z0,_⟩:=zA),(by obtain⟨_,_,z0⟩:=Wk.det _ zA zB),~~~a1r,~~~b3y,(by simp only[a1S]),(by rw[<-Array.length_toList,z0]),z0 ≥ A6D,(by rcases hroom with z0|⟨zA,zB,zC⟩),(by cases z0<;>exact(AVA zA)),(by injection z0 with zA;exact zB _ zC),(by apply Array.toList_inj.mp),Int.mul_le_mul_of_nonneg_right z0 zA,((CZC)),z0 zA zB zC zD zE "ValueError.__new__",ep+1,s1.heap.objs.size+1,t.mask+1,u.length+1,BMS+1,AI t1,AI t0,AG List.set_append_right z0,AG z0 e2,AY BRA,(z0 zA zB).flatMap,BG CS,(List.take_of_length_le (by rw[z0])),(z0 (by rw[A7T zA zB zC])),.byt _,.refl _,AE J.length_eq z0,AE z0 hi,(BQ3).1,jaC z0 WH,.inr rfl,FD H' z0,AO u,AO xH,AJ l.extBut z0 zA,NY "enumerate",qD B09,d.from_ x z0,BP n,BP (lo+i),CK n,CK its.size,CK z.length,List.mem_range.mp a,NZ H2,jv 4,.inl e,Option.some.inj e,.error e,BZ Nat.min_le_right,BN dC,this.2.1,YH fD,wd " * ",wd ": ",CC t.place z0,vs.length-1,LA.length-1,i<zs.length,(by refine wpAny_pyIter_slot z0 zA zB),eQ 6,IC (CZX z0),GE b1,GE hq,DX t,DX b,DX nt,(BL3 z0).2,eq_of_heq x,Itc x,0<=cs.length,JP G.mono,Nat.min_eq_left h,ED k,JQ wpAny_updateSeq_pair z0 zA zB zC,EN x,IR z0 UE,0<vs.length,0<b.size,A6 y.symm,A6 B.symm,A6 x.symm,MU H',BD e',GY ys.length,AER z0 sc_law.nd,j<now.length,D2 #[],bB V,bB EJ,DS k,DS z,l.take i,GP z0 BPZ,V.int.inj z,(by rw[z0,List.map_append];rfl),GQ f,GQ h1,GQ e2,List.mem_of_getElem? k,LA.drop k,IU a,IU it,LB.take n,isNm n,(by .rw[DB];simp),EA f,EA h2,EA e',.str y,EU es.size,a.getD i 0,rest.getD i 0,KA h2,(z0 this).1,1<=x.length,eq_of_heq l,OE items,OG " = ",OH Nat,OH α,OH Fin,z0 b ps e,(by rw[PY z0];dsimp only),xs.length=n,qP.length=n,Off l H z0,Off bD H z0,KD "zip",KD "min",KD "sorted",HR hl,HR e1,HR G,HR R,HR hc,TV Heap.get?_update_ne z0,kI (BLD (AI z0)),MY CX2,HH l,HH xs,HH ts,(by rw[KP z0 Nat.zero_add]),IF a,IF CB,Under z0 a,AEV es,a > 0,pS CZ4,Paired.length r,Nat.ne_of_gt r,WB z0 a1r,(by rw[List.getElem?_map]at h),x∈Ws6,es[i],WE env.cells.lookup,A4P r,GT List.map_cons z0,AEX ys,(by rw[GJ z0 zA List.length_map zB]),xF H,BIN p,NA "zip",NA "min",NA "sorted",.n x y,.x x y,d.params.defaults=[],(Heap.get?_update_self z0 zA (by rw[zB])),pY PySem.W.hasDictIn z0,pY PySem.W.plainOver z0,pY PySem.W.makesIn z0,(by rw[LU];refine z0 (thn (WA zA) λv s1 (gA x zB zC zD)=>zE) zF),DV 1 JJ,bN o.Pairwise,bN r.Pairwise,rJoin K,d0F H,m<=150,RZ z0 RJ,JZ z0 _ ?_,xI qB,(by exact DJ (BQ hR)),YU c3G,(by rw[IM h.tail]),C1 (LY z0),CU=k,bP (1<=z0),(by rw[L1 Bool.eq_iff_iff]),bQ s2 z0,AUB "j",AUB "rest",Q (.bl (z0 zA)) H,AF6 callerA,d AM,b AM,l.drop AM,UH List.length_append z0,List.replicate m z0,SA z0 (BRX zA),frs BNC,AUD AYZ,AUD BPC,WO e,qV z0 A74,A51 its.toArray,xN Under,WP .Eq z0,WP .NotEq z0,fM z,bW Bool,(by rw[qY wpAny_specialOf z0 zA]),A56 p,OW l,CUS::us,(show z0=zA by simp[lnW]),SG c,SG l,a3q z0 A7,z0 (AZ9 a),rC e2 z0,rC z0 hp,bZ a4m,SJ V,X5 mJ z0,CQG z0 "__init__",rH x,oft r rs,AUL now,A5B toList,OK B11 0 z0,AUO s.heap.objs.size,h.objs.size<=a,z0+1<scanBound,rN 100,D7 (z0 0),UX z,UX h1,AUQ st',Sem α,λj=>EG BOM,xY ys.length,XA List.length_map,r∈a,xZ wpAny_bind z0,ys=z0 V.int,Q false s,A5G (-s),AFQ Least z0,QH v ?_,y4 .Subscript z0 zA zB,DR o ta,AUW a,AFV lo,GO H z0 [],XI z0 zA "width",ZM z0 zA "_law_pot_here" zB,yA toList,rX Bool,s4.trans G,lQ mZ,(by exact Int.le_refl _),(by exact wpAny_pure h),AJ q z0 (YM zA),CY e ty,yH z0 BPT,QC c 0,cW name,(by rw[cX z0 (List.mem_map.mp b)]),(by rw[cY List.length_map z0]),tC (z0 i),yM z0 DY,ZX v,A60 CWU,sC KF,AVH PySem.W.isFn,A65 A74,A65 AXA,gX f,D.same s1,A69 α,dD cs.length,mG ha,sL a9B,sN rfl,mL "number",BJN a9E,a.toList.drop ia,qS % 28,(by rw[sS z0 List.map_append]),sT e,iG e4,VP Key qB,DR e ty,AGP r,AGP ra,WG ["j",z0],YO c u,AW3 Bool,BK1 length,AGX m,⟨z0 b.h⟩,z0=Value.ref b,A70 h'.get? z0,AH1 M,~~~z0 b e,A6E now<0,tR AYG,AH5 i,AH5 n,AH5 j,tU z0 AKA,A78 U2,A78 T2,f+s*i,f+s*j,K.In base,b.toList.take nb,b.toList.drop ib,eval z0 env,AHH a,AHH I.ok.bs,AHI h2,AHI r2,uB S,A00 y,QO c (B0Z z0) zA,(by rw[WZ hi vs.length]),AX0 y,A08 "number" z0,AX5 "tuple",a.toList.take na,V->A54,s'.os=s.os,s'.os=s1.os,(by have hu:=hr.u60),AX6 PySem.W.hasDictIn,AX6 PySem.W.makesIn,(by rw[A0J z0 zA Array.getD_eq_getD_getElem? zB]),(DC z0,BP zA),AI4 k,A80 true,A81 r,FU LM z0 zA Q E s,A0Q s,AXE pyIter z0,A0U k,xL 1 b3n z0,A8A AKJ,AIO sW,Int->γ,k<=xs.length,RJ/\AIK x,c∉a.cps.toList,AIS prices z0,.ExceptHandler z0 none zA zB,atI (z0 V.int) zA,(by rw[AC z0 (Int.emod_lt_of_pos zA zB) zC zD]),~~~b3D g,BLL st,BLM World,BLM ((BF)),CC ys y,CC X.N y,OD us qO,T3 ns caps,(by rw[List.getElem?_append_right hi]at e),A8U i,BLR env,SqT K H p xs,CS8 mJ,BLX q,BM3 xs.length,BM3 ys.length,AWY H' h',AXR C H,CY (AVR z0 fD) (BKF zA),St->bB qE,BMP 3,BMP 4,AJP ws.length,L.length<=900,(by rw[AYI z0 List.length_cons]),AJT Array.length_toList z0 zA zB,(List.mem_filter.mp b).1,HN bootBuiltins u,HN X.mg u,Classical.byContradiction λz=>z0 zA,TW (A6S BR3),L.filter λv=>A5J,(lo+hi) / 2,AKL l,CSQ dx,AKN (c≠z0),z0 K x vs H Q,WT<=BG z0,-(A6D),(by unfold topN;omega),RelV (o.getD z0) zA,(l.map z0).sum,Wk.det _ z0 g,(by rw[AB List.length_cons (lq z0 zA zB)]),λz=>z0 AYQ,us++[V.ref q],AZZ d,B00 z0 hr.mono zA zB,BO6 PS,Itr 0 n,Itr lo n,IY ps ?_,x9 _ (Q z0 H),B08 b,BO8 its,(decide_eq_false λz=>by rw[z0]),BOH h.lv,λb z=>absurd z AF,AFX h xs,sD x C,(⟨#[],by rw[L1 z0]⟩),(⟨#[],by rw[z0,zA];simp⟩),B0O [],AW1 PW .And z0 zA,AW1 PW .Or z0 zA,AW1 JW .And z0 zA,AW1 JW .Or z0 zA,(Itl K a).z0,(Itt K a).z0,B0W K3 z0,A7M U3 0,B10 (HH t),J5 (p:=z0) e,J6 (p:=z0) e,bindL kindOf z0 m x,bindC kindOf z0 m x,AYA (A6F true z0),AYA (A6F false z0),Rd H a (.dK qL),Rd H a (.dT qL),A9H z0 R2' c0,CTK (m<z0),B1N ys,CTT n,CTT ns.length,BP8 (z0 σ' H'),B1P rss,NN now,t.dummies=#[],BPG ss.length,f::fs,CU4 n,argsOk z0 (MZ LF),((A89 2305843009213693951)),z0 X LK (zA te t),∀s',z0->CXU,rIn K false,L++[b],(z0 r b).2,BS z0 H2 s2 zA,bump v j,DA (WC z0) (WC zA) zB,(by have a:=List.getElem?_eq_getElem z0),JU D8 BL6 z0,(by .rw[AB (A6 (f b _ e)) z0]),BQ4 tO,(by rw[JY z0 (TV F.len zA)]),(by rw[CUE List.flatten_cons z0]),QC d i,BQG A2,AUM (BP (i+j)),BQN most,BQQ i,BQT B,BQU AZ8,BQY "_law_name",∀i ys H,NB->z0->zA,CUZ (BQF BOG),BRI c.map,BRJ BJ3,(by rcases A8L with a|a),B0N (QC c xs.length) A6U,B0S z0 i f,BRO BRS,mM (A9K I.laid s.toks (GN z0) zA ?_) zB,BRR U3,c9x ns zs z z0,CVG ys,A66 h i n,CVJ CX0,Mk X.K C f,CVO C,CVS z0 push,BSD z0 h',Ris t.place,Nms d.names,o+r.length,its.toArray.size*k.toNat,u=Value.none,X.stack=CZ9,rest.length=r.length,κ×V,⟨z0,e1,e2,zA⟩,(by cases z0;exact wpAny_truthy_bool ⟨zA,zB,zC⟩),5 ^ n,(by rw[List.getD_eq_getElem?_getD,List.getD_eq_getElem?_getD,z0,zA]at zB),CW5 z0 CZ6,o.data=.fields z0,CW6 n,(by exact wpAny_execs_nil q),BK some q,AG a2T (AE L9 z0),(m,xs),AE z a,jaC LT IV,BH c f,(AVK k).2,SqT X.K H z0 zA,f v u,R S v,(by rw[BM (List.mem_append.mp z)]),KB PySem.W.methodObj f z0,-EV<=i,KQ T3 ns z0,JC a3y CZ,FJ (AWN z0 pos h) us s1 zA,z0<=L.length*cs.length,(by rw[qY seqEpoch_at z0 rfl]),CXL Ne.symm,fP y k,AFH true ah',lG QU ZG,gD z0 G.mono a9o zA,sD d.name fa,-(BQ0)<=z0,(by rw[BI a n 0]),CY1 B0B,z0 l its.toArray n zA,DQ v z0 N zA q,(by rw[BI f b a]),CYD 8,JB X B v,AK1 _ _ z0,AHU->zY bY,rE (F3 (z0 K b) f g zA) c.h d,B0T k z0 ns.map,(by exact iC g Q e z0),BPJ ((z0)=FE zA V.int),tSl (rSlT K) z0 zA zB,CYY Str.join z0,bT "one" z0 xV A8T,CZ1 o,CZ2 (z0*ZG),(by .rw[ZP o e z0];rw[AQ o e]),BRQ qual fd,BSF s.heap mA,JC T.keep z0 (RX zA o zB),CZJ h',CZM z0 (DkAt.same r zA),(by have hj':j=x:= ~~~a9D z0 zA),A8G H I h,CZV (sO v z0),D0B H',D0D i,CX outer H s E z0 zA,D0H o,(by obtain⟨j,h1,h2,z0,zA,zB⟩:=zC;rw[nG w zD zE h2]),D0P xs,D0U o,D0V i,D1C A,Shared.heap (BJQ z0),ra.length+c.length,n.toNat*its.length,A5C*A5C,A.units<cLine,gC<lS,owner.size=yE,d.sides.length=d.rows.length,o::src,UI::xs,(by rw[List.size_toArray]<;>exact z0),⟨z0,GQ zA,zB s⟩,(by rw[List.nodup_iff_pairwise_ne,List.pairwise_map]),(by obtain⟨h1,_,h2⟩:=z0),(by injection z0 with hyx hrest),∃v,z0 c v,show IU z0 from A8 t zA,∀fs:QW,z0,(by obtain⟨h1,h2,_⟩:=z0),(by unfold KV at r),(by (obtain⟨_,rfl⟩:=z0;rfl)),(by simp only[Around.in1_units];rw[DG z0 zA]),show b∈([]:EW)from z0,(by rintro⟨h1,h2⟩),(by injection z with z),(by injection h1 with h1),(by rintro c st' ⟨z0,zA,zB⟩),ClsX K z0 [],BH w hw,CY l tl,EL Sy V,CK (lH qP z0),(by rw[AW List.map_nil z0 zA];rw[A0E]),JN H1 s1,Q .non (BL7 z0),(by have z0:zA=EU zB:=by omega),rest=z0/\B0R zA B0Q,s.1++[s.2],(R9 a rest).2,.int i _,DR (AFT name) z0,(by .exact wpAny_Name z0 hd),EO f k,e y List.mem_cons_self,b4u y b,DA AIE AIE z0,(by rcases uA with e|z),a5h lo n,a5Y d u,QA AYM II,GT (A6 z0) A2,eX AD (JP Lim.few),((BRH∨CYU)),GK s1.trans s2 z0,(by rw[fF e' z0 ⟨H,I,q⟩]),K8 rfl T.b_range z0,a2b rfl T.b_str z0,fG (1+i) x,JZ _ _ rfl,bP (6<1000),ATZ x (xA "__classdict__"),(z0).2.sum=0,G8 m ρ,Mut (H x),trk h H,(Itr lo n).z0,Rd H a u,bX gC lS,.cons rfl r,IntsAre its.toList r,rF BJS 0 z0,(A++AZ1).z0,λy l=>D0F,((z0 zA).trans zB).trans,(by rw[z0]at h1;rw[lX zA];rw[CT9]),(by rw[CWL z0]at h1;rw[CT9]),z0 rss now xs zA,(by rw[cG this this]),AFQ Lim m,z0 base zA k fa,A5P (wplus.length=3),ZM z0 zA "names" "words",LsO rss cs m z0 zA,(by rw[gM e1 e2]),z0 Q x H1,AG4 PySem.W.plainGet z0 Str.empty,AG4 PySem.W.codeIn z0 qual,AG4 PySem.W.tailIn BML z0,z0 λy a=>CXZ,ZQ off2 (XE z0 G) zA,F4 K z0 (jv 8),qD Fin×Unit,Stps dr0 z0 d,z0 AM ys d,BJE d (z0 (D0G s H ex) zA zB),v=.str x,sO h1 h2,A6F z o,(⟨z0,by with_unfolding_all exact List.mem_cons_self,AH⟩),(by rw[yZ u (a6N k)]),(by rw[iH z0 zA];rw[NH A6I (hZ (MA zB t e2))]),(by rw[W0 (M4 z0 ?fin) fin]),C3 (J0 K z0),∀o,AK3 z0->BMW zA,W2 B8 T.b_tuple LT,OQ=.free->z0,a4d hs (~~~a9y hd),NmI L R,starEach CU8 env,AWV z0 "__setattr__" CUN,DQ v h' tk z0 zA,S.Dk C H p,BL8 (mF r e1 e2 A6T r e1 z0),BJX "falls" 3 a8L,AXN r b,(by rw[CS1 g g.unheld]),(by have D:s.heap.objs.size∉[AIG,l]:=z0),AIU Keyed Keyed,Paired λp q=>z0,CS4 B0 z0 sc__law_names.nd,CS6 "nought" a5C,cI ["width"] "width" z0,AVZ "below" "other" a8N,(by rw[A97 (~~~b3E h2 z0)]),BMJ dfl tn,Loc X.env.scope y,(AXB (AYE i) (AYE perturb)).1,aZ d .dT qL,k.kept (t':=tk) g,BND CX scope,sliceBounds lo hi none n,AZF (CUQ h),RdW w o,CT0 h1.extBut D.i1z,GD ((CWM)) z0 (zA,zB,zC),DF u L (CYZ z0),DF ws L (Wl ws),T.obj _ _ z0 b zA,XC M v g,(by rw[B0I T9 Bool.and_eq_true]),(by refine a4j (lo:=0) z0 zA zB ?_ ?_),UA v I r h,97<=c/\c<=122,B1R z0 zA UF T,CTY AskP m,CTY AskQ zs,BPO (w∈its) hw,Slot z0 name id,e (decide_eq_true (WO z)),J1 (Y7 A7),IsEnum z0 e it zA zB,(HS v W).2,DC ⟨AH,AH⟩,YH [b]=BOB BLP,IY o (kp b o (RT z0) zA),BR2 "_law_name" BR1,(by rw[nN z0];rw[yZ zA h];have f1:=AutoSeq1.idx_int),A0A loD z0 ia zA k1,∀xs,HO.tup xs≠o,V.int (dot r ys),(by .rw[BRE];rw[IJ z0 e1 e2 zA zB CYF e2]),AKW CU HS mp,CV1 X.stack s1.heap,(by rw[BRW];unfold ltK at z0;simpa using zA),-3<=x/\x<=3,BS4 x z0 y,CVK "plus" (a+b),CVN BR6 e.key,ys.getD i 0 / lV,⟨[],?_,.nil⟩,⟨AXM,(n.push _)⟩,wd "+"∉t,(by generalize z0=H2 at s2 e2),g II z0 (gU p zA),CWA a0J T.sb z0 zA,(by have z0:Str.ofString zA=zB:=by rw[pN]),a9U (t:=z0) B,z0 a its.toArray m dd,(by rw[CG B Bool.and_false this]),(by have hR:yJ (A0C r.length):=λr z0=>zA),LQ (AKO b LG),CYC+100<=100000,z0 x' d _ _,Tm ns z0 j x,atI (z0 V.str) zA=BK V.str zB,∀{ys:AA},z0->AUU zA ys<=ys.length*zB,CXM QV hs.length,∀i σ H,AWW->AXL->z0,∃x,u=V.int x/\(z0),AYT n names qP,tJ MH out.toList.reverse na nb,(by have hb:(g==z0)=false:=beq_eq_false_iff_ne.mpr h),CYX (sJ bk E1 (N5 ns xs (-a))),AG0 Said ps x os a,BRN A93 (∃vs,iJ/\h.DictOf A86 a vs),UZ a6U AVO (λu=>z0) (BQC a0H h7) rfl,SortSt.mk' (kindOf s) z0 zA zB (failedOf s),b0b y b d u,yQ nH ((B1C)::mO) mO,SeqAt.EqAt A s u v z0,(by rw[BSH fT z0 (AE M5 (W5 o zA)) (zs=zB i) (BNZ DK)]),D0W qL.map (QR,y),D12 CT7 CT7,D19 ra ca,D1J H' s'.heap,e=x∨AI5 e x,(by have ty:=D.typ;obtain⟨z0,e1,_,zA⟩:=zB),(by injection hyx with hy hx),⟨z0,~~~b3N zA,h2,zB,zC⟩,(by .obtain⟨z0,rfl,_⟩:=h;rfl),(let ⟨z0,_,_,zA,_⟩:=zB;zC),(match k with|true=>z0|false=>zA),(by rw[BNT hia,UY,z0,<-zA];rfl),(by rcases z0 with⟨n,zA,rfl⟩|⟨_,rfl⟩),h.Ns1 dx mA,a5z (tVar z0) a2h,z0 _ (a4i (xs:=zA) (j:=zB) zC),a.map λt=>t.getD j 0,(by have z0:zA:=by rw[<-zB,List.getElem?_map,hi];rfl),.frz z0 (.lst xs),GD Ss k S,(λz=>a (by simp[z])),(by rw[EC z0 zA];rcases CWK zB with hi|hi),λ_ _ e=>e,CU=CZ/\z0/\RelV HS q.2.2,GO O af AZ5,a8B qP (b0n z0 zA),tgl n a c,P++LA++LB,YH bD=D01 AXY BLP,D8 t.mask CVQ d,(by rw[PY (eY z0 _ _)]),F1 (rO call "set" AXD),a5m z0 d (JP hr.mono) A0K,((∀x,ZH∈z0->yV)),W.item i s _ _ z0 zA,∀(names:A7I) (z0:ZO),zA->zB,lo<=x/\x<=hi,∃n,z0/\CYO zA/\zB=some zC,Tdc rss cs m z0,CY (CUC a b) (A4P z0),SE (a9L z0 e zA DY) zB,(Nat.lt_of_le_of_lt (show z0<=1000000000000 by unfold topN at zA;omega) FV),rO newExc "StopIteration" [],z0 X (BR9 zA zB) (AVR "zip" bD) zC,AG6 (z0 zA (zB (R7 (A61 zC)))),(by have hia:i<qP.size:=by rw[CG z0 zA hi]),(by rw[dG z0 (PZ zA os) p2 (X6 λt zB=>gP zC zD)]),BJX "sums" 2 b2G,AG9 (A58 P w h a z0) zA,nmF g st l,(by rw[BW rfl rfl rfl rfl]),⟨0,0,0,0⟩,z0 (pl:=pl) zA c h1,BL4 "times" "many" a8H,(by rw[A8H z0 zA (zB.2 i qP[i] (IF hia))]),out++(a.extract at_ na).reverse,(by rw[AYJ];rw[CU1 A7O (Nat.ne_of_gt p)]),YP "first_steps" 2 "caps" a8K,W.item z0 _ _ _ zA zB (EE v h' zC zD zE zF),∃u,BNX e u,BIU κ D lt,B17 (foldedSetIterable b X.env x),(by rw[A8V i];rw[Array.getElem?_toList,List.getElem?_map];rw[WZ hi z0]),s.heap.push (W8 k l),nsIn K mainGlobals x=some BL1,OM ys (ys.length=i/\CT8/\QN/\NF),I.ok.cab x c hfn g,tJ MS out.toList ia ib,BR5 (if i=j then WT else 0),(by have z0:pq≠zA:=λz=>by rw[S1 z zB J J]),EO X.fn y∨CQ X.env.scope.names.lookup y .local,Inv X z0 σ H s,(BRP BP7).push A63,V->EJ->EJ->A54,(by have B:=M.fw R;rw[z0]at B),KQ assignEach es X.env=n,(by have e:i=xs.length:= ~~~a6u hi b),(by have:=A7K;show x.length<=1*z0;omega),CZG xs xs xs,∃f fd,Meth K C m f/\z0/\zA,∀f,RelO (fs.lookup f) CUF,(by exact B.heap b o (by rw[CU1 F G]) AXZ),∃(its:AN) (n:Nat),z0,⟨z0,zA,BP zB,H,WD,zC,q⟩,⟨z0 (zA CYM hi.h b.h) a⟩,(by rw[eP,ew,eA,a0]at z0),(by rintro i ys H' hi ⟨z0,zA⟩),(let ⟨z0,zA,zB,e1,e2,e3,e4⟩:=zC;zD),z0 a0 a1 a2 a3,((upd (upd H1 x o) p D06)),G7 qL (r.map Sum.inl),z0 (OB zA) T (zB (OB zC) T zD),pU "unit" "width" "j" b2E,t σ H1 (qP++z0) Q,∀p,tD->z0 De σ1 (upd H' p (a9T p zA)),(by rw[SK t (AXI z0 d)];cases q;rw[BR4 zA]),(by rw[lF a rest.length r.length z0 mT]),AUA outer b c E,OR++b.extract ON A98,(by rw[sQ PySem.F.slot_str_split CUL PySem.F.entry_str_split PySem.F.args_str_split_2 z0 zA]),A8F (λy g=>AJR g) k A0L,(by rw[List.zipWith_cons_cons,List.zipWith_cons_cons,List.map_cons,z0 f g xs ys]),.Try body z0 [] [] pos,(by have z0:(toString "min" ++ toString ".loop" : String)="min.loop":=by decide),((k=k'∨(k'=.free/\k=.cell))),typeOf (.builtin id)=pJ .type "method_descriptor",(by rw[B0E p z0 zA];rw[AZP prO e e]),putK lC z0 (.int z)=zA,(λg z0 b o e=>zA b o (λz=>by rw[AY5 ZF zB]) CXB),∀m st',A6X->B06->m<=z0->BLW m->AH2 m st',(fW m (zs=[UI]/\z0))∨(zA)∨(BMZ /\ ∃(m:Nat) (xs:qI),zB),(by rw[EF o es ep (k _ o z0 ho) r]),YS ch (D0O/\AJ7/\D04/\CYV),[CWI,DX ca,CWR,DX x,z0],BC Walks.list prog prog w w (A:=A.in1) z0,(by obtain⟨dx,n,r,t,c,q,us,e1,e2,z0,zA,zB,zC,zD,zE⟩:=h.ex),(by .rw[IJ o e d z0 o e CTM]),D07 qZ .none kV b pm an a ct,CVT N N b5w l,(∀b,isTrue a X.env b=(do let v <-b;standAt a.pos;holding [v] (truthy v))),(by .have hb:YJ g z0:=beq_iff_eq.mpr h;rw[BRV zA]),(by have z0:=zA;rw[XJ zB t zC (BS5/\W1 AW8 A6I/\L4 s.heap t.1=A6I) t zD zE]),SysAt H v ns rows sides caps prices,(by rw[AGU z0];obtain⟨zA,zB,_⟩:=zC;rw[OU zD zE];rw[m.trees];refine Calls.callWith_builtin rfl (Calls.evalArgs_plain (Calls.spliced_cons zF))),(by rcases z0 with rfl|rfl|rfl|rfl|rfl),z0 qZ .none kV zA pm an zB ct,FD (assignEach es X.env).findIdx? ((·.1)),(by rw[EC z0 (DQ i w o hw a)]),(by have z0:CK (tN putK qL k zA):=by have:=Y0 qL k zB;rw[ZI b3M zC]),c≠TO->c≠z0->c≠zA->A7L->zB,c6Z left key qQ base n z0 zA,∀x y c,z0->CQ zA y c->x=y,(by rw[lF e2 CV4 (4*KY) Nat.pow_add Nat.mul_comm]),(by refine BSI z0 zA zB A0V ?_;rw[Int.toNat_natCast,List.length_map]),(by .rw[Array.getElem?_eq_none (by rw[F2 z0 zA O1 hi]),BR8];rfl),(standAt qN.atName>>=D2 (holding z0 zA>>=λp=>match p with | (zB,first)=>callWith pos zC first zD zE)),(by rw[A8C (List.mem_iff_getElem?.mp (p1.mem_iff.mp z0))];obtain⟨r1,r2,zA⟩:=t4 i t hi;obtain⟨zB,zC,q2⟩:=hI.2 i _ r2;rw[AW zD zE zF]),(by have z0:upd H dx (.own x) x=none:=by rw[AB (A6 zA) zB]),∀i ys H,B0M->AK6,SetTable.below.go xs j fuel lo hi,(by exact h _ _ _ g f I),AHY names A7I n qP ZO (z0->zA),(by rw[DI o h1 h2 id z0];rw[AU o (AG g h1) h2]),(by obtain⟨e,n,ne,nf,d⟩:=AK8 z0),A5E a (a.heap.push (pW "slice" #[c,vu,.none])),SysAt H' v ns rows sides caps prices,(by refine BC PySem.W.callWith_K first WI h₀ X.base I.ok.mod.kin z0 zA zB zC),(by rw[D1F (codeAny_call_builtin (R:=z0) PySem.F.called_set.init.plain PySem.F.entry_set_init (check_set_init_1 hT ?_))]),⟨λqK s σ H qP Q I h=>z0⟩,(by rw[DB];rw[A7Q o e d st];rw[AU o e CTM]),LY ⟨z0,R,rfl,D,P5,L,X,G1⟩,(B1T T4 B0P (a4a (by rw[I0,I0,h1,h2];show(_/\z0)∨(_/\zA);omega))),∀(v:V) (H':Hp) (N:VK),QN->(∀u c,R u->BIR c->Off bD H' c->N u c)->te AJ9 H' N,(by obtain⟨_,z0,l,t,k,h1,h2⟩:=zA;rw[B1Q];rw[AQ zB zC]),CE outer P w H s Q u s',(by rw[XG σ' H' I q];rw[BW σ' H' I.unwish q]),(by .rw[CX6 G6];rw[<-p2,List.pairwise_map]at hs;rw[CZE z0 hy zA];rw[sK zB,sK (zC y hy)]at zD;exact zE),(by .rw[sR p ra ca af aw b L F W]),d0s d e I h λv u s2 x y H2 c z0 zA q=>zB,(by .obtain⟨_,h1,_,h3,h4,h5⟩:=z0;rw[BW h3 h1 h4 h5]),λ{_ b l t k z} e=>OV (z0 b l t k z) (DPut.k (k:=zA) e (YL (AG7 4) b3j G)),σ=[RQ,DS EV,AGZ x,DS BMS,DS A8J,DX C]/\SA C (JR (FE z0))/\QN/\NF/\zA,(by have n:BO9 (A4I xH z0):=BN8 zA nl;unfold Builtin.«set.__init__» noKeywords Builtin.Frozenset.updateFrom;generalize C:pyIter=PI),(by obtain⟨rfl,h',tk,xs,rfl,g,f,I⟩:=hr₂),(by refine JQ codeAny_mono (a0b IX (E:=E) (Q₁:=λz s₁=>VX z s.heap.objs.size/\s₁=CSO) B04) r s₁ K),(by obtain⟨v',σ2,H2,z0,rv,a⟩:=a;rw[IO v' σ2 H2 (zA I.ok) rv a]),∀{H:Hp}{b:qE}{l t k z:Int},BLZ->DPut H a (AWG z0) (BP z) (BRG zA),(by intro value z0 qK s σ H x y v u Q I zA zB h hs),(by obtain⟨_,_,xs,ys,rfl,⟨a,rfl,ha⟩,⟨b,rfl,hb⟩,z0,k⟩:=h),∀(h:Heap) (tk:Nat) (i j:Nat) (z0 zA:qB) (Q E:qH),zB->CC vs zC->IZ vs zD->A6K (zE i j) (xC h)->FU LM A.in1 zF Q E (xC h),(by .rintro ys H' ⟨h1,h2,P',o'⟩ p hp;exact hd H' p ys h1 h2 P' o' hp),(by rw[ZL tl T PySem.F.called_set.mro];rw[D1B J PySem.F.called_set.made W PySem.F.called_set.sub (rO callAny "set" _) PySem.F.entry_type_call];rw[D0K "set" AXD [] rfl];rw[SQ PySem.F.called_set.notType PySem.F.called_set.canCreate];have a1:=RH PySem.F.typeCall_set_1 l),(by intro s' O B g f;obtain⟨h',g',Y,N,M⟩:=s';have eg:g'=s.gens:=B.gens;have Z:Y=s.drawn:=B.drawn;have eo:M=s.os:=B.os;subst eg;subst Z;subst eo;rw[RK _];rw[AK9];rw[RK CV9];rw[UQ (tM rfl h' N O g f (AIL S e))];have F:IU s.heap.objs.size:=AG1 S;have G:IU AIG:=z0),{cls:=z0,dict:=none,data:=zA},wpS z0 A E s,BIM z0 qual scope f cd A,AY false,AU0 PySem.W.nsIn z0 zA,d.names.map λn=>z0,bM F W z0 k,bootBuiltins z0=BK zA zB,! z0 "set-order",show CQF from z0,C0 src σ=z0,kE keywordEach [],pF OkE,((r.length+1)),((mask+1)),["a","b"],.BinOp a z0 b pos,EG (z0+([]:AF0).length+OK ([]:AF0).isEmpty 0 1<30),z0 (Nat.lt_succ_self _),aZ a .dK z0,(lk z0 n).getD,Kept z0 st st',(z0 k1 k2 s.heap a b).zA,∀H1 p,KS->AUY->z0,sqt (GQ z0),BIV z0 (x+2) d,CQW d.prices,z0 λx => -x,AV0 "rows" z0 "names" zA [],IsNx rss cs z0 u v,{D with nx:=z0,ct:=zA,bk:=D.nx},z0 (Nat.lt_succ_of_lt zA),wd "=" :: z0,z0 X.env.scope x,DkAt C H p z0,AF8 "caps" z0,Vo ns rss z0,V.int (CR2 0),FE (AUX z0 zA q y3),ovI (lk d.caps n),z0 (base:=base) (P:=l.prog) (w:=w) zA zB,knd.draws k,z0 PySem.F.plain_min_loop _,BJ7 k.map,c H' CB,envOfC z0 zA s.heap.objs.size f,BP 1000000000000,IC h1.get?,EO z0 "set-order",min xs.length z0,Obj.mapSeq λ_=>z0,HT.sIx z0 0 lo,AFX s.heap z0,AVV H2,pG σ' H' z0,qE×qB,.ret (.bool z0),z0 rows items.size xs,List.zipWith f xs z0,⟨a0D K z0 zA zB zC h.h g.h f b d c hs a⟩,(dfl tn ar as ac ap).lookup,(by obtain⟨σ2,H2,z0,a⟩:=a;rw[BW σ2 H2 (zA I.ok) a]),(by rw[List.getElem?_map]at z0),z0 (SetTable.below zA zB),wX z0 i zA zB (Or.inr rfl),AUJ (.seq z0 k),YP z0 1 "width" zA,JU SetTable.leap i pt,ite_congr rfl z0,AGE WV,a3h rest r z0,A6B z0 CB hi,DZ (A5S j v),BIO .str bk A5H,BIV z0 c0 c',(a0E z0 ns zA).map,z0 ns rss ss cs ps,AG9 (A58 X.prog X.w s.heap a z0) zA,Sub (C0 src σ) z0,z0 ns rows sides caps prices,∃r,FN=some r/\AVN r,Runs2 kf D z0 P LA LB R,DecidableEq z0,BJ4 items,A5I (AU1 AFU),AG1 (yW e z0),PySem.W.instObj C z0,(by dsimp only[B1,List.set]),kH k.map kV,kH cs.map cV,z0 X.prog X.w,wants (λr s₂=>r=.none/\z0) E,A5V l (A67 gJ dd z0 sl),λ_ _ _ _ _ _ _ z0=>zA,⟨_,rfl,l,_,_,_,rfl,rfl,AVC,a7E,rfl,_,rfl,?_⟩,(by size_fits),z0 hs₁.extBut zA,(List.range z0).zA,λz=>AFC,List.replicate n z0,(by rw[List.take_add_one,z0,zA];rfl),x5 z0 [] pos,AVF it,AV3 p m,DF y ys (R y),(by exact Option.some.inj h1),CR0 ha,CR0 hb,DGet H a y z0,(c.val k).z0,.Subscript o i z0,BLE t.1,none::BJ1,z0 X.K H p ys,upd H' p (a9T p z0),AH3 qW map,∃m:Int,BLC/\z0,Least rss cs a,(λv z=>by rw[AHV d]),FE (AWI AXP tmW),upd z0 x (.ins zA dx []),∃W:AW3 UB,(∃m,z0)/\∀i m σ H,zA,[BP LW,CSD,z0],K0 (j:=z0) rfl,bindArgs z0 BLQ=pJ ps.zip us,Td z0 rss a m,rE (F3 z0 g h zA) c.h f,bubble z0 AG5 (AG5-(lo+l)),⟨z0,I.os,I.bare,I.base,zA,I.cell,I.free,I.freeC,zB,I.hok,zC⟩,b3W (λp q=>z0) (zA x) (zB y),z0 ns rss ss cs x zA,BMC z0 (AH9 (BMA σ) N N),(let ⟨r,e1,a,e2,q⟩:=z0;⟨r,e1,a,e2,zA⟩),(by simp only[List.mem_cons,List.mem_singleton,List.not_mem_nil,or_false,not_or];rw[AQ z0 zA]),AHE nm z0 C N bs bm zA sn sub ab col dd k0 k1 k2 k3 k5 qR,runs.length<=z0,z0∈d.names,a.length+1,decide_eq_true rfl,pF Env0,e::rest,Value.ref b,BQ hw,2 ^ 60,.Subscript z0 zA pos,OH AN,(by rw[List.replicate_succ,z0,zA];rfl),mA f,xD z0 zA flatten.toArray,xF H1,AF4 ys,AF5 (CQP),F0 c B.mono z0,gH typeIs_str,AG0 Ask,A6A "object.__setattr__",AGY List.length_append z0 zA,BKC base.Ns,JU pos z0 m,h z fS,Value.ref HK,Bel u v,(t.put z0).2,IR l (BL7 z0),kJ BKY n,AWN d pos h,CSB List.getElem?_append_left,BME (y=.non/\z0),m::ms,Cov z0 H' zA s'.heap B,show s.heap.IsTuple a z0 from zA,⟨z0,codeAny_builtin zA ?_⟩,2 ^ (k+2),FW xs.take k,r c f,A5D (BG z0≠0),⟨z0,GU zA List.length_map lA⟩,ret Value.none,if z0 then zA else(zB,x)::C9 f v r,tupleKind (D9 z0 zA),pR Ans rss z0,argBest (λi j=>z0) k,([]:AN).toArray,A4X IG z0 runs rest,SqK k2 K H b z0,AV5 [n,sB],X.blk N scope z0 zA,AHJ base z0 k f fd ps sp,AVZ z0 "other" (b0x λa b=>zA),λi ys H hi p=>z0,SP X qK D z0 s',λi v=>∃e,z0/\v=zA,CTO (TM H dx .own x) z0,CTW z0 I.loc zA I.len,st0 t.mask YR,gTup K 2 (gCons (B1 0) (gCons (B1 1) b4h)),(z0 k1 k2 h l1 l2).zA,(show d+(z0-d)=zA by exact zB zC),z0 hos hbare hU hok,(by rw[PY (BC wpAny_isInstance T z0 b true zA zB)]),⟨_,rfl,_,rfl,_,_,rfl,rfl,z0⟩,Z0 left key qQ base z0,[1,3,5,7,9,11],(by rintro i x z zs H' p hx hy ⟨s,rfl⟩ hp;rw[DI x' z0 e1 zA hx]),(by rw[UV ⟨_,rfl,a,_,_,_,rfl,rfl,GE z0,rfl,_,rfl,p,C,dx,_,rfl,zA,U.cl,zB,zC,?_⟩ zD st zE zF]),z0+LB.length,ys.length*z0,~~~a6p,(by simp only[List.size_toArray]),Int.emod_nonneg z0 zA,l.most=some z0,UJ+1,AI ah,AG l.kIn z0,z0 zA zB (KeyOrd.kle_of_klt zC),(by have:=z0;cases this),(ap z0 AF).1,(c i).1,FD s.heap.get? z0,eq_of_beq e,BZ Nat.min_le_left,h2.2.1,DX ra,(ap z0 AF).2,Nat.lt_or_ge i z0,seqIndex_of a z0,pendingOf st,GN zs,GN [],IS hv,DS st,DS most,DJ (wpAny_pure h),beq_iff_eq.mp z,OA cs.map,OA d.map,OA BKV,.int i 0,RH seqItems? z0,RH z0 s.heap.objs.size,OG "__len__",items[i]?,MZ WI,Obj.mapFields λz=>z0,Value.ref d,(by rw[FY z0 List.pairwise_map]),YM a.hok.fresh,RO h'.get? z0,fA wpAny_pure z0,setArr st z0,RT g,Value.ref t,AU7 z0 s.heap.objs.size zA,AUC pos',A51 items,A52 vs,QG::us,AYO::us,(by rw[fN z0 zA List.pairwise_cons.mp zB]),if_neg (z0 e),rF owner.setIfInBounds z0 zA,ZD f,CM::vs,YP z0 1 "word" zA,λv=>A5J,QK/\CSK,.done (.ret z0),rZ (),(CU,y),os.Perm vs,AGZ lts,BK7 caps.map,h y fS,qD Unit×Nat,Its z0 vs rss,λz b=>z0 z y0,KN d (a-l),AI7 (a+l),wpAny_newObj_type ?_ z0,.builtin z0 (cO zA),DW [BON],BLV zM,AGF l AZE,Heap.ExtBut it s.heap h',λz d st'=>CR1 z0,BMQ L.length,(A6D-1) / z0,∃z0,YG h'.get? zA,AE CUY e1,BH y g,CK (xs.length+z0),EG (cs=[]),ap z AF,BNI value z0,BNJ X.env.scope.names.lookup z0,~~~a1q c,(P.length,z0,pw),((∀m,m<n->z0)),fG j v,BOJ n.toNat,xX z0 H' zA xs.map V.int,List.mem_cons.mp (NE h z0 zA),CTD isSome_eq,AI9 p ys,BP1 (CU≠b),CU3 sz,OG "sum " ++ z0,(z0 KW zA).cps.toList,∀v,AWM->z0,∀h' z0,zA->(∃o,zB/\AIM "StopIteration")->zC,DGet H2 a y z0,kS ys.length λj=>z0,BJB (rO isSubtype z0 zA),BMJ L5 p,AZ6 AJK J2,CV7 26,CVF st',S::wr,X.env::X.outer,[op,f],[.LtE,.LtE],BOE == ms[j]?,AO (BLJ AYW),(by refine hs.imp_of_mem λ{x y} z0 zA zB=>?_),IsPair z0 TO a b,∀b z0,VU b zA->fK b zB,pR lastMarks z0 BM5,AEW s extract,Heap.SameBut a s.heap z0,bR hs₂.extBut z0 hs₁.extBut zA zB,∀v,z0≠.cell v,bJ z0 q (q.mono λ_ r=>zA),((y8 z0 NB AZD)),EqV K H z0 CM GV zA,c0<=fH+qX,BL2 ra gK,CK z0/\k=(BG zA != 0),YL (z0+zA+(c0+1)<=_) zB d,MX+fH+c0<=BKS,λz d st'=>BIV z0 (fU+min z 1) d,AYK List.length_map List.length_map z0,(by rw[<-z0,<-l];exact h _ WD),(a9Q z0 H).get?,GF s' (CVM .next),mirror z0 i j ((AYV) / 2),(by show KZ _ (KB field it z0>>=_);rw[PY zA]),[(false,z0),(false,zA)],BNF AFL A63,List.mem_cons.mp (fR h z0 zA),((∀x c,A5W->c≠b)),BMH n B l,BMI fl v fs,PySem.W.fnOf x qual AX9 A5T,CU2 q hdct,zX assignEach z0 X.env (·.2)=zA,(show z0-e.length=zA by exact zB a),a4u X qK z0 b,AH0 (AH0 z0 hs₁.extBut zA) hs₂.extBut zB,AHR (AIW ws.take z0) [],a8a (b1u n) (z0 y),((hO.nm.nm y l).wg).1,CVI d C,AG0 AskA ps x zs z0,(by rw[CVV "StopIteration" z0 isSubtype_stop]),λrest b s'=>z0,(by rw[Around.under_plain (weight_type_call_type z0 zA zB) zC]),{d with rows:=z0,sides:=zA},LP (mirror z0 _ _ _) _,eU s (s.heap.update a AJN) CUJ,((b∈X.ex∨X.s₀.heap.objs.size<=b)),SqK k X.K H a z0,kX m z0 st ps,QK/\((CSK)∨(AGT z0 zA)),I.apart (o:=default) z0 CV6,λr s'=>r=w/\sH r s',LyO ns rss xs m z0,AHP psW xs z0 foldl,z0 λa=>if QR=k then zA else a,BS z b y a,(by rw[LV codeAny_builtin PySem.F.entry_min_loop];rw[CRI Around.under_plainId];rw[BJZ z0]),OS (trV (ys.getD i .non)),Inv z0 qK σ H s,(by obtain⟨e,y⟩:=y;rw[DB];exact hs i x z0 _ (y xs zA) p),lO z0/\BOR a zA≠h,Builtin.Builtins.bindParams "min" ["key","default"] 0 z0,compPost RE X.A X.xe z0 zA,os.Pairwise (λx y=>t8 (AG8 L4 y) (L4 s.heap x)),AGF l (yL (A53 i) (A53 k))/\(y8 z0 (i<k) (yL (A53 k) (A53 i))),(by .show Value.str z0 _=_;rw[glued_eq_join,zA]),(by rintro d st' ⟨g,hd⟩),SyAt H z0 zA rss cs,(wpAny_handleBy_cons (codeAny_handlers_test ?_) (by intro q;cases q)),(by rw[AC z0 zA zB zC];rw[fE wpAny_call codeAny_of_tree];rw[RK zD];rw[UQ (CV3 (Code.quiet_builtin _ FV) zE)]),CU7 base z0 outer s H,c=cC/\A6X/\BLW z0,a3E ns rows sides caps,(by refine JQ codeAny_mono z0 r₂ s₂ hr₂),thn CUX λus s1 (gA vs c z0 zA)=>zB,show([]:AA)=ys from b,(by rw[AIP us k (z0 t) d l (zA w)];rw[k.length,l.length]),Un tE [] H1 z0 s1.heap zA,_=EU (z0 sE (L8 ns y)),(by rw[KC (wpS_mono (wpS_forRange (I:=z0) (Q:=λd st'=>CR1 zA) zB zC (HE g zD zE)) zF)]),.ListComp d [lW z0 b 0] scope pos,M2 X o z0 qN e f qM,a6K (st:=st) l c k,λx y H1 z0 _ q=>CVW q,AFZ z0 X.base C m k ps sp,C9 "caps" ZC (C9 "sides" KH BMD),(by rw[AGW y t C g A y t]),(by rintro c st' ⟨rfl,l,o,rfl,f,z0,zA,zB⟩),(by rcases hd with⟨r,e1,e2⟩|⟨e1,h1,h2⟩),FnL K f z0 zA st oc od sl kV dc pm an cd ct,(by obtain⟨oc,od,kV,z0,pm,an,a,ct,zA,rfl,lk,c⟩:=zB),z0<h.objs.size,vs.length=z0,h'.objs.size=z0,(by rw[z0];simpa using zA),(by rw[<-z0];exact zA _),~~~b3l,(by rw[<-Array.getElem?_toList]at z0),(by rw[<-z0,List.take_append_drop]),(by simp only[List.length_cons]at z0⊢),s.heap.FunFrames z0 zA,wpAny_bind (z0 zA),X.length+1,(by exact List.mem_of_getElem? z0),Int.emod_nonneg _ z0,Int.emod_lt_of_pos _ z0,AI c.heap.objs.size,AY (z0 a b),AY (z0 b c),AY (z0 a c),(z0 (by rw[AZ zA lq zB])),(AVE).1,AO dx,AO (-1),BP BLO,.str a,V.ref a,BZ F.args_int_rmul_2,λz=>AD,AJ2-1,DO BS8,DP e2,DX za,EG BMZ,(c i).2,seqIndex? i z0,if_pos b,List.getElem?_eq_some_iff.mp b,PQ hol,BD CW3,JR L.map,rss.take i,a1U mg,JV BM8,FH B4,I.ok.hd g,env.kindOf n,EA A0G,VT n0,EU A6G,RH collect z0,YJ z0 b.size,z0 p xs.toList,RD > 0,WT > 0,List.mem_of_getElem? d,WC "line",x.cps[i],a4E f,GF z z,Calls.spliced_nil ?_,xC BM8,rows=[],qS / 28,a::its.drop k,xJ YX,List.mem_singleton.mp m,a+min z0 AZ4,AF7 PySem.W.emptyDict,(by rw[List.length_cons]at a),Nat.le_of_lt hi,LZ rB,a0m ns,a9b ns,z0 (of_decide_eq_true e),xT a5o,rP AJ1,X3 hp,A5G x,rV I.ok.bsz z0,AG0 LinP,(by subst z;rw[iE z0 zA zB]),gQ q,yJ (r.length=z0),AG8 z0 I.big,AVD y,yO rfl,hz.same s1,CQU Nat.ne_of_gt,bJ z0 q (SysAt.same q zA),(by rw[Array.toList_extract];simp[z0]),32∉w.cps.toList,A6N xs.map,AWF x.toNat z0,src-a,zW runs.length,~~~b1v b,JU a3P z0 m,AHO h',D7 CZ,D7 AZV,X.wish E,v=.non,z0 X.env.locals m,A83 s.heap,AIA (! EG z0),yN y (BRK z0),CY (AFT z0) (BKU "str" zA),CRX CameS,CRZ PySem.F.plainAttrs_str z0 zA zB,h'.push (sF z0),λm=>BS1,j<=lV,AXT a.flatten.length,RJ/\GY x,BLI X.A.in1.handled z0,(x,NameKind.free)∈z0,IR l (gU l z0),TM H a .dT z0,A91 .none z0,CSB List.getElem?_append_right,⟨z0,AXG "default" zA⟩,AJY sc.names.lookup,AJZ z0 ss.map,SqL X.K H a z0,BLH k 0,["many","name"],["many","part"],CT0 z0 D.l1z,(l.map z0).all,AZY hr,a b _ e,sD x f,A6K (z0 ns ms) s,_+1+_<=_,CTH SqL,CTH SqT,CTK (0<=m),(Sum.inl a:Key)=z0 b,(Sum.inr a:Key)=z0 b,I.ok.hd hc,o f hf1,BQD setIfInBounds,BQH K3,zN AYX z0 xs,HT.sIx z0 zA (some (-1)),⟨H,WD,AE (z0 r) q⟩,CUV zs,CVC xs,AV2 p (fK p z0) zZ,CVX i,tuples' true,items.size-0,Under v a,VU c xs,min v.toNat n,k p hp,CX9 wpAny_throw,xs=WN i,bQ ((tQ)) z0,dot ps r,.str (rows i) z0,(by refine Calls.call_function_entry z0 zA zB (zC _) ?_),TM H p z0 [],IT H1 v r,bT z0 "self" bK (F5 K zA),λc o e=>u0 (A8Z z0),aZ p .dK qL,(AO (),()),CYN (CW1 LA.length),Kept lo st (CXA z0),(zH1 k1 z0 zA).objs.size,∀b its,AWL s.heap->AWL z0,Chn n most z0 L,D0L z0 (d.sides++[zA]),K w.params,L'.filter CXQ,n / 10,["row","side"],["cap","number"],["here","there"],[rW,yG],AWA sc.names.lookup∨z0,(by simp only[List.length_append,z0,List.length_singleton]),PySem.Within mA z0,Meets (z0 (MZ [IX,zA])),z0 (D1E prices),wpAny_newObj_type (z0 zA) a,AG z (AG c z0),(YR,CU9),AE eL A7O,~~~b3s hj z0,∀xs,z0->cH,∃k',HN z0 k'/\zA,FE (u++[z]),KN f j,BIH .none (.fields ps),hr v (IS z0),sortedHeap z0 a vs zA,Under f v,λv H2=>v=.non/\z0,A4M vt r,G7 qL j,[(s2.heap.objs.size,AZH)],pX B4 B4 z0,fG i gK,fG y BPR,AF2 g back?,YK e.1 n=j,SI (if z0 then j else i),Nat.lt_of_lt_of_le (AIT (AIK z0)) FV,z0 c a b pos,(by rw[WZ b xs.length]),z0 λq=>[zA,CZ,D7 CS],z.setIfInBounds 0 (A4V B0U),JZ rfl rfl rfl,SqK k K H p z0,DA z0 ["names","words"] zA,λp z=>WO ZF,AGF z0 (lV<j),zK 3 b3p,(by rw[BJZ (updateSeq S z0)];rw[QQ]),BC V2 vs z0 as zA (caps:=[cA]) zB,GS CB Nat.le_refl _,BK0 (BIM z0 x qZ f a A),a2C KW m,X4 (fre n),h z0 _ WD d,⟨_,rfl,_,rfl,z0,zA,rfl,zB,zC,zD⟩,AXV z0 rows sides,DW (xs.map λx=>BPY),BS x z0 y b,λi H=>∃xs,z0/\BQB,∃a b',AGQ b'/\z0,["total","row","j"],(G3 (by rw[z0,h1,h2];rfl)),z0 i σ H hi p,a2V C m sp [],BOT OR ON,48<=c/\c<=57,BOX (Fl rss now),BP9 "names" z0 [],z0::(vs++dvs),.seq items nl,(BND CX0 qZ).nox,(D7 x).cps.toList,BQ1 lnW L,EI f s8 a,tS h' s.heap.objs.size xs,backTo pos (starEach z0 env),CV2 us.toArray p1,CVB X.prog X.w,CVD (bX (ns.getD i 0) yS),lR-min z0 lR,["name","number","word"],TgA z0 rss cs,z0 qL CU HS,v=.bl true,os=zs.map some,SP X qK D,SqAt k1 z0 a xs,(by rw[BI p us.length d.length]),k b a q,rO typeLookup T z0=pure (A6A zA),(by rw[VA ru rv.one ru]),A3 (D5 (pP U9 2 z0)),(by have fin:sH w s:=UA z I z0 q),CY6 "type.__call__" CXI,∀i v,i<items.size->CXG->z0,BPX z0 A7N _ size,z0 (s:=BKO) J hd zA,RelO.some_of (v:=v) (o:=z0) zA,∃its:AN,uD/\z0/\ZR,attributeBase e f z0 zA=zB,(by simp only[List.size_toArray]<;>exact N0 z0 a),(by refine D1A;refine U7 (X:=A62) (l.held p) z0 zA ?_ zB),⟨ns,rows,sides,z0,zA⟩,{D with nx:=u D},["row","side","names"],b6c A12 ZG,spLaw (K w.params),.Return (some z0) pos,z0/\0<=CS/\CS<=topN,F4 K (E4 z0) (AWE b4b T.b_int zA),FnOk l.prog w z0 mg,(r,b)::xs,z0 l.row.toRowW d [] (λf vs=>PySem.call f vs),wpAny_setState_of e1 f AKM z0,(by refine call_meetsIn z0 dd.typeIs zA (gH zB) zC zD),As1 H' Ss v,W2 C5 T.b_len (AKV z0),f b _ q λz=>z,(by rw[HI codeAny_handlers_suite];refine JQ lands_againW z0 zA zB zC),.set es ep t,YT×qE×qB,a3v z0 c h0 (CVL zA),BG z0<=m+cs.length,ws.map λx=>V.bl true,FAt C H' x ra,(by rw[cL z0];rcases zA with e|e|e),0<=y/\y<=B,a i j t t',(by have a4:(z0==AX5 "dict")=false:=by decide),CRO (AZB model w.params.followText),SqAt k2 z0 b ys,HT.lexLt (z0 i []) (zA j []),λi H=>∃xs x,z0/\cH,∃a vs,AKH/\CXH,((y8 (z0-(a+1)) (i<zA) (LP bF i=LP bF zB))),z0 j eP ew eK,(decide_eq_false (by intro z;exact rL V.str.inj z AH)),absurd hj (Nat.not_lt_zero j),∃a,z0/\a.length+zA<=sz+1,kI (CYR k1 a/\z0),(by rw[B1U σ xs.length AWW AXL z0 σ]),(AKI (λz=>by rw[<-z,z0]at e;rw[CI]) zA),z0 b o e n a,BNV (AXW-(RD+1)) AXW>>=D2 z0,NG td x (∃a,JH/\IsD H1 a/\VB ty y z0),∀(z0:LLI) (rest:qI),zA->A10->zB,(I.hok b u e).stay (λc v z0 q=>k c v ?_ q) zA,CZ0 e z0 (BMW e) (KB E e UE),OwnCls x C bmB qR mg z0,∀{h h':Heap},z0->(fC (b∉[zA]) XF WJ)->zB,((∃dx ah,SA p (kM (AFH z0 ah))/\EN ah)),hideAll s2.heap (frs BNC),(AFV xH z0).get? s.heap.objs.size,∃runs,A4X IG z0 runs []/\CYW,DQ h' tk qP kp z0,CVU I1.landX hp z0 cov zA (zB zC),JR (a5S d.names B0F).tail.map,.Compare i [z0] [o] pos,(N5 ns xs a).map,yQ (BJO > 1) (BRB A0X) none,(by rw[sM z0 (wpAny_newList ?_ (Nat.zero_le _))]),(by rw[AWB (λx:Str=>x.cps.toList) h]),IsEnumOut z0 e it AJS x zA,(by have W:=z0;have zA:vs.toArray.size=vs.length:=List.size_toArray ..),(by rintro x rest z0 s' ⟨rfl,zA,hr⟩),f AH6 (.int j u),occurrences a b 0 a.length CU5,(z0 BNH).take (HT.sIx xs.length xs.length hi-BNH),AHY h' Heap tk xs z0 (zA->zB),(by obtain⟨z0,b,zA,f1,f2,zB,zC⟩:=TT.2 i _ zD;rw[AW zE f1 f1];rw[AU r1 q2 zF]),[AI r1,AI s1,AI c1,AI p1],Heap.FlyingW B z0 p QG a0 zA,(by .exact h.one (λ_ _ _ p q=>z0) g),CX4 (z.setIfInBounds 1 (rawInt CW7)),λt S=>AE (gP hR S) (a9s d Z),(by refine B1S;rw[ER (UZ a2P [] z0 (sqt ha) (sqt hb) zA BS6 rfl (D1P j)) H1 p s zB]),["_law_k","_law_letters","_law_first","_law_step","_law_longer"],(((z0 H _ l q items).toS)),a0E AJU ns (prices.map prO),IsZip z0 z TI TO (rawInt zA),(by rw[LU];refine wpAny_Call_Name_kw (U7 I z0 zA ?_ a)),(by rw[EZ o e c d id st']),A5Y FAt ra ca af aw z0,(by rw[EZ u rfl t rfl a4x r]),(by have lst:∀{h:Heap},z0->BOA h.IsList:=λg=>zA),(by rw[GJ d (z0 gL S NoX zA (w a4 zB) a6 zC) eA d]),(by refine wpAny_forIn_list _ z0 _ ?_ ?_ _ _ (sN zA)),BPL (C9 f v B13=(CVA (k=f) (fP k v) k)),BC EqV.flat K z0 H H (n:=0) (x:=zA),b a f A outer s H vs Q,(by rw[A0B z0 d (zA λu c zB e j=>lW (IF h1) CYG (o'.trans j))];rw[BQ7]),(by obtain⟨z0,H2,c,zA,a,zB,ex,g,l⟩:=p;rw[AGU m]),∀H' p ys,z0->CT8->QN->NF->tD->A55 H' ys,concat_meets z0 zA noFill_tuple_add seq_tuple_add PySem.F.slot_tuple_add PySem.F.entry_tuple_add (BZ PySem.F.args_tuple_add_2),BC wpAny_binaryOp_repeat_ref T z0 U "int" AH zA (λs'=>AYU s' zB) zC F.fills_int_mul F.slot_int_rmul zD F.slot_int_index.lookup,((Heap.SameBut.update ..).extBut.push _).push _,pW "enumerate" #[.none,AXK,kR,AJO 1,.none,.none],∀(z0:qH) (zA:CUD),(∀(h1:Heap) (tk:Nat),BNK->zB zC (xC h1))->zD,b5P (s:=z0) e c d AH ⟨zA,H,zB,zC,zD,st',λb f=>A7X g f⟩,(by rw[AC hl z0 TT (a6H I hI zA)];obtain⟨T,zB,t2,t3,t4⟩:=zC),SetTable.insertAt t.place A7N (pos t.mask x N),BSK d b (z0 qZ .none kV d pm an b ct),AXV (zQ (g (f a b))) xs ys=AGG f map g,(by rw[LU];refine wpAny_Call_method m.base m.few m.line PySem.F.plainAttrs_dict z0 zA zB;obtain⟨x,H1,zC,zD,a,ex,d,zE⟩:=zF),(by rw[QQ];rw[A7C Builtin.SmallTypes.ownedTupleIsFree (wpAny_field z0 rfl (x:=.none) rfl (wpAny_pure ?_))]),AHP items.toList.drop A6G (sIx items.size items.size hi-A6G) z0,(by rw[LV z0 zA];refine⟨s1.heap.objs.size,[s1.heap.objs.size],_,_,H1,rfl,zB (t':=s1.toks) λb o e=>YZ,zC,AXM,gQ d,q⟩;rw[A14 s1.heap.objs.size d]),(by subst C;rw[LV z0 n];rw[PY wpAny_runValue];have p:BQL:=Heap.lt_size hol;have H:A.in1.in1.in1.handled=none:=by simp[hh]),(by have:=z0 (A:=zA) (s:=s) p1.isList p2.isList BO5 zB;have B:(us.length==d.length)=false:=by simpa using p),⟨_,rfl,z0,_,rfl,zA,_,_,rfl,rfl,_,rfl,?_⟩,codeAny z0 callerA (B07 fa CX3) (λr s'=>r=.ok (CRW true)/\OldK s₁.heap s'.heap/\s'.os=s₁.os/\A11) s₁,(by have P:A70 BOP xH:=KF;have hT:Shared.TypeIs (A5I xH) kR "set":=MW P;rw[AC a3 PySem.F.called_set.init.lookup a0 (CWZ PySem.F.called_set.init.bind)]),⟨_,rfl,p,C,dx,_,_,rfl,z0,U.cl,zA,zB,?_⟩,(by rw[D1W e z0 zA];refine c3u lk c S len λA outer s H vs Q E zB d=>?_;rw[IJ t h q zC t zD q]),(by rw[QQ];simp only[newExc,newTuple];rw[AX (CY5 CSZ)];refine B1E (BZ firstArgMember) (wpAny_of_eq (a:=Value.none) (by first|rfl | (simp only[firstArgMember];rfl)) ?_);refine wpAny_newObj_type ?_ CSZ;simp only[raiseNew];rw[PY wpAny_handled]),(by obtain⟨ol,hol,hcl,nl,hdl⟩:=hl;obtain⟨X,k,L,d⟩:=ol;simp only at hcl hdl;subst hcl;subst hdl),∀(qK:DL) (s:qC) (σ:St) (H:Hp) (z0 zA:V) (zB zC:qB) (Q:VK),zD,∀(i j:Int) (t u:Tok) (s:qC) (Q:qH) (E:qH),z0,List.mem_singleton.mp z0,Value.ref z0,wpAny_execs_nil z0,List.getElem?_take_of_lt z0,eq_of_beq z0,KeyOrd.kle_of_klt z0,List.count_eq_zero.mpr z0,z0 vs.toArray,s.heap.objs.size<=z0,L.length<=z0,z0=.function,(by cases z0<;>exact zA),(by rw[kP]),(by have:=z0;rw[ZI zA zB]),(by rw[BX0]),N.hL.1,(by exact PassesOwn.never),(by rw[List.length_append,z0]),! o.isSome,(by rw[Bool.and_eq_true]at z0),X.env.scope.kind==z0,show D3M from z0,⟨u.slots,z0⟩,⟨z0,D96⟩,(by simp only[Bool.and_eq_true]at z0),(by simp only[List.length_nil]at z0),~~~c0N,(by dsimp only;rw[lK ?_ c]),(by rw[<-Array.getElem?_toList,z0]),(by try with_reducible rw[BU0]),(by dsimp only[Option.map]),Int.mul_le_mul_of_nonneg_left z0 zA,wpAny_call_entry z0 zA zB,Option.some.inj (z0 zA),I.hok.fresh (z0 zA),List.mem_cons.mpr (z0 zA),z0 (Heap.lt_size zA),(z0).toArray,(z0).append_right,qA WData,zs.length+1,A.length+1,gC+1,(by exact List.mem_map.mpr z0),(by exact of_decide_eq_true z0),List.Perm.append_right _ z0,Nat.mul_le_mul_right _ z0,AI sl,AI a.heap.objs.size,AI n0,AI ya,AI HK,AY t.plain,(by refine List.nodup_cons.mpr z0),BG es.size,BG x.length,BG ws.length,BG A77,AE List.length_append z0,AE List.length_set z0,hw.2.2,FD h₀.get? z0,AO e,AO outer,AO at_,AO sm,NY "str",NY "frozenset",Value.isStrOf x z0,BP wi,BP UI,CK ns.length,SqT.of a,beq_iff_eq.mp a,Nat.min_eq_left a,osV a,jv 8,a0j e,a3g e,List.getElem?_eq_getElem e,s.upd e,Option.map_eq_some_iff.mp e,BZ .n,BZ .x,BZ b4i,BZ Q0,BZ a6M,BN CZ5,hw.2.1,VQ UInt8,YH LF,λz=>D7U,xs.length-1,B.length-1,its.toArray.size-1,its.length-1,A8B-1,PN sizeLine,DO BVW,i<r.length,i<es.size,i<x.cps.size,lo+SF,IC H',IC X.s₀.heap.get?,IC s₁.heap.get?,IC s'.heap.get?,GE m,GE f1,GE ALT,List.mem_of_getElem? b,.str b,h.get? b,List.mem_range.mp b,List.getElem?_eq_getElem b,s1.trans b,kG bY,kG AM9,0<=l.sum,0<=QU,0<=BTF,JP List.drop_eq_getElem_cons,JP Nat.mod_eq_of_lt,JP BXC,List.mem_cons.mp h,.inl h,.inr h,List.getElem?_eq_some_iff.mp h,I.list h,I.tuple h,List.length_eq_zero_iff.mp h,BQ o,BQ e,BQ hs,BQ hu,BQ G,a.getD j 0,c.getD j 0,u.getD j 0,b.getD j 0,f.getD j 0,k.update a z0,EN dx,EN af,(by .exact Nat.lt_succ_of_lt z0),2 ^ a,EO PySem.W.handedIn z0,0<xs.length,0<ns.length,0<its.length,0<a.size,0<l.sum,0<v.length,0<r.sum,PQ rG,BD c',GY fs.length,GY vs.length,GY items.size,GY f.length,j<owner.size,JR l.map,D2 D34,bB Nat,bB Str,bB (wZ V),I.tuple i,mergeAt' i,(by .rw[AB List.mem_singleton z0]),.str z,List.getElem?_of_mem z,(by rw[List.take_add_one,z0];rfl),wZ LLI,FH L6,(by rw[JY Array.length_toList z0]),GQ h2,GQ e1,GQ e3,(by have:=List.length_filter_le z0 zA),VR O.α,D4 false z0,DZ fin,kV k,List.getElem?_eq_getElem g,s.upd g,h.one g,PR items.isEmpty,IU s2.heap.objs.size,IU ar,OA r.map,OA zs.map,a3u n,EA e.symm,List.mem_singleton.mp y,xs.push y,s1.trans y,NoNum y,RG r.map,PV ms.map,LR h,rs.getD i 0,IW CXJ,IW BUO,IW BVN,x8 s.heap.get? z0,1<=xs.length,A4I PySem.W.emptyDict z0,OH SetFound,(by rw[PY wpAny_letGo]),x.cps.size<=i,zs.length=n,v.length=n,t.length=n,D6C::r,intKind P w,rSortS P w,rLenN P w,f _ rfl,KD "tuple",KD "range",KD "int",KD "set",HR hx,HR hn,s.heap.update p z0,I.ok.hd p,VZ a.map,VZ ys.map,i<=es.size,i<=mask,MY o.dict,(by rw[W0 Nat.lt_of_not_le z0]),HH ns,HH ps,wpAny_setState_of z0 zA zB ?_,IF C9,IF eqV,IF T3,ns[i]?,xs[i]?,congrArg z0 e,LS cC,MZ [],Nat.le_trans z0 h,JC Heap.get?_push_ne z0,List.getElem?_eq_some_iff.mp c,Nat.ne_of_gt d,s1.trans d,WB v.mono z0,(by rw[List.foldl_cons]at h),I.ok.hd f,hy.same s2,e4.same s2,GT List.length_map z0,GT z0 List.append_assoc,HJ s,HJ e,HJ ?_,YM d.hok.fresh,WG ["j",z0,"one"],m<xs.size,m<BG qL.length,GU z0 List.append_nil zA,b∉X.ex,b∉AK5,NA "tuple",NA "range",NA "int",NA "set",lt x y,GK a1.trans z0 zA,P.length+i,RT I.ok.noex,RT B,List.mem_append.mp t,k+j,n+j,pY PySem.W.nsOkIn z0,kN "least",kN "beyond",kN "cheapest",c≠s.heap.objs.size,c≠48,z0 PySem.F.plain_set_new _,rIxL K,rJoinT K,rInN K,m<=a.length,IL hl,rawInt 0,v∈ys,HU List.map_congr_left z0 zA,BIQ its.toList,YU c7Y,YU c8a,YU c7Z,xs=VT d,xs=D7L,(by rw[L1 List.length_append]),LX hx,LX h1,LX e1,UG List.drop_eq_nil_of_le z0 zA,Q BQP H,YV "",Heap.IsSliceOf.new ..,gallopOf s,bS beq_iff_eq.mp z0,QM e2,QM b2,ZA ZN,ZA CST,IY o YZ,A4Y hr.mono z0,HV (z0 a b),xM tO,ZB List.nodup_append.mpr z0 zA zB,LZ s1,sc.names.all λx=>z0,xN Bel,xN dot,kS xs.size,kS es.size,WQ Prod.snd z0,fM (IS AYQ),WR b3T,bW AS,bW AZ2,OW hp,SG lt,SG ld,SG pq,AFG h₅.get?,SI ys.length,SI z.length,rD "sorted" z0,bZ b1T,bZ b1U,bZ a8n,bZ a6P,¬(D8J),b∈fs,b∈X.fs,Value.int z0 t,Int.lt_trans z0 FV,UT List.take_of_length_le,UT d.set,UT G.off.set,LI A5H,rH l,JU a3P h n,BJ0 b0t,QT s.2,QT s.1,(by refine z0;rw[Int.toNat_natCast]),UW e3,Ans t v,AUL xs,AUL ys,xT a4H,xT a4G,C3 D5V,List.mem_range.mpr h1,s.heap.objs.size<=a,k<items.size,(by rw[WX List.length_map z0]),owner[j],(n,NameKind.free),BJ4 its,AUQ st,(by rw[OZ (List.mem_append.mp d)]),λj=>D9N,xY d.names.length,xY qW,XA e,XA List.map_map,xZ wpAny_rule z0,(c,[]),([],[]),AUU wplus z0,G6 srt,Int->V,EJ->V,GE (GQ hn),cI z0 "_law_script" zA,cI z0 "_law_pot_here" zA,A5K s.heap.get?,A5K K.lookup,CA 2 sc_read_term.nd z0,AFX z0 items,A5O 551,s1.heap.objs.size<=c,cO args,cO (z0::vs),c∈D8P,FD X.H₀ b,XI z0 zA "_law_pot_here",AV1 US,AV1 BVJ,z0 mask i pt k,rX Unit,rX AZ2,AG1 D.lt,B.StaysIn h2,s'.heap.UpToSlots h2,fs.length<1000,n::t,(by exact Nat.le_refl _),Under a b,ZU ha,ZU ht,yJ A74,a σ H,cW "join",cW "index",AG7 xs.length,AAB::st,(by rw[cX z0 (List.mem_map.mp c)]),p≠af,p≠aw,AGA s2,AVD KH,yO 0,AGB rs,AGC (AF5 CRH),ZY D7C,AVH isFn,A65 nM,gX "rows",gX "caps",mD lk,AVL AKK,A68 e1,BJL s.gens,BJL g',hH true,hH false,hH none,hD.same s1,A69 Int,A69 qB,t::ts,dE z0 zA List.append_nil,mG hl,mG hz,AGH now,sL a3Y,hY c2f,.int x t,mI (hY a8b),ID p A85,Kept lo z0 a,AGJ CY8,dI B0A,mL "word",mL "sign",BJP A0T,AVS (z0 b t),A6F false z0,tmW CZ CS,AGN ns,w.length<=8,QT CS<=8,(by exact decide_eq_true h1),AY (AVB bmB.contains z0),VP qB qB,A6N D7A,W5 k l,t9 CSD,GI D9Z q,A6O (c0t z0),A6O [EV],A6S AYD,DGet H a z0 mZ,AW3 Nat,BK0 (CQE CX),BK1 take,AGX 100000,AGY z0 zA List.map_map,IntsAre z0 ms,nC "rows" z0,nC "caps" z0,~~~a3Y i,zP a0W,zP a3W,d.kept (t':=z0) zA,l++[v],kH ks.map kV,h y List.mem_cons_self,pK E3 1,zQ (a+b),AWF 1000000000000 z0,A78 CY0,A79 A1N,A79 AMG,CRC zs,(nO (λq=>nomatch q)),AWO a0,AWO sX,i-vs.length,i-ps.length,AWP CW,xs++zs,tX List.getD_eq_getElem?_getD z0,z0 scope env,nQ b7,AHI hn,~~~c2s b,~~~a1q b,u5 M,LA.getD i WM,LB.getD i WM,zY (A5I (pW z0 zA)),A7F B39,(by rw[u8 (List.mem_cons.mp f)]),u9 (VC (z0 x hx)),MV M t Q,AWU ent,λi j=>i++j,A4M wd "",A4M wd "01",A00 GV,WF vs.any z0 (zA=k),AHL wpAny_letGo,λz b=>BR7,A04 ts,AHO h2,lI u rG,A5V l AKP,nU BWC,tI E4 jaN,Heap.SameBut z0 s.heap h',AX5 "list",b2m hx,I.ok.hd E,V.ref HK,A0D w.cps.toList z0,(by rw[uI List.length_append]),xs[B]?,x==dF,Nat.le_trans (z0 _) zA,AI2 B,AX6 PySem.W.plainOver,DV 2 IV,VP Int Nat,A81 row,A83 s'.heap,EO (D5H z0) K5,ID n BKA,LP qQ k,Under u v,AXC q,AIA (if neg then z0 else zA),AIB UB,AIC h0.get? z0,fG x' z,RelO o u,SA p (BJU z0),CRR its.length,A89 26,AIJ fin,CRS xs,A8A (z0 K t),BLB items.toList,AIM "tuple",CRY rss,BLD QG,λm=>xs[i+m]?,λh=>yY,na-k,j<=qQ.size,AXS 20,AXT lo,CK qL.length/\z0,D85≠x,⟨g,b.an.ans⟩,A8I rR,A8I AKK,AIS names z0,i != 0,AIT (0<A87),BLM Nat,BLN LLI,(by .exact Nat.le_refl _),(by .exact Nat.lt_succ_self _),A8R ib,A8R KU,A1B sep,A8W (i++j),A1K true,BLV AWH,BLV BUI,A1L "set" z0,(by .rw[yX ys];exact hd H' p s hp),BM0 zH4,BM3 cs.length,CSM α,BMQ ((AM)),us.length<=900,YX<=sP,T="int",T="str",p::p2::r,g::a,AJQ UU,(qX).size_eq,(by rw[AYI List.length_cons z0]),∃z0,YG h1.get? zA,w∈Bd7,z0 (Nat.le_of_not_le c),(s.heap.update z0 zA).get?,A9Z c0D,BH y hy,b9O K c,dot a c,HN env.cells.lookup a,AK0 " | ",AK4 (AK4 hj),VU b CYP,IZ items y,AK7 at_,AK7 NI,AAJ hx,d q List.mem_cons_self,(iI (show z0 by omega)),BNJ out.names.lookup z0,BNL h',BMM PSs z0 A5T,.str KW,a1K hj,a1K (D77 z0),Bds sides,b4U te,Sz CS,-(ALK),F++D6S,AL4 (((G4 mask c).map (·.1))),∃c∈y.cps.toList,z0,(by rw[List.lookup_cons]at z),2*i+1,CQ X.env.kindOf ET z0,ALD h1,AG c r,AZW N6,CC σ RQ,BO4 true,BO4 false,BO4 neg,(by have z0:zA=zB:=by rw[AI0 zC Array.length_toList]),us++[y],B01 PT,B01 PW,BO6 PSs,ALS ?_,CA 1 sc__law_pot.nd z0,bE (DS x),BO8 its',ALW kp,(by rw[CT4 z0 List.foldl_append]),BO9 s.heap.IsList,BOA s.heap.IsList,FP L AB5,FP L (BRC z0),k o (AAT z0),AM1 60,BOH g.lv,AM4 h2,CT5 AHM,RdS.zs λz b=>z0,Kept lo st' z0,AFX h' xs,sH u s',A6K BYB s,AW4 s.heap.get? BKK,c0<=QS+ib,BKN c.map cD,A7M aE 0,AI9 b ys,(by rw[A0N evalPart_none ?_]),B15 (z0 K tl),B15 (z0 X.K tl),BLT σ' v,B18 AMF,B18 B42,(by rw[AML];obtain⟨_,_,z0,_,zA⟩:=B4L zB),sJ bk E1 lD,AMM (BMN (fU<=o/\z0/\zA)),k it AF o z0,AZI AFJ z0 F.slot_tuple_iterator_next,B1D "sum",B1D "=",BOW (z0 σ H (zA R)),AMS QV,.bl (g i j),a 0 [] H1,0<=z/\z<=topN,(by .rw[B1H z0];rw[iK zA];rw[List.getElem_zipWith];rfl),B1J (RA A76),BP0 n,BP8 (VY σ'),BPF (DC t),I.ok.hd A,B1V S.T,Nat.min_eq_left r1,Sm now,α->β,α->qD β,i+EV,lo<=hi,q<hs.length,s₁.gens=#[],B1X ON,BPI List.length_cons z0,BPI List.length_map z0,Nat×Nat,l≠s.heap.objs.size,H b≠none,H' b≠none,AVE∈D,(by (with_reducible rw[LV wpAny_loadPart_at z0];rw[zA])),l[B3L],l[l.length-1],Slot "set_iterator" z0 zA,d _ (j.mem_iff.mp B),h.sorted _ AF,h.ne _ AF,MtR X "str.join" z0,FW h.get? z0 λo=>zA,B25 I.sm,(owner.getD j z0).zA,(decide_eq_false (by rw[kP])),B27 Nat.pow_pos,BPU .nil,B29 mT,(List.getElem?_eq_some_iff.mp a).1,B2A xs,B2B n8,~~~b3q h2,~~~c7M u,~~~c7C u,~~~b3o B,eqU x u,Q (! c) H1,CC L a,CC L qO,rIn K true,c++[BUM],DA ["rows",z0,zA,"places",zB] zC zD,a3q z0 (jv 1),B2O A85,BQ2 cC,FW xs.filter t,Value.int n t,(by rw[eT hz 16777216]),GI D5J e,B31 ps,QC t D9L,B34 QG,YS ch AYG,E.all a b z0,h u hu,hL u hu,B37 B,BQI t.map,BQI r.map,B3A (z0 (f x)),fP n v,fP n k0,AUM (BP (i-j)),B3J ia,rV (B4O z0) AH,BQS O9,B3P CWS,B3S a3q,B3V (YI UC),SlR X (z0 K),IxR X (z0 K),CUQ e'.1,⟨H,WD,q⟩,B46 AAR,AIL u e,B4D "len" z0,B4K na,B4M D8O,CV1 outer z0,B4Q H1,B4S as.map,B4V DB4,CVC now,b1x ns zs z z0,B50 a,CVG zs,AV2 p (SA p z0) zZ,A66 h' i n,CVJ AF1,NoAttr X.K C f,B5C (BV5 b),CVO c,CVU I1.land,B5U OC,PlainAttrs T,qB->BQM,BSM 100000,n.length<=20,ys=WI,ys=AFB,s % (A87),A8B % 10,[B1B,d g],[B1B,g d],(show A8S z0 by rw[RC]),(by rw[IP,BLS h1.symm.trans]),S∉fp,S∉wr,AIX ≥ mg,AIY ≥ mg,z0 (s1.trans s2),D2V z0=some j,(z0 a).isSome,kk _ S,AG e h,BSV hd,CW9 F,CW9 E,BSY List.length_take z0,(List.getElem?_eq_some_iff.mp h).1,~~~a2G f,CWE AHN,BT1 D8W,EL Nat qB,EL Nat ((SJ z0)),g x I,d0Q K ta,r++[-s],(RT I.ok.bs).2,BTG CWG,DR A76 AI8,DR A76 (tC v),BTH ys.all,GF D D.typ,PGs X es t,JFs X es t,λx c=>AJW z0 c,BTM qQ.toList,EH vt xs,EH psW xs,OD fs F,OD fs fss,F0 g z0 (DV 5 nT),λx=>lt' y x>>=z0,z0+k<=lb.length,VU p B1F,VU q B1F,IZ xs v,IZ xs z,YK YR AKG,YK YR (d+m),BTY 20,BTZ hp,bG x z,eZ p BTP,TY l fs,BU3 List.size_toArray z0,QC b i,RW XF WJ,xK xs.take i,BIS CZA BM5,BIS CZB BM5,NE S.mem r,BUB (jaC (BJA 4) UC),λb c=>b++c,BUF s'.heap,kU MS (o++[x]) z0 zA,¬(AHK CX5),BUL srt.filter z0,lE zs.drop k z0,SX F B0Y,BUR g.map,BUX (x-y),BV2 "dict.get" z0,BV3 A6J,t7 a "dict",t7 a "set",BV4 zJ,zV PE z0 te,zV JE z0 te,BV9 cs.length,CY2 d,CY2 e,AI5 b a,AI5 dx a,uS t ht,BVH fss,(bump z0 j).getD,∀l,A84->CUV ys,QK/\AGT BPA CZP,QK/\AGT BPB CZT,CYH ys.length,CYH zs.length,BVP z0 (Q x UE),BVR vs,BVU "__init__",BVV xs,CYK BW9,CYK BX8,BW0 L'.filter,z0 (f x y) H2,PG X tg g,JG X tg g,∀c xs,D66->z0,BW3 hs,ALO v B,BW5 c.map,AMJ p i,A9F _ (z0 (yK zA h)),AKS a _ (WK k z0),AKS a _ (BSQ (WK k z0)),b8E td ty tx,b8B td ty tx,AMW Q ?_,c7p ta tb,d0S ta tb,fss.any λf=>BRZ,z0 K R vs H1,BWI (I m z0),BWJ .Not,CZ3 "tuple" z0,CZ3 "list" z0,BQR cd x,BQR cd qn,Inv j [] gL z0 zA,BWO CB,BS9 z0 it AM,BWX (xN lexLt),c7n td ty,b8F td ty,BX3 name,rSetT K P w,rSetS K P w,CZF s.heap,BX5 most,CZH CZA,CZH CZB,zV PG tg g,zV JG tg g,CZZ IG,(by rw[AZN (AHT hj) z];simp at z),BY2 BVX,BY3 tT,D0E a0j,D0E a3g,D0M bF,D0M IG,BYG (z0 X.K H p xs) zA,D0Q qn,D0Q qual,(by rw[BYI (UT List.ext_getElem)]),BYK (BP6 base) z0,(λb u e z=>by rw[AY5 z z0]),BYL s.heap,D10 A62,D10 D4P,D1K min,D1K max,BYY "TooMany" z0,D1M a,D1M tg,D1N "get",D1N "setdefault",D1Q MethOk,D1Q MethOkE,tC .non,qO.Perm rss,hL.p hG,uP+(B47+n),vs.length<2,D1X sysModules,o.data=DA1,D1Y as.length,D1Z HK,tH=A4Z j,LP (CZZ qQ) k=z0,M::b,W++L',(by rw[<-Nat.add_assoc,z0,zA];rfl),Str×NameKind,A9X/\L=[],RP/\MB,∃q,CX8 q,y≠sB,(by rw[<-Array.length_toList,z0,List.length_map,zA]),D26 X.base z0,Under z0 rest,((A1T H')),D27 wpAny_holding z0,z0 l=Option.none,D2B hm0,W.sub _ h,f _ AD,AG X L,AG J hp,D2D HT.lexLt,D2E HT.lexLt,D2F HT.lexLt,(K0 (by rw[B2Q z0])),D2G List.drop_eq_nil_of_le z0 zA,AE e' (UX z0),~~~b3P p,BH i hi,BH z b,BH zs O,CY A76 (tC v),CY value tv,EL V qB,z0 (.cons zA .nil),λz=>VC ((h x b).2 _ z),λz=>hZ (z0 _ z) rfl,CC g CWD,lo+BQ9*1,(c5X c).2,L r d,DR value tv,R9 b v,a0g b e,eR (z0 b nb) z,IR it s,(by rw[PP wpAny_pure (AHL wpAny_bind)]),RelV y v,DA mB mB z0,DA A6Q A6Q z0,Rs3 n rss,(by have:=Int.mul_nonneg z0 zA;rw[QL zB]),c7h ns g,(c5X c).1,lk c n,VX e p,YJ KU 1,D3B ON,h.ok d hR,TW (B1W now.sum),VZ (D6X).map,Good st' a,J9 St.P e,JC f c,JC a0o e,JC a1R (List.mem_range.mp hi),(by rw[FY z0 List.mem_map];constructor),a9l ns z0 h.nm.nd zA,eZ x o',TY b zs,FP F B0Y,YS tE zL,.str (D7 x),SA t BKA,OS (!(D4U z0)),OS (yN (b.getD z0 WM) x),xL 2 c0U z0,OV QR hi,bU z0 [] {args:=zA},bV a6r c,RX o a (sT (WK k z0)),Y5 dC A7,D3Y V.int.inj,¬(A0P items.isEmpty z0),(by have e:lts.cps.toList=z0:=by rw[pN]),AFN QG f,XC S.mem r z0,ZJ b3x hw,SX L (BRC z0),lH us ds,D43 I.sz,GO H p1 B1G,AV3 BWK m,n<rN 570,D47 cs.length,D48 b1Y,lY c tc,absurd h AZQ,AGK .In o,dI (PV c.map),D4D hu.imp z0,(by rw[D4E List.extract_eq_drop_take']),JS X st u,F1 (compareOp .Lt z0 zA),t8 b a,mY G.mono (BT6 3),mY j.mono WH,AGV HeapKind κ,nB d ob,~~~c0M c e,~~~a6v a e,D4H 20,rU λi=>BP (-i),∀x,gB a.toList z0->zA,A7M U3 2,D4R s.heap.Ns,A6V ld s.heap z0 xs,D4V "join" z0,JI X tg l (z0 K tl),D54 names,AIV ns.map V.int z0,A19 f rfl,GC a1B 4 L6,rE (F3 (z0 c) f g zA) b.h d,AJG vs a,JI X tg b z0,D56 B41,(by .rw[AHD e _];rw[e1]),(by rw[A9I c (I.lstM b)]),d.eq (AR z0 hs zA),(by by_cases hj:j<u.length),D5B sa,BMX SqL vs,AAK x C,AKF IG n,D5C xs,AZB D9 is,D5G k.extBut,a8g K DY J2 z0,~~~a9C g c,ALJ z0 (Bds r),D5L lexLt,zN now a e,AKY a n A95,AKY c xs.length A95,z0 λb o e=>AHH i.bs,D5Q Sum.inl,D5R Sum.inr,(by rw[B1H a];rw[AL8 AA3];rfl),(by rw[BPK _];rw[lK (A9C d) r]),IsPair s.heap TI z0 zA,BPP AMH quiet,z0 K hu U3 lB,AJ f1 Z l,B2C c L,H1 z0=BK .tup xs,BQW (.builtin "min") AXD z0,D5W js,(by rw[BW _ rfl A0R ALV]),(by rw[B4F h.sorted hs.drop z0]),∀q zs z0 H',BL->BN9->zA->zB->zC->tF,D61 CYQ,B5D N4 z0 c3W,(by rw[Bool.eq_iff_iff,List.any_eq_true,z0];constructor),((A7U (AY z0) BS0 (lU zA))),OpR X f (AUM z0),PA X bD ta,W9 x.toNat c a,BTU (QS+1),Sgs H' ss L,A4K C4 (N:=[z0,zA,zB]) (src:=[none,none,zC]) (AGE zD),JA xU LK t,Chn n c z0 L,D6B hc,(λi σ H' _ z0=>by obtain⟨_,_,_,_,zA⟩:=zB;rw[A9V zC]),BUH xs o,D6F .dK,(by rw[mW];rw[XG z0 rfl zA q];rw[DBT]),tS s.heap S D,(by have z0:AK0 " * "=3:=by decide),D6M B5P,BW8 N x,∀p,JB A62 z0 ts,BX1 A1D A96,D6P D31,BXV B2R h.get?,D6Q (d.rows++[xs]) z0,D6Y D5A,⟨AVA gI,lst r⟩,D70 ((fs.map (·.1))),c8p ty td,D72 lnW,DD->DD->LqA,JGs X es u,D74 hp,A5 (a9J z0 (BQS b3Z)),D79 scope.names.lookup z0,D7K lB,a4e f y fs,MA hg S eS,D7P (j<i),D7R .IfExp,D7W ys,ItAt k2 z0 g l (p+1),(i1 v M).nn,qK++a6b fp z0,D87 f,D89 D3X,a6I z0 h1 A0S g,D8F S2,dot r ys=0,a1c hs e y a,AM0 z0 f k CW,D8T CU8,D8Z A1J,D90 putK,D94 s.heap,D9C D40,D9D es,D9G (z0 s.heap a its.toArray),D9P e,D9R (jaC A7 UC) z0,D9S D6R,D9V ?_,D9Y AAQ,DA3 xs.length z0,DAC s.heap,(by have e2:N2 env cs z0=zA:=by rw[sS N2 zB]),DAO I.base.free,DAT CYA,DAU base,DAY AFL,DB8 z0 d.objs.size,DBD r.drop,DBH X.stack z0,DBN Walks.list,DBP z0 h₅.objs.size,DBS true,DC2 (BLG xs.length),DCF toArray,(by rw[DCH wpAny_pyIter_list]),(by rw[DCI SeqAt.RcAt.lists_lengths z0 zA]),DCK A8O,DCR (z0->B1J DBB),List.mem_map.mpr (MW z0),.dK BQJ,I.tok tk,d0T tA,Nat.le_of_eq (BZ z0),Calls.spliced_cons (thn (B4Y z0 zA zB) λzC zD zE=>D3K),ps.zip us,c7m trs,a5Q h1.ne,c7T tl,nd.sublist List.filter_sublist,fre qO.length,t.Perm D86,LqE->LqA,Obj->Obj,Params->qF,DD->DD,hs.imp_of_mem λ{x y} z0 zA k=>?_,F.ok S len z0,λz0 zA=>HE zB (EM YQ) ?_,X.flatten.length+ra.length,lS-gC,sE-A77,d.rows.length<=5,sE<=A77,AJ2<=2*n,300<xs.sum,sE<A77,now.length=xs.length,sides.length=rows.length,b1::i,CZ::CS,AA1::args,us++ds,LA++LB,AMY++BJ7 (FE DBO),(by rw[A7T z0 zA f]),(by rw[A9Y z0 a0W]),(by rw[D58,<-CB,z0];rfl),(by rw[List.contains_cons,z0,Bool.or_true]),y % (A87),0 / 32,AA7 / QU,if A8B<10 then z0 else zA,if z0 then y else x,Nat×AAA,[sB,n],AM7/\BV0,∀l,P l,(by .show WT*n<=_;omega),D4Q∨DAF,(by rcases z0 with⟨qL,zA⟩|⟨qL,zB⟩),(by rcases z0 with⟨zA,rfl⟩|⟨zB,rfl⟩),(by rw[List.any_cons,List.any_cons,z0,zA]),(by rw[List.zipIdx_cons,z0,zA,List.filter_cons]),ys[C]?,(by rw[List.take_add_one,z0]at zA;rw[BM (A9L zB)]),(by simp[sliceBounds,HT.sIx]),(by unfold SetTable.turns;omega),(by unfold KeyOrd.klt;rw[BXI]),e≠it,xs≠ys,(by obtain⟨_,_,_,_,e⟩:=x),(by obtain⟨_,_,_,e,_⟩:=x),(by obtain⟨_,⟨_,_,_,e,_⟩,_⟩:=x),⟨DP z0,BNZ XM⟩,⟨BV,λj a=>GS (Nat.le_zero.mp a) z0 _⟩,⟨z0,lst g⟩,j∉xs,none∈os,(by rw[<-z0];exact List.mem_of_getElem? e),(by (obtain⟨_,_,_,rfl⟩:=z0;rfl)),i ^ j.toNat,(by dsimp only;rw[PP wpAny_bind (yI wpAny_askSetting)]),(by .rename_i z0;have zA:=eq_of_beq zB;omega),(by .obtain⟨_,_,z0,_,dd⟩:=zA;exact dd.typeIs),(by rw[<-r.length,List.length_map]),⟨z0 K b.h a⟩,l ≥ r,show DAB from b,(by split at h0<;>exact h0),[cA,DX g,z0],(by injection this with this),(let ⟨z0,q⟩:=st.en;zA),(by obtain⟨_,_,_,_,_,_,s',_⟩:=h),seqIndex_neg AAN z0,Nat.mul_le_mul z0 (BJ zA zB),((GF z (AFM z))),List.append_assoc (la.take z0),es.toList.Perm (xs.map z0),Str.ext' (Array.toList_inj.mp z0),z0 (prices.map prO),(A9J).size,(B35).join,es.toList=xs.map z0,z0=Str.ofString "0",U5 (P6.same z0) zA,(failedOf z0).isNone,min k xs.length+1,z0 X A76 (B1 i),AI (CVS z0 objs.size),CQ scope.names.lookup dF z0,Obj.mapSeq λxs=>z0,AG a5 e,AY (b7L c z0),AY (BWE plain),(by exact wpAny_bind (m:=BLK) z0),(Heap.get?_none_of_le (by rw[AZ z0 Nat.le_succ _])),~~~c2H Z,ES dd.mapOf BYD,BH _ _,BH p1 S,~~~b3L h1 z0,~~~b3J hn z0,~~~b3w hul z0,CY c tc,CY f tx,EL LLI Str,EL Int Int,EL A0M A0M,VP Nat Nat,VP qB (V×qI),.str x _,inV x xs,l.from_ x J,WdM x m,CK (AUU sep ys),AJQ (yR z0 b) e,z0 (env:=X.env) zA,JN H2 s2,z0 X.prog X.w a zA,(by rw[DI env z0 zA List.mem_filterMap.mp zB]),(by refine wpAny_holding (wpAny_bind z0)),(by refine wpS_bind (wpS_reverse z0)),D++[t],B++[rA],ds++[cu1],RelV i iv,St i s,c3z r hJ,(by .exact Nat.mod_eq_of_lt (by assumption)),(by .exact z0 (A1O intBits_le_64)),DR c tc,DR f tx,N3 b j,z0 b (AE ex l),FE (BXK (FW (B36 z0) t)),KN w.params.followText "set-order",KN tooLong (((l.map (·.1)).toArray.foldl (·+·.length+a.length) 0)),(s1.trans s2).upd,EO c7P c,GF j (0<j),(by rw[CG z0 List.append_assoc (AI1 zA)]),s.TypeIs v T,BD (BT9 z0 e.trans),BD (λe:g=f=>z0),GY (iS AJI),ID BT7 (kH (CU).map kV),.int k s.toks,xs.set k z,a0F k e,lexLt k j,DZ (QH v BUK),UnR X (unaryOp z0) zA,Over rss z0 BTA,I.hok.fresh (Nat.le_succ _),(by rw[BM (List.mem_append.mp l)]),s.heap.IsTuple t items,R1 s w,Obj.putSet j H,rss.getD j [],d.getD j Str.empty,L.set j x,DC (XN (DZ z0)),λx=>AM8 .int D8K,(T7 z0 j).getD i 0,getElem?_pos qQ _ z0,pP a6D z0 lB,.set S n,a1y I.hok n,a2C z n,z0 (λl=>h (_::l)) n,OH (qB×AN),(by rw[PY wpAny_newTuple];have z0:zA=s.heap.objs.size:=by rw[zB]),F1 (z0 8 CM),(by .exact BP3 z0 (tV I.base.keep B l)),EI x' c' z0,IY x AXZ,λv _=>D91,IZ ns n,VW List.getElem_mem z0 hi,YK BXR q,GR v DA8,D8H E0 ta z0,(#[y]:AS).z0,b p List.mem_cons_self,TW (i+n),RB h s H _ I hw,pR lexLt z0 [],Nat.le_trans (a4I xs lo hi) e,a0F l e,c7u ok e,AU0 PySem.W.takerIn C z0,a6b fp h,st0 mask h,xs.countP λz=>BRY,z0 λz=>I.ok.exfs zA z a,tIf tA ta tb,CY (.BoolOp z0 lJ pos) tb,bG z x,(by rw[F2 List.getD_eq_getElem?_getD z0 List.getElem_mem zA]),(by rw[F2 z0 List.length_take c7E zA]),argBest B j,L.val j q z0,(by rw[FY Ans List.all_eq_true]),∃rest,z0=A4Z j,List.all_eq_true.mp z0 x t,z0 X.nox st t,RO s₁.heap.get? B4I,xC (AF7 BPC),xC (D4Y qP),[(f,v)],g-BG G.length<0,GU DK List.length_map z0,FP ys D9X,u=Value.type n,QC u D,QC W m,getElem?_pos z0 i hi,OK D3D (DAP z0) zA,min 0 1,ipI λi j=>i+j,bL RD (2*RD+1),E e s',.Expr e pos,RelV o ov,EH wds l<=z0,AH3 n sum=0,bR hs₈.extBut z0 hs₇.extBut zA zB,AF6 (xU).A,fK t zs,fK c xs,YW CWH XM,UH a0I h,UH (A6 z0) A2,Off z0 H1 H2,tC (.str x),SA p9 D30,frs (AUO d.heap.objs.size::outer),IY o (DAN z0 (RT zA)),dictSetDefault d CM z0,upd H2 p B0K,WP f m,(by .rw[xO];rw[A6Z (a0Q T F z0 CWF zA)]),(by .rw[xO];rw[A0H (AJ q (A6Y z0 j e) l)]),bW (AL3 CY0),pF MethOk base C z0 zA ps sp,a9Q s₁.heap H,c7R A7 A7,A57 ptW L,a4l (NE h v a),(a.extract i n).z0,(Nat.toDigits 10 n).z0,bX a.length b.length,bX (strKind a) (strKind b),AUI ovI o,a5c ρ r,Wi cs xs,rF BsP z0 (n,t),AUJ (.seq its'.toArray a),r x xs H Q,BIZ IspZip g,(by .rw[ZE];rw[AQ D4A rfl]),IsTup s.heap t z0,((A++AZ1)),[AI g,BPW],[AI ra,gK],(by rw[WX e List.mem_range'_1]),HE _ GH h0,b.getD 0 WM,SetTable.insertAt xs z0 j,(h.update a BM6).z0,(a4p a j).z0,gB R k,gB qQ (base+i),ZJ c1C r0,JZ z0 _ (A4U D2R zA M),.cons rfl .nil,.List es pos,Came rows z0 f,z0 (kf x) (kf y),kf (z0 i WM),RelV HS CS,compEnvC scope z0 zA X.env,V->V->Bool,A5V p AKP,(by have z0:zA<=zB:=by rw[B7,show EH Str.ofString zC=zD from rfl];rw[DG zE zF]),AJ q (D6I z0) A2,yF .BoolOp z0 A1E zA,lU (bL (MX+1) 0),CQT (z0:BT).length,(by rw[ZW z0 zA List.any_eq_true zB];constructor),.int (g i),s1.trans (s2.upd (o:=z0) zA),L.trans (s5.upd (o:=z0) zA),lZ (hY b3V),lZ (bV b3H d),sF #[.int z z0,x],A66 z0 s.heap.objs.size 0,λDe σ H=>tx De z0 σ H,ZZ z0 (b1L BWN A7),(by .intro h;rw[AU z0 h rfl]),sJ semi z0 vt,(by rw[sM z0 (sI wpAny_newObj_type zA)];exact q),mI (bV b3A l),r x H Q,a2q lo MX a,dpO lo SF a,sO z G,AVR "range" LF,BJR (A5Y DkAt ns),(by rw[List.take_add_one,d];simp),a.foldl R1 s,F0 d U.mono IV,F1 (z0 AZU name zA),GI (F6 q a z0) q,WG ["name","self"],A6O (a4b p q),Rs3 ns.length rss,nB C D08,A70 D02 AFL,(J8 ns a).z0,nE HS W,∀o,uW->A5K h'.get?,I.kept (t':=s.toks) z0,pG σ1 H' (AHO z0),(by have z0:its.toArray.size=zA:=by rw[AB List.size_toArray zB]),(by rw[AWB Str.length z]),AWE a2b T.b_str z0,tR (∃o,z0/\CZL o.data),AWF m.toNat 60,BK8 B.mono UC,tU r.mono (YI z0),(by rw[AHA PySem.W.kitx_list (MW h1)]),KY*(2*u+1),tX a0E T3,z.sameBut hs (cne y c e),SysAt.put L D,gI g d,Prs H' z0 (bump ys) zA,z0 BX rfl A9Q,(by rw[nS Heap.lt_size z0 nR]),h1 x c q,A01 (A0Z x 0),A08 "sign" (b5G (jv 0)),A09 CMul (i*j),(by rw[List.getElem?_map,z0,List.getD_eq_getElem?_getD,zA];rfl),j∈AFQ StP u,z0 S len λa=>b a f,h qK _ σ z0,c2K o i j,AIA (b && EG (L=[])),NG t xs (ZR/\∀p,AUY->z0),uU "zip" "zip",BKE swapsWith e none,AIN "told" b2F,AIN "paper" a8J,AIN "ended" a8M,AIN "whole" spWh,BLF s.heap .none,A16 hk (ES d q),(B0A)[AM]?,(by have f:=tc_notTuple;unfold excMatches),bubble z0 src D4I,AIU qI qI,AIV ys.map V.str z0,A8S (WF z0 c AYY),(by .exact ES z0 (a3Z (by rw[BYJ]))),A8W (bH sep ys),bI H (xs.set j v),BLT src j,UJ*3+l,cI ["one"] "one" z0,cI ["word"] "word" z0,CSF w cs,BME (AY (c8w x y)/\z0),(by rw[List.length_append,List.length_append,z0,zA]),∃v∈L,D65,(by rw[GA,BD (λz=>BUG)]),(by rw[BD (λq=>rL z0 q Bool.false_ne_true)]at hR),(by unfold a0n;have e:D5X z0 zA=ys.length-1:=zB),k H1 s1,backToKw pos CQN,A9W tQ ha,~~~a6v a q,CK (i.length+j.length),AK2 C (jaC z0 (eQ 9)),AK2 B BN0,AYT z0 scope.names A96,AAH a9K T.b_len,(by rw[FT x b z0];exact X0 zA),AAM h2 CB,XD _ _ 0,XD _ e e,XD _ h yY,AAW CM "dict",BN8 KF _,AWV QG "__setattr__" CUN,BNF AYZ DC6,BNI e CXF,AX4 zs ⟨zS z0,zS zA,zB⟩,(by rw[AAZ];generalize KY=b),AB1 g z,AZF (B4H m),AKX (neg z0 i h1 h2 zA),λi ys H' hi h=>z0,Cov l H' h0 z0 B,IspPot K vs H Q E,BNT (ZJ c1h hs),λx:DA2=>cD,ALE*n<=BG sizeLine,(by rw[PU (by rw[bA (decide_eq_false p)])]),∀u∈z0,FP zA (bG u v),⟨c,h1,h2⟩,(by rw[List.all_cons,Bool.and_eq_true]at f),AZO c1B z0 q,ALB BUC BUD,BNV lo YX,z0 (s2.heap.objs.size,AZH) (fM zA),decide_eq_true (fR z0 c zA),y=kV k,y=.str j,AZS psW xs,AZS xs.zip ys,JO X lo tl,JO X hi th,ALF b h,~~~c1J c g,~~~c1v c p,ALM pv ys.reverse,MV LM z0 (λo s₁=>zA),h z0 a st' b,ALY/\m<=40,EU (A7J n hi),upd H1 p1 CWW,ALU vt xs,W1 (AI D2U) CWD,(by rw[e]at h;rw[NH z (AM2 h)]),ALX p2 BU8,ALZ wr CZ8,d.map λx=>V.ref OQ,YP "size" 1 "one" spSize,A66 h' it AM,AMC s.heap.objs.size (BUP z0),rE (N4 (z0 K b) f g zA) c.h d,zN now b xs,∀i v,NB->P i v->z0,z0 (NE h v g),BMH n w a,BMI f y fs,B1A (A1F) (AZR),kindOf st'=kindOf st,pendingOf st'=pendingOf st,failedOf st'=failedOf st,BOT out ib,AZI AFJ p F.slot_enumerate_next,AZI AFJ C F.slot_zip_next,c7t td ty tv,x5 (AEY "setdefault" qN) A0Y qM,BOW (YY ta (z0 K R)),BOW (YY tl (z0 K R)),fnOf x x AX9 A5T,CTX z0 a3g a3g,(by rw[B20 List.map_cons];refine .cons ?_ z0),B21 List.length_map GW z0,D4N++z0 ++ vt CS,RdS ws os,(l.map λc=>V.bl (p c)).all,(D84 CX0).nox,BPP A86 is,PSs X body tb,MtR X id r,xs.any λy=>BW2,B28 sY Y,∀s',AA5->A6K z0 s',z0++[(CZ,CS)],(c4 r B).2,(by rw[JY B (TV pushCells_keeps z0)]),YH LF=BOB AXY,(by rw[CUE List.sum_cons a]),BQW z0 args kw,(by .rw[BR0];rw[KC (HU a0p z0 zA)];rw[A0H (HE zB h1 h2)]),HT.sIx 5 z0 (some 1),B3X k D7B,(by rw[B3Z y];rw[A9R IK]),V.int (dot row v),(by rw[EQ z0 j a];rw[BI q j BX]),CUZ (D4T BOG),z0 (t':=zA) λb zB q=>rG,CV2 its.toArray p,B4R (tCB r t),a4h mask i pt k (sL c7F),B51 A7L B3E,CVK "minus" (a-b),CVN (CC ((A9J)) e) e.2,Dr->EL z0 Dr,(A.under D9B).z0=zA+1,(by obtain⟨o',e1⟩:=cE I.base.there a),(by obtain⟨P,lo⟩:=c),(by unfold z0;rw[A5L zA];rw[A5L r];rcases r with _|zB),k∈AHB qL.map,U8 g B,bump ys j',s'.heap.FunFrames B X.stack,d1 AH AH z0,(z0 s2).snoc (zA s2),A0->A0->A0,(List.mem_append.mp a).elim,JX X body tx,Obj.isFreed_of_fields (Obj.data_mapFields z0 _),∀h',CYA->Q none UE,AIZ AWQ CU z0 e,Q (YO BQP s.toks) gW,FU LM z0 (collect x) l zA s,(z0 R).same S,z0 b o' BVS e1,(hB y G).2,(x,a)::cs,(x,y)::ps,GF D ⟨D.lt,D.lt⟩,GO H' qP ys,BTJ Nat.lt_of_lt_of_le z0 B4X zA,MV M t b,knd.is s.heap k a,BTL (CQ scope.names.lookup ET OQ),PrI K H vs rows,(by rw[FK ?_ BVC (UH e f)]),BTT "sorted" US,(by rw[fF this r.inj f]),bM b z0 c st,BU6 h2 (ZD h),(by .rw[AZ D2W wpS_pure (BPF (.inl b))]),kU MS (o++(z0 zA).take k) zB zC,CXP "is_written" spIsW,CXP "is_name" spNm,a2q lo MX nrem,AFW (isTrue e X.env z0) TP,BUQ i D,yB .FloorDiv (A09 z0 (i / j)),(by have b:=z0;rw[DBX];rw[BI a k f]),λm d=>keep _ (D4L z0) zA,λm d=>absurd d AZQ,((∃xs,z0 K H1 a xs)),A64 .FloorDiv (A09 z0 (i / j)),A67 A6J none z0 #[],dE L9 b h1,zI C (CU2 qn hd),a0e (o:=OO) z0 D,NG ta x (VB tb y (r x y H2 z0)),LS (none,z0,zA,zB,0,AIX),LS (none,z0,zA,zB,AIY,0),BVE BWP D75,BVF AAY AAP z0,(by rw[A0O (AKQ c.fpOk (YM c.hok.fresh))]),(by rw[A0O (AKQ a.fpOk CX7)]),CYE o' o',CYE sl {o with slots:=sl},UR _ 0 z0 rfl rfl zA zB rfl ?_,BVZ f (IS f),n (f x y) H1,(by rw[BW7 bump];rw[BM (List.mem_or_eq_of_mem_set a)]),BWA AKE [],A9F _ (z0 (UA zA WD QD h)),(by change x.length=0 at this;omega),s.heap.DictOfH knd d xs,yA Perm (arrOf st),(fss.take z0).any λf=>BRZ,x++s++bH s kT,x++KW++bH KW kT,BS9 s.heap.IsKeyIter it i,(by intro hv;rw[mQ (CYS v CWP)]),(by have e:i=n:= ZJ a6u hi),(by rw[KC (HU a0p z0 zA)];have g:=g.trans zB),BX7 l r,(by rw[GJ a h.perm z0 a];rw[KG ?_]),BXJ (z0 (ts:=AFD)),lU (none,z0,zA,zB,0,AIX),lU (none,z0,zA,zB,AIY,0),AVN (z0 a b out ia ib),AVN (z0 a b out na nb),CZO 1 (lG ns ms),BXT (gO a1B L6) z0,CZR y.length y.length,CZR y.size y.size,(by rw[BY4];rw[bC z d K9 hx]),BY5 [([AB3],z0),([uY],zA)],D09 AXU [BLJ tg],∀{b:qE}{o:HO},IC t->(∀xs,o≠B2E)->z0,D0R BPA CZP,D0R BPB CZT,(λb u e z=>by rw[GM (A7X z0 z)]),BYO z0 (zA it a i),(by .rw[IJ j g e z0 j (~~~a6q g) e]),(by rw[D17 ((glued a ((z::z2::l).map (·.1)))) b]),BZ1 n (AIV z0 n (zA n)),D1V x x,D1V m qn,(by rw[BZ5 I.list z0 pl.isList]),(by rw[z0,zA,zB,zC,List.map_append,List.map_append];rfl),D20 hj c,D21 t3 p1.map,⟨z0,a,b,c⟩,⟨AH,AH,AH⟩,(by obtain⟨od,J,z0⟩:=I.look),⟨nD z0 zA,iI (AJW zB zC)⟩,EG uQ || D2T,∀{xs ys:qI},z0,g x' B,b5D uH (AXO (BP 2000) a),call_meets z0 iP zA (BZ zB),a0n z0 (AO zA) none,.ok (rwT L),CRE xs.zipIdx z0 (tmP (pre++zA)),hS4.tk (Tk.same G),lp (lp t),(BXE ys.length BOM).filter,(z0).map some=zA (es[·]?),qB->qB->BQM,atKey xs k=some p,G8 (c0t j) z0,inV (.str y) z0,D2A (~~~a3W hm0),upd X n B0L,CQ B57 (BM0 z0) _,CQ fs.lookup f v,J.go i H/\AG7 ys.length/\z0,(by have:=z0;rw[<-zA,List.pairwise_append]at this;exact BT0),z0 ok (.inl e),~~~b3S l z,Sgs H ss L,pG BXW H s',∃j,j<i/\x=rows j,b4c Z (JP U.mono) rfl z0,JU a3O BSZ BTC,LQ (AO qR != AO "object.__new__"),(lo,n,0),upd H9 p9 CXY,GS I.ok.glob I.mod.glob.keeps I.bk,(show lo+(YX)-1-(lo+z0)=lo+zA by omega),z0 (λz=>CWT) λz=>CWT,fC XF MB (z0->B32->zA),R x y H2,I.kIn a o c,JZ (AZA (B0G z0) c1L zA) _ (ED zB),bU Wi cs u,(by obtain rfl:m=b:=AD),⟨_,rfl,"set_iterator",_,z0,slot_seti_next.lookup,zA⟩,Classical.choose_spec (f i) hi,s.heap.IsTupleIter it t i,∃k,z0/\g=most-W.length,NM ys ⟨z0,D83⟩,y4 .Dict [] [] z0,∃t,v=D6D t,VD z0 hl S e,yF .Dict [] [] z0,(by .rw[AU none e (λx z=>x6)]),dH h.mem x (A7B j AD),(λx a=>h.d x (by rw[h.eq];simp[a])),AE (Int.fdiv_eq_ediv_of_nonneg i (zP a3X)) q,mV z0 zA (N:=[zB,zC]) (src:=[none,none]) (AGE zD),(by rw[AHA PySem.W.kitx_dict (BQK h2.1)]),DAS z0 (λc q=>zA) λc xs q=>zB,xs[B1A UJ 1]?,1+BTW UJ l,A1H (DS x::bE (DS y)) n,(by .rw[BW _ e AD (by unfold topN;rw[DG z0 zA])]),A9M a (t.length=n/\z0),D59 [] .none,(AMV).any (λu=>Bel u r),(z0 λq=>AUR zA)=AU3 zB V.str,A4X a0 st runs (r++rest),⟨_,rfl,z0,_,rfl,zA,rfl,zB,?_⟩,AB0 Builtin.«tuple.__mul__» (MZ [IX,YO z0 u]) (AMN/\zA),B4W (z0 i=zA j) i j,fI M n x,(atKey xs k).isSome,JN (gU s.heap.objs.size z0) (JV h2),1+CV4*ALL u,kU MH (x::o) na nb,ZQ off (F6 z0 d (e _)) zA,D6H "name" LT,BVL d r C,⟨z0,zA,?_,?_,?_,?_,?_⟩,∀r,r∈srt↔A0W,(by obtain⟨f,fd,z0,h1,h2,zA⟩:=O.ex),D6N s.heap a,c4f c ns zs fs g,D71 Builtin.«tuple.__lt__» GV,D73 wpAny_pure CWS,z0 z H' _ D3F s zA,λσ H qP Q=>kK te v z0,λi v S e1 e2=>z0,GC O4 0 (AKT (yM O4 a3l)),∀x:Str,AAU->z0 x=bootBuiltins x,kY a2K NJ QS ib,kY a0R OR na KU,(by rw[XH v z z0 v (z.keeps λb o q=>zA)]),D7X ["names","words",z0,zA,zB,zC] zD,(let ⟨o,h1,h2,_⟩:=z0;(BQK zA)),D97 "__getitem__" id,z0 a b na nb out mg zA bc,(by rw[yX zs];have e:A1P (min D4G BV1)=AZ8:=z0),D9E wpAny_setState_of BV6,(by exact h.at_ i w o hw a),D9U (z0 q b XP zA),∃f fd,D5K/\B3N/\v1/\z0,(by have:=B1M z0 X.A p1.isList p2.isList BO5 B0V B1K),DAQ (tx σ H2 λz H3=>z0),DAR a (DF r a nM) z0,(by refine b8r z0 (by rw[zA]) λx d=>?_;rw[u8 (List.mem_cons.mp d)]),FU M A (KB excMatches e z0) Q E BXF,∀v h' tk,AMK z0->BS2->Q v bY,AFZ MakeOk X.base x C k ps sp,DBE nY (BOZ AFU) z0,(by rw[DBI (p.trans q.symm)]),DC3 B2Z (MW c),DC7 z0 zA zB zC (FU RE X.A.in1 (D3A zD) zE zF s),DCJ p D41,beq_eq_false_iff_ne.mpr (Ne.symm (Nat.ne_of_lt a)),z0 (UA [] I .nil h),λq:xI Str=>EG y3,λ(A7B u b)=>A7B u z0,L.map λt:LLI=>D4O,EU BTV-BQ9,BG items.size*x,(z0 (c+j)).drop c++zA,(by first|rw[A9U FV]|rw[A18 FV]),(by rw[ALA G7 e]),(by rw[B3O List.length_map List.length_cons]),(by rw[A8E];show BU4;exact a6w z0),(by rw[BX4 z0 List.length_cons a6w]),(by rw[List.pairwise_append];rw[FK ?_ z0 (D8B d)]),33<=c/\c<127,∀e s,¬X.xe e s,(by rcases B2G with y|y),(by refine B3I;rw[B5A sV]),∃a,CQ env.cells.lookup ET a,(by unfold a0E;rw[D6Z List.length_map]),(by obtain⟨o,_,_,_,e,_⟩:=x),(by rcases I.ok.stk with e|⟨e,z0⟩),~~~c1X r0 a z0,(by cases y<;>exact A9S (CQL hs) Bool.false_ne_true),(by rename_i hb;rw[EQ z0 j a];rw[FO j BX]),(by simp only[bne_self_eq_false,Bool.false_eq_true,if_false]),(by rw[hs]at z0⊢;refine Calls.callWith_builtin zA (Calls.evalArgs_plain ?_);exact thn zB λus s2 (aA vs zC zD zE)=>zF),(by wp_walk using z0,zA,wpAny_forIn_list _ (D0J zB) _),(show z0≠Value.notImplemented/\zA from⟨(λx=>nomatch x),h⟩),if neg then ! CYI else CYI,(by rw[List.replicate_succ,List.foldl_cons,z0,zA,zB,zC,List.append_assoc]),(by rw[Nat.add_sub_cancel]at e1 e2 z0⊢),(by change kW (! t.plain) (EG (es.size > 1)) at z0),(by rintro⟨u,hu,hb⟩),h.elim CT2 id,a.extract ia a.size,b.extract ib b.size,O.klt (eW IG n) BVQ,M3 h₀ h',Wi cs u,Ofl D42 D49,b5i z0 es ep,z0 tK BQ6 most,(((D60/\o=.na)∨z0)),liftM (rule "list.sort.descending-run"),kS z0 (T7 cs.length),w=E9 n,AN->AN->AN,AS->AS->BJJ Array Keyed,elem' (arrOf s) z0,(X.wish E).Ok,(List.eraseIdx_sublist ..).mem,key _ AH CV,AY (z0 (.inl i) AH6),AY (z0 (.inr x) B3Q),wpAny_dictEntries e1 a (z0 zA),(backToKw pos (keywordEach kws env)).z0,(xs.extract 0 z0).push,Nat.ne_of_lt (Nat.lt_of_lt_of_le this z0),spliced (backTo pos z0),I.tuple (SqT.of (K:=X.K) z0),A.under (.builtin "type.__call__" z0),a6l (b4A hp z0),vts (a4Z z0 qO),Q (.yield D3P) st',(z0 zA u eq).there,EM (z0 H (Same.refl H)),q a H qU z0,PV d.sides.map++[DO z0],ds.map V.ref++[V.ref z0],0<=G8 s ρ,putSet_of j H rfl,(by rw[AQ (AE (z0 hi) this) this]),(tk,tv)::trs,t'.plain=z0/\TabOk t' zA/\(zB).toList.Perm es.toList,FU A8O X.A CT6 z0 E s,GO H10 p10 zs',A3 (G5 K DY (jv z0)),.While c z0 [] pos,A8 (o:=OO) A2 a,(by have:=Nat.min_le_left rows.length sides.length),subscriptTail_builtinR (x:=w) z0 zA,wpAny_setField_rec (s:=z0) zA AF,z0 X (.Break pos) b8G,(by rw[DB];have:x≠y:=λq=>ne (by rw[q])),HOk X.prog X.w H z0,a9d r _ _ z0 e,(by rw[FK z0 (λx=>⟨LR b,LR (A7B j a)⟩) zA]),upd a0 b9 CWV,upd HB C B0J,c2L l _ DK,λb q z0 z=>AIZ zA b zB z,λv Z=>nE C Z,GR z0 (D8D (AXN a b')),GS UU c0H I,PZ (D2M::vs) CXJ,(λr z0=>match r with|ForInStep.done c'=>zA|ForInStep.yield c'=>zB),b4X sp z0 E t,KQ G4 mask c,(z0 i zA).eraseIdxIfInBounds AM,(show semi.length=2 by decide),Joins M A E ps,x∈CS3 z0 xs j,(by rw[FY z0 (zA λw hw=>h w (IS hw))];split),typeIs_str s z t,z0 i es.size ep t,IsPair z0 TO x b,D44 x ws os,RW AJ7 (z0->A0T->RP->MB->zA),(by rw[LU];refine wpAny_Call_method_late z0 zA zB rfl (cZ zC zD)),pk b l z k,QF a c z0 OP,(by rw[GL (a6F z0 U3 (zA zB))];refine IE lN),(by exact DJ (B1Y Builtin.Tuple.tupleCompareSizes hR)),Prs z0 ps f a,JT X (DB3 z0) (tB (zA ty td)),(by .rw[AZ (JP Nat.mod_eq_sub_mod) Nat.mod_eq_of_lt AD]),putSet_of d l hd,(by show((AHR z0 D).1++[(AHR zA D).2])=_),Heap.ExtBut b h h',NG ty y (td σ H1 (z0 Q y)),List.length_map (f:=ent),(by refine JQ List.ext_getElem z0 i zA zB;have:=zC i zD),fI yE k i,RwO n m rss z0,R9 (rss.drop i) rs,kW (bX k 7) (bX k1 7),(t++BM9).foldl,M0 f D3N (.k z0::st) rs,WW z0 (q _ o zA e),xX k H z0 zA V.str,(by rw[SN vs z0 zA zB zC];refine kws_cons (fA zD kws_nil)),z0 l its.toArray n _,lE z0 BX2 kV=zA V.int,D7F->f=v,FnScope N ps scope,VD z0 t g F,(by rw[lP z0];rw[List.mem_filter,zA,zB,decide_eq_true_eq]at h),lU (none,z0,zA,zB,mg,k,k1),(by refine R6 x y ?_ ?_),ys.map λy => -y,λm q=>A9T (fR a9n g) z0,Inv z0 zA σ' H' s',l=X++z0/\X.length=zA,ZZ z0 (F0 l B.mono (DV 1 (tI E4 (pX zA zB (BN zC))))),(by .show QT ((glued a ((z::z2::l).map (·.1))))<=_;rw[CG glued_eq_join b z0]),sJ wplus wds l,λx a=>nD DK a,z0 b o e q r t,(by rw[mQ (CYS x List.mem_cons_self)]),(by rw[mQ (D03 y List.mem_cons_self)]),(by rw[iF];rw[AU c k l]),R0 ps (rss.take i),a4Z t (qO.take i),GC O4 3 (AKT (GC O4 4 a3l)),(C9 f z0 fs).lookup,dL (AXN ET OQ),sZ (compareOp z0 u CM),A8 (o:=z0) A2 g,mV z0 sc_law.nd (N:=[zA]) (src:=[none]) zB,AVZ "raised" "j" b0z,AVZ "often" "rest" spOften,GI (a c _ q) q,A6P m z0 ps sp,A6P "say" 12 D3G z0,dO (AWK id (v::us)),mY v.mono (AAG CZ5 BT5),AGY a0I h Int.mul_comm,nA f z0 D1O ((D1O).binds e),(by first|exact Or.inl rfl|exact Or.inr (Or.inl rfl)|exact Or.inr (Or.inr rfl)),a1W z0 m (zA i (ZJ b3C m)).2 zB,.AugAssign (CTE tpos) z0 e pos,sIx n d (some z0),C3 (K3 uH B4),k b u (g b n) q,AWI (FE (AWI z0 t)) f,BKE swapsWithSole AXU e,nP D80 I p,(show _<=28 by exact c2o hn7 z0 tl zA),D32>>=D2 (z0>>=λy=>Y9 false y a zA zB zC>>=zD),n+nb+c0<=_,show(z0:qC).heap.objs.size=zA from BU7,h h1 _ os c,AX8 z0 cs xs all,BL4 "within" "caps" b0y,uX items.size (AXN D2H AJ1),AX4 ys ⟨zS z0,zS zA,zB⟩,AIO (q H2 s2),Builtin.Slice.sliceAdjust lo hi 1 EV,AIR D Ends (AL->QC t D->fJ (kE z0 st) D93),List.append_assoc (P++LA),∀(its:AN),PZ vs its->z0,z0<=xs.size/\D7Z zA/\y8 zB ALI D50,u.heap S _ E Y,qT z0 .Assign AXU e (b6r te g),AY3 "above_any" "some" b0G,AY3 "cost" "prices" a0f,AY3 "laid" "told" spLaid,AY3 "show_times" "many" spTms,Un AK5 [] H H' h0 z0,BC a7Y h₀ s.heap s s z0 zA,BMH q r t,(by rw[A9I i (I.lstM g)];obtain⟨z0,a,zA,zB,zC,e2⟩:=zD),(by unfold a0n;rw[HT.sIx_none,HT.sIx_nat,List.length_map,z0,zA,zB]),(by unfold a0n;rw[HT.sIx_none,HT.sIx_nat,z0,zA,zB,zC,List.map_take]),AJ F.extBut z0 (bR D.extBut zA C.extBut zB zC),AJ hs₅.extBut z0 (bR zA zB hs₃.extBut zC (CZK zD zE zF)),if_neg (c:=CQF) AH,∀h',h'.DictOfH knd d z0->Heap.SameBut d s.heap h'->zA,((r=.non∨D5P)),YP "sided_caps" 2 "width" a4z,YP "show_vectors" 2 "some" spSVs,z0 P w ys H Q,(by obtain⟨i,j,rfl,rfl,z0,q⟩:=h),A1S k (BXD st.at it),(by show Q (A01 A8X) _;rw[AB z0 D3V]),(by refine UR z0 _ 0 zA rfl rfl zB rfl ?_;rw[CF zC]),(by have l:Good st st:=D7V;split),(by have D:=(z0 f).symm.trans z;cases D),(by have:=h.v x a;rw[gN topN];omega),s b _ q m,(by have e1:AA9=2*KY:=by rw[KO Nat.pow_succ]),LL "steps" 4 BV8 b5b,LL "take_number" 4 BXN spTN,LL "next_place" 4 BXB spNxp,BC I.write x a e z0 zA zB,(by rw[e];exact GZ fX H (I.kept (a3k n)) q),b4w j a c z0 List.length_replicate,(by rw[OX b a];rw[SK hs h]),rK "take" 8 mB spTk,rK "take_names" 2 mB spTNm,rK "take_sum" 7 mB spTS,Inv z0 [] BKD H s1,BOK z0 na KU OR,BOK z0 B5O gT ib,(by rw[sQ F.slot_list_append z0 F.entry_list_append F.args_list_append_2 zA (HJ zB)]),(by rw[sQ F.slot_tuple_mul z0 F.entry_tuple_mul F.args_tuple_mul_2 zA (HJ zB)]),h2 u W v t,mV 3 z0 (N:=["j",zA,"one"]) (src:=[none,xV,AWS]) zB,AHQ "_law_pot" 1 BPH c7r,AHQ "parted" 1 ["words"] spPrt,AHQ "show_numbers" 1 B58 spShN,AX8 f xs rss take,(by .obtain⟨its,r,p,z⟩:=z0;rw[BW its r zA z]),qT z0 .Assign [CXF] e (BXQ te),BOV "read_term" 4 spRT,BOV "read_terms" 5 spRTs,BOV "read_sum" 6 spRS,z0 K x lo hi H Q,z0 K P w ys H Q,z0 K neg x y H Q,∃qL,D6J/\k=! qL.isEmpty,(by rw[AMZ (BWD QS) z0 (AVQ NJ QS ib) zA]),z::z2::l,e1::e2::es,CUS::(us++ds),w.length<=60/\D4F,BPN true (! lG now z0) (lG now zA),BJK XL s2 H2 fp,B22 (UJ<0) (BWG DictEntry) es[(UJ).toNat]?,L8 ns x=A77,(by rw[AX (wpAny_setField f1 z0 AF ?_)]),b9x b c hd a,qL++[(k,v)],findIn K QG m=some BL1,(by rw[EQ (WS e ex.1) a e2];cases e2;rw[AU o e ex.2.1]),(by rw[FZ c (AHN≠s.heap.objs.size) z0 D4C]),(by have:its=b:=BQ (WQ Array.toList d1)),⟨_,rfl,z0,rfl,AD,AD,?_⟩,sdS (rss.take i) (ss.take i),Ofl (r.take i) (rest.take i),(by rw[e]at q;rw[EF (.str cS) H I QD q]),∀i ys H,AWW->A94->z0/\ys.length<=i,backToKw pos (keywordEach kws env),CVA (g=f) (fP g v) g,B4Z ⟨BV,rV (z0 zA ys H p) f,B1I⟩,CVD (DAD rss.getD rss.getD),BSE j f l,BSE E t K,⟨p,ys,x,y⟩,(by obtain⟨v,o,z0,hd⟩:=BUV),none∈os∨∃zs,D92/\z0,(by rw[List.take_add_one,z0,List.any_append,hB];simp),⟨y,tk,e,b,z0⟩,(by rename_i e';rw[SH e' z0 (BMY e')];rw[uT];rw[KC (AKZ zA (HE l zB zC))]),(by rw[<-a6Q,<-Array.toList_append]at hbk;split),W AM m' z0 H',CWB (XC h x List.mem_cons_self),CWB (dH h y List.mem_cons_self),(by have p:rest=[]:=WB List.eq_nil_of_length_eq_zero (lq z0 h2 zA zB)),TM H1 a .dK BQJ,∀a s,Q a s->b a s,LL "pull_of" 1 B52 b0A,LL "is_line" 1 B59 spIsL,LL "is_barred" 2 BXZ b0F,LL "together" 2 BXY c7q,(by have:x≠n:=by rw[ZE];exact h v List.mem_cons_self),EB (z0 k zA zB).keeps c ys zC,z0 D8V a b hd r,YP "_law_names" 3 "_law_pot_here" spNms,YP "least_of" 3 "some" a7N,YP "show_system" 4 "system" spShS,YP "_law_small" 4 "_law_pot_here" spSml,LY (TQ z0 l PC t zA),g x r H' _,(by have a:=r.length;exact z0 zA (by rw[CW4];omega) (D5Y a6J)),(by rw[gF z0 (JQ C7 zA x' zB c)];rw[AW f2 c c]),AGL "beyond" 8 BYS b0E z0,AGL "narrowed" 8 BXX b0B z0,nA _ (fY q z0) zA ⟨AXM,WW D.to YZ⟩,YL (AZT<=ia+(ib+1)) c0z d,YL (AZT<=QS+ib) c1F d,(by obtain⟨z0,zA,a1,rfl,zB,zC,hw,q⟩:=h;rw[D98]),AAS AYM (AI np) a,UR _ rfl z0 _ rfl zA _ rfl ?_,(by rw[RK (mS (AHK Value.none) _)];rw[A90];rw[PY z0]),F0 z0 zA (YI (tI E4 (A8K A7 A7 A7 zB))),(by rw[BWQ List.perm_append_comm];rw[D24 List.append_assoc]),BWR (.builtin "set.update.loop" (MZ [AI S,BPS])),BWV (λS v=>S.At z0 v),(by rw[B5R z0 zA m p1];simp only at zB hd;subst zC hd),z0 _ h' s.toks zA ⟨zB,WW (iL).to zC⟩ (mP zD zE (λz=>B4B zF)),(by intro hv;rw[mQ (D03 v CWP)]),sp (D8M AZU) z0 (D7G (IR x H2)) E,AL1 (g z0 gL H) h zA zB j (a AM A92 j) zC,QF (n-(AM)) (WR b1v) a p',⟨K7 (z0 K f c) d.h e.h BJG⟩,⟨b9A (z0 K c) d.h e.h hs⟩,(by rw[OX a b];rw[SK rfl h];cases b;refine z0 (A4T ?_)),(by .rw[XH o' e1 (cE I.base.there l) o' (BP3 z0 e1)]),(by .rw[XH sl e1 (tV I.base.slot B l) sl (BP3 z0 e1)]),λx c0 x1 x2 a1 b2=>z0,CZS n ((m+1)) c2u,CZS CW m c2v,λ_ _ _ _ D q=>z0 D.typ q,(z0 a b out ia ib).toList=out.toList++zA++zB,(z0 a b out na nb).toList=zA++zB++out.toList.reverse,D09 LK (BLJ e::BRF assignEach es X.env),D0A X.length 0 c2E,D0A D28 1 c2I,D0C h2.extBut D.i2z D.i12.symm,BY8 zM zM CY8,∀(i:Nat) x,OE z0->D x,(by rcases Nat.lt_trichotomy AKG N with z|z|z),BYE (c∉z0) A7L h2.get?,(by .rw[IJ j a e (XC h.mem x z0) j (WR a6q) e]),(by rw[D17 (glued a []) D1H]),(by rw[D18];rw[A9P B d];rw[D1U]),∀j x y,BQX->IZ ys y->BWB (e j),(by rw[D1I I.list I.list];rw[D95]),R*B*BG v.length,λh r a=>z0 (h r a),λn _ b=>z0*b,(z0 uC).drop a++o,(let ⟨o,h1,h2⟩:=z0;WS (k o h1) h2),⟨es,ep,t,z0,q2⟩,⟨z0,λr U=>⟨yR zA U,zB r U⟩⟩,(match c with|none=>true|AO c=>z0),(((z0/\∀l,A84->D55 ys)∨(zA/\IR p H))),((BYQ u [u] z0 u)),(D7E h out).get?,NarC qO row most z0 zA,(by exact Heap.lt_size (show ZY _ from x)),z0 fd BPH (spLaw K),a r (List.mem_cons_self ..),a5u e z0 zA zB (~~~c2a v) f zC λy l k2=>zD,(by .exact h1 (List.mem_filterMap.mpr ⟨env,z0,zA⟩)),(by .exact a0U b o B54 YZ),(by have z0:zA % M=zB % M:=(Nat.mod_mul_left_mod zC 2 M).symm),atKey xs k=none,(LO l).any BUZ,BS u t v hv,PR (RH (AMO BU1 bm) D),z0 x u _ zA r5 (step x zB y5),Meth X.K C m f,A04 nK*gC+AZR*(A04 nK*lS),(by rw[S1 e1 e2 hi hi]),qT PG .Tuple es k z0,(show(LW+1)=BTR by push_cast;rfl),(by refine a5W z0 a (dP zA) (UP qU) (B5I zB) ?_ ?_),(by refine⟨?_,?_,D0X,D0X⟩),(by rw[lF z0 zA (zB*cs.length+cs.length) Nat.add_mul Nat.one_mul]),cN false z0 _ YQ zA ?_,(by have z0:B0G zA<=21:=by rw[F2 B7 A1R c1l zB]),sG F.slot_tuple_iterator_next z0 F.entry_tuple_iterator_next ?_ F.args_tuple_iterator_next_1,G7 z0 j=AL6 (j=k) y D7I,(by rw[mW];rw[QP p ys rfl z0 q];rw[BWS zA]),RwO ns.length m rss o,MV M (storeName X.env x u) Q,(by rw[List.replicate_succ,List.flatten_cons,a,List.replicate_succ];rfl),D4X PySem.F.slot_str_join PySem.F.type_str_join (z0 K f),a0d H (YW LG K) G z0 zA ?_,(G4 mask c).map (·.1),(by have e':b=a:=Q b (BSN q);subst e'),EE i x v e1 e2 z0,(by rw[OX z0 zA];obtain⟨a,xs,n,rfl,rfl,zB,zC,zD,zE,q⟩:=h),(by rw[AB4 z0 g (r2=g) r2.toNat]),(by rw[B0D (L (pos u))];rw[B0D DAI]),(by have e:qP.toArray++its.toArray=AJG qP its:=by simp),yQ (v<0) (yH v EV) D67,(by rw[QP a b rfl hP k];rw[LH hz]),λb u q n _=>AE z0 n,vs.length=rss.length/\dQ v V A88 z0,∃n,D7O/\AMA (YK e.1 m∈DCA),⟨DAE z0,AMR x (H'=H/\D78 zA),D8C zB⟩,(by rintro⟨c',h1,rfl⟩;rw[BM (List.mem_append.mp h1)]),(by .rintro b s' ⟨rfl,hb,_⟩;rw[u7 hb h]),BT3 base z0 C 1 zA (zB C),CQ BOP l (A67 A6J k D8N d),(by .exact b4I T g ⟨z0,h1,zA,C,zB⟩ (λx' ex'=>f x' ex' _ zC) zD),A58 P w (h.push AHX) h.objs.size z0,P0 H k2 z0 zA (AMU (mH zB).1 zC) (A1M m a hb) zD,(by rw[A7Q σ7 a y q];exact j c y),D99 (BN (F0 d hr.mono (jaC B4 z0))),(by rw[cB n rfl (∃n,na=CW) NI (zP c2j)]),(by refine⟨a,b,p3,_,rfl,P2.same s3,A2,E5 P2 z0,AKC 4,AKD 4,zA⟩),D9H X.env pM pM,DAL (xX k2 H' b ys.map V.int),(by rw[DAM ⟨xs.length,AF,GH,h0⟩];have q:=D8G f;rw[D7S]),DAV B0X s.heap.objs.size BS2,(by rw[DB7];rw[TU a1D];rw[DT (AE (show z0=_ from zA) BUE) zB]),DC4 "tuple" z0 zA a0h a3b,(by rw[DC9 L.length L z0 (a1P L GW)]),DCM t U.n1 AKB,c3M (~~~R5 hcl hj'),∀(ns:AA) (cs:AK),z0,⟨bP (CK 2),z0,.cons zA (.cons zB .nil),BN8 zC 0⟩,(by refine UA aD z0 B3D (HU (q _ ?_) a zA)),(by obtain⟨mi,z0,zA⟩:=two_at zB zC (decide (A0Z zD 0));rw[AHF zE]),(by unfold frs;rw[CG List.filterMap_cons d z0]),⟨od,es,ep,z0,c⟩,∀xs ys:qI,DCC,(by obtain⟨_,_,_,q⟩:=hs;rw[PF q]),(by rw[<-Array.forIn_toList];rw[DBW (D0J (s'=s/\MY LG/\FP rest (∃i t,v=AAO))) z0]),~~~c7H hbig S z0,~~~c7D c q m,(by obtain⟨mA,O,r,_,_,_⟩:=D3Z),(by simp only[List.length_nil,List.length_cons]at i;rw[z0];exact bS zA (B2K zB)),show WT=EU 1 from rfl,(by obtain⟨o,z0,zA,hd⟩:=zB;obtain⟨zC,zD,_,nl,hdl⟩:=zE;rw[A7C Builtin.SmallTypes.nextOf zF]),(by rcases hs with r|⟨f,_,_,e,_⟩),(by rw[<-Array.getElem?_toList,j,VW List.getElem?_append_right z0 a,zA];rfl),(by rcases c with⟨_|q,n,z⟩),Str.empty++E9 m.toNat++z0 ++ vt xs,Tdc tK BQ6 most z0,b5t z0 hp b9 c2,z0 S.ns S.rss S.ss S.cs,Mod X.K X.mg X.base,A.deeper (CRL qual scope cd),(by rw[AB this (k h' tk kp)]),ZS (A9B z0 "way")/\ZS (A9B zA "lay")/\AY zB,(N u p).len,(a5a scope env).lookup,(D5U i D6L).eraseIdxIfInBounds,wpAny_looks_onW (L:=X.env.locals) (OV z0 I1.ok.frames) zA zB,M3 s.heap (AFV AFL A63),(by rw[AC z0 r.length zA a1v];rw[D9A zB];rw[iM (0<=i)]),D6 (k H1 s1),PIE X qK σ tg R,List.countP d its=List.countP (λz=>BRY) xs,Paired.mapP r λz0 zA z=>⟨cS,zB,z.2.2⟩,pk b z t k,CQO base x z0 ps sp,LL x BX ps sp,LL "next_level" 5 BYU c7s,(TgA z0 a cs).getD j 0,DkV C H S v,(by rw[FF];exact LY (HE p1 A2 (AM6 H d))),(by refine KeyOrd.klt_of_kle_of_klt (a1W T.sb z0 zA zB ?_ ?_) zC),(by rw[BW hJ f.2.1 CXN (AL5 (B1Z f) z0)]),(∃i,D6A/\SI i)∨∃k,xs=[.bl k]/\SI D5D,(by rw[TU KJ];have e:¬z0=wd "":=zA;rw[AB GA this]),DC (GZ y _ M rfl),(EqV.at (n:=0) I z0 (by show kJ BKY 0;exact c1T zA) zB zC),CW2 B+CW2 sep.length<=16777216,∀b ps,aZ b .tbl ps->∃more,A4O b .tbl (ps++more),∀b,b∉AKE->IU z0->b∉zA,∀M,M∈ns->DF a ns z0->SI M,(by .exact UG (fR Nat.log2_lt (show(EV).natAbs≠0 by omega)) Int.natAbs_natCast z0),(by .rw[z0]at e;exact AJ k (GK A7E c s) zA),(by rw[z0];exact A8Y _ (I.lnew (t':=s.toks) zA zB) (q _ I.fresh)),EE r3 H3 z0 zA P3 f3,(by rw[B2T]at h;have e:z0=j:=BTD),swapsWith z0 (AO zA) zB X.env=pure true,pU "show_term" "many" "name" spShT,pU "sided" "rows" "sides" b5c,pU "ending" "some" "last" b0C,mergeAt' z0>>=λb=>A7U (uL b) D6K (lU cC),G6 L/\L.Nodup/\(uG L z0)/\(zA)/\zB,tMethI C m sp dvs,(by rw[GJ z0 (p1.map (BLE AW8)).length_eq t2 zA];simp only[List.length_map]at zB⊢),kL (ta σ H λx H'=>∃k,z0/\VY k),YP "read_system" 10 "text" spRSy,nmF g st l k,(by have:X.A.in1.units=BKY:=rfl;rw[QE z0 d]),λc x=>V.bl (b7L c x),∀z0 H',zA->zB->DAW true->pS [p,af,aw]->A4S .int zC,(by show yQ (A7V<0) (yH A7V z0) (min (A7V).toNat zA)=_;rw[KO A90]),(by have e:z0:=x;show CX8 zA;exact k a _ OP e),(by have e:A82 its.toArray.size z0 D0Z=zA trV:=zB),∀c:VK,KB c b H->YY te c,z0 I b hi d r zA c,WW (setS_at E) (q.heap S _ m e),∀v,assign (CUC o i) X.env v=(z0),wpAny_field c hd (x:=z0) rfl,StR rss cs b L,(by .rw[SQ BY6 (l f z0).sum];exact d.eq (AAV zA)),(by .rw[BW _ z0 (λx a=>AZW uJ) h2]),λc z0 r z=>D45 r j j,q st' g h1 AD,(C9 f v fs).map,(by rw[ZP f hw (D9F z0 (GS l c.val k))]),A5U (QH a (mF l e1 e2 (xW a) l e1 z0)),∀i z0 H,AWW->i<=zs.length->zA->zB,(by rw[lX c.length];exact z0 ys trV .non),z0 o i v H Q,AV0 "caps" ca "rows" ra [],AHJ base CX0 BX f fd ps sp,(by .show KQ glued a []<=_;rw[CG glued_eq_join D1H z0]),(by rw[mK];obtain⟨g,e'⟩:z0:=e;subst e'),AGL "way" 5 A6Q spWay z0,AGL "by_rows" 9 BXA b0D z0,LS (z0,na,at_,B5L,mg,k,B43),(by obtain⟨z,hd,z0,d,dd⟩:=xT zA;have o:CK zB:=by rw[JY zC z]),OK (v<0) (max (v+EV) 0) (min v EV)=EU z0,b4G T m B g,.FormattedValue e (-1) none pos,IT H v (f j),∀i j,y7->j<m->yL z0 zA,(by rw[HQ r];cases(pZ z0 ty);rw[AQ zA (GF e A9N)]),(by .rw[tY q hq];rw[AU q hq z0]),(by rw[tZ (ZV z xs D4B (AIO B4P))]),∃u,us=[u]/\dN,AHQ "show_terms" 2 BXO spShTs,AHQ "show_row" 3 BXM spShR,(by exact List.mem_filterMap.mpr ⟨env,IS h1,h2⟩),λb o _ d _ e n=>tV z0 d AF,(by rw[GJ q z0 zA q];rw[MD zB (A0P (CYL .cell) (CYL .free)) q]),(by rw[N1,B7,B7]at this;change z0=0 at this),(by unfold z0;rw[List.take_add_one,zA,List.filter_append,List.map_append];congr 1),(by unfold z0;rw[Array.toList_append,Array.toList_append,a5p,a5p]),(by cases z0 with|cons p q=>cases q with|cons p' q'=>cases q';rw[EF _ _ rfl p p']),.Slice none none (AO st) p2,LL "cheapest" 3 ["told","prices"] spCheapest,LL "_law_line" 3 ["_law_pot_here","_law_width"] spLine,SyAt H a c rss cs,A6P "say_lay" 8 BXG (spSLay C CN z0),A6P "say_by" 11 BXH (spSBy C CN z0),∀i x σ H,cH->AXL->AH9 (QC g x) A03 A03,λp' z=>LZ (A5F L.trans s' z),b4V C sp [] E0 z0,(G3 (by show EV*1+0=_;show _=EV;omega)),thn (WA b) λv s1 (gA x a d c)=>z0,λv H6 N P6 q=>z0,∀v r H1 j,A0W->D6G->KS->A9D (j (z0 r) H2)->zA,(by rw[AL9];refine a9W r _ _ ?_),b4J T F o B,(by rw[ALN (EB (JC W.done z0) h' tk d)]),forIn z0 true λc r=>BPN r zA (BQ2 r),LL "read_figures" 2 ["word","most"] spRF,SyAt H' a c rss cs,λb z=>absurd z (j b),BOK D8I OR ia ON,AMT z0 (c2W DY (AXO zA a) CV),tN C9 f v fs<=z0,(by have tm:=z0;rw[XJ zA t lD AMX t zB (gP tm zC)]),BPM BU2 LW xs.size (min (LW).toNat xs.size),BPM (x<0) x BK6 (min x.toNat xs.size),b4X sp [] E0 t,A82 xs.length z0 (OS (p (xs.getD i d)))=zA p,f x c e z0 z,∃xs,AB6/\h.DictOfH (CVB P w) a xs,(by rw[HI D6];rw[T6 (k H2 (s'.trans s2)) z0]),ZD ((g c z)) x c e rfl,rK "step_within" 6 (WC "room") a8I,rK "say_cheapest" 4 (WC "some") spSCh,A0A loC out ia ib bc,Off l H (upd H' p o),(by rw[ER (a5V (caps:=[z0,zA]) zB zC rfl (BY0 H2 zD s2)) H2 p s2 zE]),(by .rw[IJ k' e z (G x _ t) k' e z0]),(by rw[AJM (F7 z0) i t rfl x t rfl]),(by obtain⟨vs,H2,b,r,z0⟩:=zA;rw[KG b.kIn]),fin qL g _ z0 rfl zA zB y I h1 zC zD,((∀m:Int,BLC->DA4 z0)),b4V C sp dvs E z0,x.above y c (PySem.mem_of_lookup h),∀k,k<=n->AGF k z0->(y8 k NB zA)->B3Y k,PC X op a b t,DQ p dx hp b9 c2,v.length=z0/\RZ v D52/\BTI,g i A1A (~~~c2g q p) (~~~c7B v),((∃xs,SqK z0 K H1 a xs)),BUS (∀{R:B3C},R (BK z0 i) st->xB D62 R st),A6P "say_rows" 10 (WC "most") (spSRw C CN z0),A6P "say_way" 6 (WC "one") (spSWay C CN z0),AZA (BQA A1Q BUY) c1s u,AZA (BQA AMD n) b3z g,(by rw[OX b c];rw[QP i j rfl rfl q];rw[BV7];exact DA9 s _ _ z0),(by .rw[B1O (b4K T F i n g h1 h2)];rw[AYL f]),BRM (z0 D (I.wish _) hw) (fY q q.unwish),(by rw[EZ z0 rfl zA zB a9N D];rw[BWZ hl zC s7 H6 zD L]),λx H7 x1 x2 P7 f7=>BX9 (q _ _ (HE _ (BJ z0 x1) (BJ zA x2)) P7 f7),(by rw[D0Y (CWY S)];rw[AX (wpAny_seqItems C rfl ?_)];rw[BQZ (AVF I)]),(by rw[D0Y (seqItems? (.ref _))];rw[AJJ gS];rw[BQZ (AVF s.heap.objs.size)]),(by rw[D18];obtain⟨u,v⟩:=d;rw[D1U]),(by rw[L3,B7,B7];exact c1R b c e g),(by rcases h with⟨h1,h2⟩|⟨h1,h2⟩),(by obtain⟨z0,p1,p2⟩:=U6 (f:=CTF) hp zA),(by obtain⟨v,z0,zA,rv,q3⟩:=b.after g),⟨o,es,ep,z0,d,r⟩,λ{i j} hi z0 zA e=>?_,∀(j:Nat) x v,BQX->IZ its v->z0 v=B33,∀(k i:Nat) (s:qC) (z0:zA),zB,BYX (t':=s.toks) (ch:=ch) (gQ g) z0 zA (λb u _ e n=>zB),Inv.unblock z0 f2 (Nat.le_succ _) BV,z0 tb σ Q x H1,z0 c o hJ CXN (UL f) (AZX f) e,⟨b0W (z0 K a) b.h c.h d.h⟩,thn (WA hi) λv s1 h1=>FJ h1 z0 s2 h2,∃p ys,xs=AFB/\(D5N∨D5O)/\z0,(by rw[ZW ixN List.length_map D37 (EA z0)];simp),(by rw[tY u d];rw[iK d];obtain⟨_,b,e'⟩:=z0),List.foldl (zQ (a++b)) qP.toArray (BTN its.toArray)=AJG qP (B3K k),(by rw[AJM (F7 hv) j u rfl y u rfl]),(by .rw[B5K (BRT q (IF b)) A03 (QF (xs.length-(AM)) D4K b p')];rw[D11 σ q]),EB (thn (B4T z0 _ zA zB n zC)) d zD ⟨z,i,j,zE,k,e,l⟩,(by have z0:B2L O af AZ5 zA=BK .lst zB:=by rw[AB (A6 zC) (cP zD)]),(by obtain⟨l,b,xs,zs,rfl,rfl,g,z0,zA,q⟩:=h),(by rw[List.all_cons,Bool.and_eq_true,decide_eq_true_eq]at h;rw[List.map_cons,List.zipWith_cons_cons,List.sum_cons,z0,zA];rw[PD zB]),∀(z0:zA) (zB:zC) (s:qC) (Q:qH) (E:qH),zD,[(BQE,GV),(AJA,BP z0),(AJB,BP t),(AJC,BP zA)],(by have h1:OJ<j:=QR;have h2:j<z0:=a.2),z0 t b vs.toArray a.toArray n p dd d,(by rw[JK I2 (BSG z0 h1.objs.size zA (t':=tk) k2 ⟨zB,os,c,zC,e⟩) (A8Y h1.objs.size I2 zD)]),(by rw[cG e' e'];rw[d]at c;injection c with d1 _),D88 _ _ rfl z0 q,∀a b:Nat,a<b->b<xs.size->AI4 a<AI4 b,⟨_,rfl,p,dx,_,rfl,t,YU z0,?_⟩,(by refine GZ .non _ (I.lset (its':=z0) zA e AF zB ?_) q),∀l zs qO,A84->B4A->z0->uV->D5Z,eY Walks A J [J,z0] [J] es.size zA (A7H (zB/\zC)),(by rw[DBF r' z0 f3 f4 zA zB (AE f2 (G2 f3 f4))]),(by rw[DBL z0 c g];rw[B5J (BWF a5d zA) c g c]),(by intro A u v g m o;rw[gM m o];rw[BI c a b]),DCB (fnOf m qn AX9 A5T),(by rw[DCD PySem.F.slot_dict_get PySem.F.type_dict_get (AAL z0 zA) c zB zC zD]),(by rw[DCP];have t:z0:=D2Y;rw[AC V zA U zB];rw[DAA zC]),(by rw[List.pairwise_iff_getElem];intro i j hi z0 zA),⟨h.perm.trans List.perm_append_comm,h.sorted,h.rb,h.ra⟩,∀{x:z0},zA n λl=>P AA8,(by refine z0 λc f=>q c _ f ?_ ?_),⟨xs,zs,h,j,AD⟩,∀(z0:Around) (zA:qH) (zB:CUD),(∀h1:Heap,BNK->zC zD (JV h1))->zE,(by unfold SetTable.tooFull at f;rw[O,decide_eq_true_eq]at f),(by first|exact nobehind _ AH AH|rfl),~~~c7I C S B Y,(by obtain⟨⟨us,h1,h2,z0⟩,zA,zB,zC,hR⟩:=h),show ObjOk X.prog X.w _ _ _ z0 from⟨zA,zB,zC,ALH⟩,(by cases k<;>obtain⟨o,q,r⟩:=x<;>exact z0),∀(a b:CJ),a.Nodup->RZ a (x∈b)->zW b.length,D0C z0 D.l2z D.l2i1 hs₃.extBut D.l2TO,c4c lt left key x,DA6 ca af aw true,C9 z0 zA zB=dfl zC ar as ac ap,z0 S.ns S.rss S.ss S.cs S.ps,AY (T9 N src M a),b0H (z:=z0) zA (λc H' N zB=>ZV c zC rfl zD) (λv=>Sub.one),(by have:=h _ (List.getElem_mem (h:=hj));rw[AZN ALQ z];simp at z),(by .exact wpS_pure (q st' d h1 h2 b)),(h.swap.stepA hs e a).swap,a5l B4 z0 (a5l B4 A7 zA),(by rw[PP (listUpdate_at d rfl ?_ GH) z0]),(by .refine z0 z (zA (i:=zB) ?_);rw[<-zC];rw[D23 G];rw[D29 G]),(by .rw[AB z0 (rV (Nat.add_le_add_right (Nat.mul_le_mul zA (BVA qW 9 c1Q zB)) 200) AH)]),JV (AFV PySem.W.emptyDict (PySem.W.instObj C s.heap.objs.size)),DBY K z0 (y:=zA) rfl rfl,(by rw[DB];rw[eR (z0 l j g d) v];constructor),(by rw[List.mem_singleton.mp D];exact⟨a8,L,D76,A,AMB⟩),PySem.seqSlot_of (T:="tuple") (name:=z0) zA zB FV,a2V C m sp dvs E ta z0,(by rw[KP (a9F (c:=c) (n:=n)) B2I]),SetTable.probe.go t a h fuel p,swappedStores AXU e X.env=pure none,(by rw[HI K0];rw[List.getElem?_map,B2J];rw[AL7 h]),(by have z0:upd zA d AII d=BK .dT []:=A2),(by rw[FY F9 z0];rw[ER (zA T.sa T.sb) y zB x zC]),(by refine a5q I B44 hs z0 zA;rw[AB (A6 (F6 zB e QJ)) zC]),CompW src g l te σ Q z0 H1,(by rw[UQ (h _ D9T true z0 zA (BTQ C))]),(by have d:BY1 ((z0 BP7).push A63).get?:=zA),z0 b a q n c d,∃e f,z0=A0Y/\RelV (.int zA) e/\KB RelV zB f,AV0 "caps" ac "sides" as BXS,(by rw[XO];refine wpAny_execs_cons (FJ (cK h1 z0 I h) f s1 q)),mM (BSG I.laid s.heap.objs.size z0 (t':=tk) (IY o (WK zA u6)) ⟨zB,sT zC,λh1 h2 zD kk=>zE⟩) zF,tM n r p a rfl z0 zA,.Call (AU8 z0) zA [⟨AO zB,.Constant zC nk np,kp⟩] pos,I.lset (its':=z0) b e ?_ zA ?_,(by rw[A7C Builtin.«set_iterator.__next__» z0];dsimp only[rawInt];unfold setEntries;rw[PP wpAny_bind zA];rw[KJ]),∀os:AN,CXW->D15->P (CXS .none) (JV z0),(by rw[A7R o ho z0];rw[D0I (WS ho f)];rw[UQ (DZ zA)];rw[B5N f]),AFZ Ok X.base x k ps sp,(by rw[A8C z0];rw[BYR n p (BVG T.2)];rw[e2,G2 n p,G2 (a b its n) p]),(by refine kdu_collect z0 (D53 D5S) D zA (DB0 zB);have:qP.toList=zC:=zD),(by .rw[yX ys];rw[AB (VW List.take_of_length_le c0O g) BKW]),⟨false,p,_,rfl,YQ,LZ z0⟩,λi s Q E hi st z0=>zA,G z0 e (λc o i zA n zB x=>zC) ⟨F,AJ zD g d,f⟩,Over BYM (fre qO.length) most,(G3 (by rw[a5j,a3e,AA6,z0,AXJ zA i];rfl)),(by have e':CZ=k:=h1.symm.trans e;have b:z0=some CS:=by rw[zA]),(by rw[UV (JZ z0 ys (A4U YQ q zA)) zB (MU H1 (o:=fV) zC).upd (GN ys) zD];exact kk q ys _ zE A2 zF),(by have D:=(z0 (zA-d) zB).2;rw[f,CVT zC zD c7A c,zE,Z i _ hi]at D),∀b o u,A60 B12->YG H' B12,⟨z0 (sL a1q) c.h a.h b.h m⟩,(by rw[AC f z0 zA zB];rw[D81 (D2 #[v,v])];refine wpAny_updateSeq f rfl ?_;rw[a]),MV LM (BVY z0 zA) (λfin s'=>∃v,fin=CXS v/\BUT),(by rw[sQ PySem.F.slot_str_join CUL PySem.F.entry_str_join PySem.F.args_str_join_2 (z0 a t p l zA) (HJ zB)]),(by rintro i v ys H' hv ⟨s,rfl⟩;have hi:i<as.length:=by rw[<-g];exact LX hv),(by rintro x c z0 _ zA ⟨g,e1,m,zB⟩;rw[D1L zC zD ?s1 ?f1 m zE ?p1]),(occurrences a b 0 a.length CU5).isEmpty,(by obtain⟨e,y⟩:=y;subst e y;exact hs i z0 _ zA p),(by rw[AIP us r1 z0 d l (zA k)];rw[r1.length,l.length];rw[LV SeqAt.EqAt.of_refs c]),entryFor_alias (id':=z0) MC rfl FV MC,A5E c (c.heap.push (pW "slice" #[.none,.none,YO (-1) tk])),(by have Z:Inv j D7J gL S s3:=I3.pins_of λp D=>z0),(by rw[BSP D2X];rw[FZ a B2F c.length hi]),λb u q n _ _=>z0,(by rintro σ HC ⟨z0,rfl,l,PC,t,zA⟩),(by rw[pL A.in1 (holding [z0] (setAdd S zA)>>=_) s'];rw[AJX zB]),(by rw[cB j z0 (∃j,zA=c+j) (zB-c) (~~~c2D zC)]),z0 h.ri g.ri h.nd g.nd λv=>BSB h.mem g.mem,(by show z0=_;unfold zA;exact zB (i:=i) (List.nodup_cons.mp nd).2 A8P A8Q a),F0 j p.mono (YI (tI E4 (A8K B4 B4 B4 z0))),W.frame _ s' _ _ z0 A71 (BS b zA o e),a9e XB p lx_TooMany O N M,CZO CW (CT1 (CRP ys.length) all e && xs.length==ys.length),forIn [:sz] (cC:AZ2) λ_ _=>get>>=λg=>z0,(by rw[D1T r g m];exact BPF (ED z0)),(by obtain⟨l,g⟩:=st.en;have p:t7 e "enumerate":=AAD;rw[AYB z0]),BC z0 base base P l.prog (w:=w) (OB zA),BC I.laid a s.heap.objs.size o z0 (h':=zA) (t':=s.toks),∀r st',AVN r->QK->A80 r,EE j y T e1 e2 K,((∀s' z0,Moved CZ8 G s s'->zA->zB->D57 s')),fJ AXY (λv s₁=>A13 BLP (λu s₂=>A13 z0 zA s₂) s₁),kW (D39==0 && WT==1) ((BYH-A6G)==items.size),∀{binds:uN}{m:BF},(∀v,BUW∉binds)->z0=m x,(by rw[gF z0 (AKZ zA (LC rfl 0 1 AD AD zB v))]),(by have h1:cR z0:=Nat.le_of_lt_succ BW1;have h2:=a7S h1;have a:zA<=B4G zB:=zC),(by have key:∀x:Str,z0->LQ (WF x.cps.toList.all c zA)->zB:=λx h1 h2=>zC),(by .subst d;rw[B5B];refine z0 D3I hd dd.mapOf ?_;rw[CZW CYT]),(by rw[uK KJ (LC rfl o (2*o+1) (~~~c0T) (~~~c1V r) z0 t)]),(by have e:Str.join a ys=cS:=by rw[<-b];exact(glued_eq_join a [cS]).symm),(by rw[LN rfl K];generalize a2:(AFU)=a at h;rw[DCL]),(by refine aH l hl;refine VF O5 l fs (OM σ (Ex1 λo=>An3 (σ=z0) BL zA)) (HE none qU rfl) zB ?_ ?_),((forIn [:n] (bL 0 1:BM2 (qD AU4)) (GF c (A7U (RD ≥ z0) BS0 (CVX zA>>=λr=>zB)))>>=λc=>zC)),⟨z0 a7W a7W d.h e.h f.h g⟩,c.h qK _ σ H1 _ Q (b.tok _) q,AEQ base "take_all" 9 ["draft","lines"] (spTkA C),(by rw[L3,B7,B7];exact c1Y d g o u),LqE.rec (OS z0) (λn=>zA) (XD a b (a+b)) (XD a b (a-b)),kN z0/\A8X/\Lim tK (sdC ns.length) m,BY7 y ys ha hI hy z0 zA hs (AB2 v zB),(by obtain⟨F,W,k,c,b,_⟩:=h;exact a3S c (~~~a9u b)),(by rw[DCN j h2.ex i (DBZ E i d) h.h]),(by rw[DCO];rw[BVK g];rw[AX D69];rw[D0I ALR];rw[iN (q _ DC5)]),DCQ x y v u (BRD NL z0),wpAny_Dict_empty (mM (I.laid (a:=s.heap.objs.size) (o:=z0) (t':=s.toks) BVI BV zA) (h _ cQ)),∀(X:Cx),nW->nX->AT->DM->BZ2 i Nat E qH (AL->A7A AYG->D4S->z0),(by subst z0;rw[BYV (HU (W.done s _ _ zA) s' zB)];rw[pL A.in1 CV9 s']),∃(o:Obj) (its:CO) (n:Nat),z0,∀i x z z0 H p,cH->CC zs z->zA->TZ->zB,(by .obtain⟨_,_,_,_,o,_,_,e,ex,_⟩:=B3W b;rw[AU o e ex]),(by generalize AHN=S at c gS z0;rw[DB9 zA zB];rw[DBU B0X zC]),(by obtain⟨⟨rest,e⟩,_⟩:=z0;have z:now=xs:=zA;rw[AY5 z b5m]),if 1+O<UI then 1+O else UI,power' sz (2*s1+n1) (2*s1+n1+n1+n) sz,(by refine wpAny_Try_except (EB (AUH (cK z0 zA _ I h) (EI f s1 q)) e s' q)),∃od,z0/\∀name,PySem.W.lookIn name od=BK mA name,(by .exact wpS_bind (z0 λr b hr g=>fin r b hr g)),(by rw[FZ h2 (EH xs.zip ns<=xs.length) List.length_zip CWG]),kL (ta σ H (z0 tb σ Q)),∀(w:World) (h:Heap),z0 w h->BP6 h,(by rw[FQ z0 (GZ _ zA zB ?_)];have y:R1 st d=zC:=by rw[FY R1 zD]),(by rw[xO];have e:=CWF;rw[BSX (C rfl λz0 zA z f=>KeyOrd.kle_trans zB (zC z zD))]),BNK->(RW CRN WJ)->BNX h1.objs.size (xE os.toArray c)->CXW->D15->z0,UR _ rfl _ rfl z0 _ rfl zA zB,rE (N4 z0 h i c3V) d.h g,(by rw[cL p];rcases p with e|e|e|e),cN rfl l l t q p,(by refine z0 (IY o AXZ) (a7P m) ⟨BV,List.nodup_nil,(u9 (nomatch hx)),λj hj=>DAJ⟩ ?hR),mF t d r z0 t d.h r,(⟨BN6,by rw[DK,List.length_map];exact Nat.le_trans cF lA⟩),(by rw[A7R F d r];have z0:B16 zA:=zB;have g:e≠z:=λx=>by subst x;rw[AW zC d d];simp at f),∀{xs:A0}{us:AN},ZK->AMI->z0,EqV X.K H n x y b,(by rw[A1G Y m m];refine BYP z0 zA zB zC rfl (ED (EM (ED zD))) _ (DGet.k (k:=Sum.inr x) zE);rw[a3j];have:=aG),(by rw[cB m rfl (∃m,nb=m+1) KU (~~~c2C h2)]),(by rw[show KN Builtin.Dict_items.ownsTuple "dict_keyiterator" by decide,BD Bool.false_ne_true];rw[RK (mS (AHK CX5) _)]),D82 (VZ d.names.map) d.names (λn=>z0) (IL (b3t hnl Z)) uR (ZU zA) rfl zB,b a A outer s H vs Q E z0 zA,(by refine a7F (m':=z0) zA (wpS_mono (add _ zB zC zD zE zF) λr f p=>by rw[AYL p])),(by have gS:CQ D02 AHN A63:=KF;have z0:CWE s.heap.objs.size:=YM Heap.get?_none_of_le),(by show KZ A.in1 (D13 z0>>=_);rw[AX (wpAny_of_eq (A5P (D13 zA=pure zB)) ?_)];rw[uM];rw[DB6 zC];rw[a];have zD:AHN=HK:=size_push' ..),(by rw[e2,<-a6Z f b r _ e,z0];rfl),LsO tK (sdC ns.length) m z0 o,kI (xX k1 H' a xs.map ca/\xX k2 H' b ys.map z0),(by rw[BR0];rw[AM5];rw[D1L z0 zA ?s2 ?f2 h1 h2 ?p2]),(CVL ⟨hi,by have:=z0 i ys H p;exact a6t f hi this,λzA H' y=>by rw[zB]⟩),B5S z0 U.n1 AKB tn rfl (OI zA) ?_,(by rw[BSJ d];refine z0 (FJ (cK b Q I h) c s1 e)),(by rw[BSO];simp only[Bool.and_eq_true,List.all_eq_true,List.mem_range,decide_eq_true_eq,beq_iff_eq];constructor),(by unfold a2O;rw[A5L g];rcases D7N with _|⟨s1,n1,z⟩),⟨ne,r,_,_,_,A2,GI ne.symm z0⟩,(by refine z0 (A4W j d k);rw[A7R H1 e k]),(by refine PyProof.Rows.SetOf_congr a (LR k) (IF c);rw[FO k x]),(by refine AJ (a7d xs j n fuel) (AGO z0 zA) zB zC zD zE;rw[FO i m]),(by have:=KeyOrd.kle_trans (a1W T.sa z0 zA zB (BPV (mI zC)) (BPV (mI zD))) hle;rw[gN KeyOrd.kle];rw[sS ltK this]),(by rw[AGW M L f r N M L]),(by rw[AGW G D f B L G D]),λH6 S ys hl D P6 f6 L=>?_,(by obtain⟨d,f⟩:=k i ys H D3U p;rw[FK (BRT d UY) (~~~a6t j hi f) BMF];rw[D11 ys d]),(by obtain⟨d,f⟩:=k _ ys H BV p;rw[AU (B4E d) (~~~a6s j f) B1I]),∀{a b:LLI},G6 a->G6 b->a.Nodup->b.Nodup->(uG a (v∈b))->iR,(by rw[AYB (BSC AFJ I.typ slot_seti_next slot_seti_next I.typ a0Y a1M)]),(by rw[D00 0 z0];show KZ _ (mS (AHK CXC) _);rw[BD (show ¬(AHK CXC)from Bool.false_ne_true)];rw[D00 1 zA];show KZ _ (CWY t>>=_);rw[AW2 zB hdl];simp only[Int.toNat_natCast,zC];rw[AX zD]),(by rw[D1I I.tuple I.tuple];have:=B1M z0 X.A D8U (show s.heap.IsTuple c d.toArray from p2) B0V B1K),(.of (owner:="set_iterator") (n:=z0) (by rw[typeLookup_type,builtinLookup_eq_fast];kernel_rfl) FV FV FV),h n st Kept.refl l b q,z0 zA (.Raise (AO (x5 (AUC np) LK qM)) none pos) (b8A C E t),SetTable.layClean.free mask owner (BMO mask) gY (SetTable.bits h),A5V CU HS/\EN CU/\CU≠X.env.locals/\CU∉X.fs/\CZL (HS).data,(by rw[KJ];rw[AX (BWT wpAny_dictEpoch)];rw[A0N KJ ?_];dsimp only;rw[show z0 by rw[D2Z,Int.toNat_natCast,zA hi]];dsimp only;rw[QQ]),(by rw[B5Q (AZ7 d) (AZ7 d) BT4 (WN d) (BP d) g (DS x'::bE (DS d))];rw[AAI]),(by rw[BYT z0 zA e D];rw[AYB (BSC AFJ I.typeIs PySem.F.slot_dict_keyiterator_next PySem.F.slot_dict_keyiterator_next I.typeIs PySem.F.entry_dict_keyiterator_next PySem.F.args_dict_keyiterator_next_1)]),(by obtain⟨m',hm,z0⟩:=AG hN zA;obtain⟨b1,b2,b3,b4,b5⟩:=back (pl:=[]) zB),(by simp at h1 h2;subst h1;subst h2;show z0 kindOf BYF m p=_;unfold zA;rw[zB λv b=>(List.nodup_cons.mp nd).1 (List.of_mem_zip b).1,zC];simp),(by exact⟨_,_,_,[],[],z0,AF,AF,A17,D2O⟩),∀(w:World) (mg:BF) (fa:qE) (h:Heap),BP6 h->B40->z0,(by have e0':BYC (λl p=>l++p) n.toNat its.toArray=BWM n.toNat:=e0),(by rw[D9W PySem.F.slot_dict_get PySem.F.entry_dict_get PySem.F.args_dict_get_3 z0 zA];rw[l];exact(c.val k).getD i),⟨_,rfl,p,_,_,_,rfl,rfl,A8M,a7E,_,rfl,z0,_,rfl,zA,zB,zC,?_⟩,(by rw[DBQ j z0];refine PySem.W.callWith_K (h₀:=X.base) I.ok.mod.kin zA (D1G r q (HJ c.kIn)) i b),(by rw[DBV (DAH z0 ec i _ s3) Z D7Y zA]),∀(qs:aF) (d:Dr),DF q qs (D9Q (CU4 CZ))->(z0).Nodup->GY (zA+qs.length)->A1I (D7T qs.map zB) zC,(by obtain⟨hf1,n⟩:=z0;have lv:=l f hf1;rw[FK ⟨lv.len,lv.nn,n,zA⟩ D5T zB]),(by obtain⟨m,⟨o,es,ep,z0,r⟩,_⟩:=id I.loc;rw[yZ sl zA]),(by rcases a0o r _ _ h with⟨d,e⟩|z),∀{st':SortSt}{runs:uO}{rest:NK},CZ7->z0=sz,(by unfold z0;rw[Array.toList_append,Array.toList_append,a4n,a4n,Array.toList_reverse,List.drop_zero,List.drop_zero]),(by obtain⟨_,v,e2,m⟩:=p.mem c;rw[AW q e2 e2]),{j:=z0,more:=zA,i,perturb:=pt,dummy:=none},(by rcases z0 with⟨m,rfl,zA⟩|⟨rfl,zB⟩|⟨rfl,m,xs,rfl,zC,zD⟩),richCompare_meets_room (op:=.Lt) (MW z0) zA PySem.F.slot_tuple_lt PySem.F.entry_tuple_lt (BZ PySem.F.args_tuple_lt_2) zB,M1 X o "get" qN e qM,Y9 left key qQ base n a,(by .have:=u6;rw[AYJ];simp only[List.mem_cons,List.not_mem_nil,or_false];rw[AQ (AX1 this) (AG1 this)]),(by have z0:t.probe (λi=>(es[i]?.map (·.1)).getD 0) YR (D8 t.mask CVQ d)=_:=zA;erw [zB];dsimp only),(by rw[AC h1 A7K a (z0 (ys:=kT) λz b=>BR7)];rw[N1,B7,B7,zA];rw[D25 a];rw[FX zB h1 a]),(by refine call_meetsIn PySem.F.slot_dict_get dd.typeIs PySem.F.entry_dict_get (BZ PySem.F.args_dict_get_2) z0 zA;rw[l];exact CTD getD rfl),z0 a m g st l C d b H,(by .obtain⟨its,r',pl,hz⟩:=z0 b;have a:=r'.length;exact zA zB (by simp only[List.size_toArray]<;>omega) (UA (BP ys.length) WD ⟨kO,GT List.size_toArray a⟩ q)),(by have f:=e.typeIs;obtain⟨o,z0,n,g,_,hd,hi⟩:=e),(by rw[show LQ (WF (wd z0).cps.toList.all c AYY) by rw[RC]];rw[VE (XQ ?_)];rw[BUN (show ZS (zA=YV "0") by rw[RC])]),(by rw[AJM (F7 hb) j u e y u e]),(by refine⟨λqK s σ H D R I h=>?_⟩;obtain⟨f,fd,z0,zA,F⟩:=O.ex),(by rintro c st' ⟨g,r,e1,e2⟩;obtain⟨z0,zA⟩:=c;rw[BK4];rw[AY1 e1 (AJ q e2 g)]),(by refine⟨a,b,I,_,rfl,z0 G,A2,E5 zA p,AKC 3,AKD 3,zB⟩;rw[DA7 B B]),z0 c o (mD I.cne) G h y (I.freeC x c e),B3B v (SysAt H' v d.names d.rows d.sides d.capsL d.pricesL) y6,(by .refine⟨its.toList,r,z0,?_⟩;have e:=r.length;simp only[Array.length_toList]at e;exact b3r d e),(by rw[BSJ i];refine z0 (A4W f c j);rw[A9O H1 d j]),call_meets F.slot_int_rmul (AYU s z0) F.entry_int_rmul D2N (a5T zA t a its.toArray m dd sl) zB,⟨I.ok,I.os,I.bare,⟨D05,D05,I.base.free,AIL e l,I.base.tups,I.base.frzs,I.base.tbls⟩,z0,zA,I.free,I.freeC,AA0 P,f ⟨zB,zC,zD⟩ hs,BQ I.len⟩,(by .rw[B1O (b4H T i n g h1 h2)];rw[AYL f]),(by rintro i x σ H' hx ⟨o,rfl,s',hB⟩),(by rw[BYA _];rw[BPK y];refine ite_congr rfl A73 (D2 (eR B4C _));rw[A5L g];rw[lK (A9C c) r]),[DX a0,RQ,A8N,DS sh,DX lt,DX ld,DX pq,o7,o8,o9,o10],(by rw[D1T g m q];dsimp only;refine BC b4M lo z0 hi zA d p mono neg zB (BJ zC u) zD zE h;rw[OZ q]),(by refine LY ⟨rfl,z0,zs,a9,A2,GI a7.symm zA,a5n zB zC A0S,J,zD,zE,u5 hv⟩),⟨xs,zs,AXF,zs[i],h,j,KA z0,BTS⟩,⟨_,rfl,l,_,z0,zA,rfl,rfl,zB,rfl,1,rfl,zC,_,rfl,zD,zE,zF⟩,(by subst k;rw[BZ4];rw[QP p ys x y z];exact z0 a b c d e f g i j ⟨p,ys,x,y,z⟩),∀(qK:DL) (s:qC) (σ:St) (H:Hp) (z0:zA) (zB:zC),AL->zD->zE,(by rw[A0B BS7 c (BWW (d i v as[i] H' _ hv UY s) A0R)];rw[BW4 UY]),BWU l AA2 AVC atc _ _ rfl rfl ?_,(by .rw[DBA b hb];rw[dJ i t D5I];refine BS3 (z0 7 AH6);rw[u7 MF (sN (λv j=>D7D j))]),["enumerate","zip","dict_itemiterator","dict_reverseitemiterator","odict_iterator","itertools.zip_longest","itertools.pairwise"].contains,(z0 zA (D9K zB []) zC (by show([]++_).Nodup;exact(J8 ns zD).nodup h.nm.nd) (b _)),(by .subst hj;rw[AKU hi];rw[AW (List.getElem?_set_self hiσ) e2 e2];rw[AU u r z0]),(by intro i v s' Q' E' hv hq;rw[MD b AM3 hv]),z0 (CZI sa sb) (CZI sb (sb+n))>>=mgC sa,z0 CD a0 a b l lt ld pq sh us ds Ss,(by rw[AX (z0 λh₂ h1₂ hs₂=>AAE)];have hTO₂:CZF h₂:=CZK D.TOi1 D.TOz zA;rw[AJJ hTO₂]),BC (BC a3t P P w w (l:=outer) (H:=z0)) H' zA h0 zB (h1:=zC) (h2:=zD),(by .have:=(z0 e i k r).same I (WO c);rw[F2 this c SeqAt.EqAt.same _]),(by exact g i qK s1 σ H1 Q d e),z0 (envOfC qual scope s.heap.objs.size f cd).kindOf (ps.zip us) λ_=>none,(by rw[QP n rfl h1 h2 k];rw[GL (z0 (O8 zA) DY)];rw[SZ d]),⟨_,rfl,_,rfl,p,C,dx,_,rfl,z0,U.cl,zA,zB,?_⟩,aB ((A82 (min ns.length ms.length) all (λj=>z0) && ns.length==ms.length)) (ns=ms),(by .rw[RV l pl g z0 w];rw[A0F G F n hd zA];have d:=l.length;rw[BW its l g (λD E B k=>wpAny_collect_seq p zB G F hd (λh' k'=>k h' k') (by rw[CW4];exact N0 g d))]),(by rw[UV (mE S p8 a6) s8 s7.upd z0 a6];rw[MK e8 (upd H6 S zA) p8 zB p8 zC];generalize upd (upd H6 S zD) p8 zE=H8 at s8 e8⊢),PySem.W.fnOf name qual c body scope F kV h pm an a ct,λD R σ H=>kK ta x (∃a dx fs,JH/\BWL/\BWH/\VB t vs (sp CXO H2 (λv H3=>z0) λc _ H'=>∃C',VX c C'/\R σ C' H')),(by obtain⟨i,h1,h2,a,b⟩:=z0;rw[EF AM A8P A8Q a b]),∀i x ys H,cH->A94->AL1 (g x gL H) l h h m (c AM A92 m) (c AM ys h),(by rw[EZ us W U zu I.sqk m];rw[EZ ws B V zw I.sqk n]),(by rw[D1S];obtain⟨xs,j,l⟩:=A;rw[RV B p M z0 j];rw[AYC m n q r g];have G:=B.length;exact zA (I.ok.hd C) st zB (AZO N0 l G) λh' F=>DZ (B1L (BXL F) m n q r)),∀{P:AA}{vs:AN}{i:Nat}{m:BF},P.Nodup->OE P->A88->z0,z0 X rfl rfl rfl O i qK P σ3 B X.xe M (p w) z zA,eY WalksS A.in1 I fp wr G n P St,(by rw[LU];refine z0 (cZ f j);rw[SN x e i d j];rw[HG c d d];rw[BWY i]),(by rw[ZL e f (h q List.mem_cons_self)];rw[D3T];rw[KP (z0 qs zA (λr g=>h r BTK) BTE (by rw[A8E];show D5M;exact c1N a)) List.append_assoc];rw[ZI .cons (zB c (λz=>sK (List.nodup_append.mp b) _ z _ List.mem_cons_self rfl) (WR c1w) e f)]),(by refine Eq.trans ?_ (HT.clip_eq i n z0);simp only[sliceBounds,Option.getD_none,A5D D3E,if_true];exact b2b i n),(by have:L=a:=S5 d l e m λv=>BSB f n;rw[iF];rw[AU (i.trans o.symm) (j.trans p.symm) rfl]),(by rw[OX c d];rw[SO p xs rfl a b fs q];cases d;rcases a with a|a),(by .subst d;rw[B5G f];refine z0 (tupleKind_room_in1 j) (a1y I.hok i) hd dd ?_;rw[GJ q CYT Option.isSome_map q];rw[CZW q]),(by rw[D9J z0 zA zB];refine T5 zC r n zD ?_;rw[DA0 d Q m u];have O:pG σ1 (CTI c) (AHO Q):=DB1 P m j.trans u;refine BRM ((zE p).h qK _ _ _ N (O.held p) D68) D8R),(by .unfold a1E;refine pQ (BJW (BJW (pQ (ATY g))));generalize DB5=o;rcases o with _|⟨a,b,o⟩<;>rfl),AGA {s with heap:=h',gens:=g',drawn:=d',toks:=t'},∃v L z0 l,σ=[RQ,DX za,UO,DX n,L]/\zA/\BL/\AGN zB/\zC/\zD/\zN AYX l zE/\zF=l.length/\SA n (AV6 l),(TQ 0 z0 (y _ zA) BMT (AKX (by clear z l ex o e f v;congr 1;exact c7L h1 h2))),(by intro i s D C hi f E B hR),(by obtain⟨⟨a5,ah,hs,h1,h2,h3,h4,h5⟩,_,_,_⟩:=id O),(by rintro i σ H' hi ⟨z0,zA,zB,rfl,c1,c2,zC,zD,zE,P',o'⟩),(by rcases h with⟨h,rfl⟩|⟨z0,zA,zB,zC,rfl⟩<;>rcases g with⟨g,rfl⟩|⟨b,zD,zE,zF,rfl⟩),(by rw[EC (xL 1 c0B d) (λp c=>⟨_,rfl,p,z0,n,rfl,rfl,A2,AF,h1,?_,BS q H' s e⟩)]),(by rw[LU];rw[BSW (a2J I i j l ?_ k a)];exact z0 (D1G n m (iC f vs us Q c n m)) g b),DC ⟨m.toNat,WO (B45 m.toNat m),D7Q m.toNat,AE L3 z0,zA,rfl,GU L3 B7 zB,_,rfl,ED (TQ _ zC zD zE this)⟩,(by rw[pL _ _ z0];rw[AJX (sG slot_list_sort (MW f) entry_list_sort (a2n (s:=zA) f T2 hw zB λos j hs=>sW) args_list_sort)];obtain⟨c,zC⟩:=a2m (out:=os.toArray) f;rw[UQ (DJ zD)]),(by refine⟨_,rfl,_,rfl,z0,_,rfl,_,_,rfl,rfl,_,rfl,?_⟩;rw[AZ zA C1 (ZV zB zC zD (λH1 s1=>DJ zE))]),(by obtain⟨dx,n,r,s',c,q,us,e1,e2,z0,zA,zB,e6,e7,e8⟩:=hD.ex),(by obtain⟨a,p,ys,B,rfl,rfl,hs,z0,zA,zB,q⟩:=h;rw[HQ zC];rw[VA zD zE zF]),(by rw[AGW q p u g a q p];rw[AYC j l m n g];have a:z0:=a),(by rw[GJ d (z0 s2 BOI b.kIn (BPU hl)) List.append_nil d];rw[B26 (B5F (F.run X.A X.stack s2 H2 (MZ BOI) _ _ _ _ hr b.env0 d zA zB) g)]),∃o8 L R,σ=[RQ,CXX,B02,DS fi,CWQ,DS gi,DX p9,DX p11,o8]/\z0,(by rw[pO Q d];refine z0 (thn (AWN h pos d) λus s1 ⟨xs,H1,a,r,z,q⟩=>HJ (BUA z));have c:ALG s1.heap.objs.size:=CX7;refine GZ (AI s1.heap.objs.size) zA (a.laid (t':=s1.toks) (dM YZ) BV ?_) (q _ c)),(by obtain⟨z0,n,r,t,c,p,us,e,e1,e2,b,d,f,g,i⟩:=h.ex),(by rw[List.getElem?_set_ne (Ne.symm hj)]at e2;obtain⟨S,R,q⟩:=W j y T e1 e2 K;rw[OU S R]),HN (A5R (names.map λB0C=>if (k==NameKind.free && env.scope.kind==.function && D36==AO .cell)then(n,NameKind.cell)else B0C)) k,(by rintro i v ys H' hv ⟨h1,h2,P',o'⟩;rw[DC0 BS7 (f v H' _ P') z0]),(by intro i s xs O hi r y T d hR),(by .rw[RV d pl c z0 f];have a:=d.length;rw[A0F i g n hd zA];exact call_list_seq p zB i g hd (λh' c' kp e=>fin its d c h' c' kp e) (D9I c)),(by exact⟨_,_,qL,g,rfl,z0,zA,y,I,h1,h2,a0 g D3J zB,~~~c0u B,λm e=>by rw[B5E];rw[rY c2l]⟩),(by .rintro σ H' ⟨o,rfl,s',hB⟩;rw[cY GW hB];have:=k H' s';rw[AAC hB]),⟨_,rfl,p,C,dx,_,_,rfl,z0,U.cl,zA,rfl,_,rfl,zB,_,zC,zD,zE,rfl,zF,zG,zH⟩,(by .obtain⟨_,hd,z0,_,dd⟩:=zA;rw[FK dd.typeIs D46 hd];cases q;obtain⟨c,_,_,h1,h2,_⟩:=dd;rw[AU c h1 CWH]),∃f oc od sl kV dc pm an cd ct,z0,(by rw[IM (List.nodup_cons.mp e)];have c:=A7K;rw[KP (z0 a (b.erase x) h2 λy d=>fR List.mem_erase_of_ne (λz:y=x=>h1 (z ▸ d)) (h y (IS d))) (List.length_erase_of_mem c)];have:=List.length_pos_of_mem c;rw[KO List.length_cons]),(by refine⟨_,rfl,z0,_,rfl,zA,_,_,rfl,rfl,_,rfl,lN⟩),(by rw[ZL L C (R0 its r)];exact z0 N zA L (cJ (c7j I.hok (BTB C))) (by have:=r.length;simp;rw[ZI c0J O]) (~~~c1b S) λh' tk xs n l A=>step its r h' tk xs c C n l A),(by rw[AGW m l p c q m l];rw[AYC d f g j c]),∀(i:Nat) (v:V) (x:α) (H1:Hp) (e:VK),A88->OE as->KS->A9D (e (f x) H2)->te AJ9 H1 e,⟨_,rfl,_,rfl,1000000000000,rfl,FV,_,rfl,GS b c0A d,z0,13,zA,XA b,AH,zB,AMP⟩,(by obtain⟨x,ex,w⟩:=J4 r1 h1';obtain⟨y,q,z⟩:=J4 l f;exact t j x y ex q (YL (kJ (A.units+1) n) c1H g) w z),(by obtain⟨z,y,z0,r,g,es,ep,e,c⟩:=x;exact⟨z,y,zA,zB,g,es,ep,iT,c⟩),(by rw[OX m o];obtain⟨n,b,z,g,⟨a,c,rfl,rfl⟩,q⟩:=h;rw[gM m o];show KZ _ (richCompare z0 CM ZC);have key:zA X.A s CM ZC zB:=zC),(by rw[LU];refine thn (WA hi) λq s1 (gA y b n k)=>AAX e b k u p;rw[DC1 x m j];exact z0 f c g n λr d=>GZ (.bl zA) H2 d l),⟨_,rfl,p,C,dx,_,_,rfl,e1,U.cl,U.n2,rfl,_,rfl,r,z0,us,rss,xs,rfl,e3,e4,zA,BRL,zB,zC,λH1 s1=>sW⟩,(by rw[SO F W k g z0 c f];obtain⟨l,zA,k',i,j,a,d⟩:=h';rw[LN rfl (b2r g i)];exact S5 f d (c.symm.nodup g.nd.2) (a.symm.nodup g.nd.2) λv=>c.mem_iff.trans a.mem_iff.symm),(by obtain⟨σ3,a,g,k⟩:=e;obtain⟨j,i,l⟩:=o σ3 a k;rw[IO j i σ3 a g l]),⟨σ,H2,s2,p,C,H',B,a0,h1,b,h2,z0,zA,zB,zC,zD,zE,zF⟩,(by refine a0Z z0 TT zA zB λh1 h' os c tk k1 k2 e hp hs=>?_),(by clear D L X G1 P5;rintro σ H5 ⟨Y,R,rfl,D,P5,L,X,G1⟩),(by intro j h t p c u T y g n C),(by rw[kP];have q:=z0 c d;subst q;simp only[Nat.min_self,Bool.and_eq_true,beq_self_eq_true,and_true,List.all_eq_true,List.mem_range];intro j a;exact f j _ _ sV sV rfl),(by have f:CC ys ys[i]:=sV;rw[DI w e1 e2 c.get f];rw[AKU b];refine a4y e2 (BXP j a) ?_;rw[BST f hq]),(by obtain⟨a,y,us,rss,ys,rfl,ha,hI,hy,z0,hl2,hs,k⟩:=h),(by obtain⟨nt,p,ns,xs,rfl,hn,hp,hN,hl,hnl,z0,hwl,k⟩:=h),(by rw[CXK k l ra];rw[CXK i j rb];rw[fN f g List.nodup_cons.mp na];rw[fN c d List.nodup_cons.mp nb];have e:x=y:=z0),(by rw[uZ (∃(Y:V) (R:Sy),σ=[DX a0,RQ,A8N,DS sh,none,none,none,none,none,none,none]/\iQ l A9A/\QN/\S0.At H' v0/\R.At H' Y/\R.G) z0]),(by rw[B2Y];refine cZ f k;rw[SN x c j i k];obtain⟨a,e,⟨xs,g⟩,q⟩:=i;rw[DB];cases j;rw[RV n p m z0 g];rw[DCG zA zB c.kept (zC a _)]),(by rw[D6E kind_sorted plain_sorted entry_sorted args_sorted1];unfold Builtin.«sorted»;refine BS3 (checkCount "sorted" 1 1 _);rw[sM z0 (wpAny_newList ?_ AD)];have f:CQ (h1.push AVI).get? h1.objs.size AVI:=KF;have a:D6O BM8:=λb its (WS zA zB)=>WS (PQ zC) zD;have T2:=T.keeps a;have d:FP vs (L4 (h1.push AVI) v=L4 s.heap v):=λv zE=>zF),BC b0u ld a h0 s.heap z0 s.heap.objs.size D B38 rows y u hn (BSS (kJ (A.units+2) 10) c1q hu) D64 0 _ [] D22 (Nat.zero_le _),(by rw[A9E z 2 hz AXK];rw[A9E z 3 hz (AI TI)];rw[AJJ z0];rw[AFY (RH Builtin.SmallTypes.ownedTupleIsFree z)];rw[DCE hz];simp only[if_true];rw[PY wpAny_rule];rw[BKG hz (AI TO)];rw[AX (EB (AAF hz) h₁ hz₁ hs₁)];replace hz₁:B16 h₁:=hz₁;rw[QQ];simp only[List.zipIdx_cons,List.zipIdx_nil,List.forIn_cons,List.forIn_nil];rw[AX BVB];rw[BW6 zA]),(by rw[D1S];obtain⟨xs,x,j,l⟩:=A;rw[RV B p M z0 j];rw[DI u J N B.get l];rw[AYC m n q r g];refine EB (zA st zB (x:=u) (BQ J)) h' st' O;have D:B2H:=B1L (RX o f (AIZ O.2 b f e)) m n q r;rw[DBR];rw[NH u (DC8 UE x D N (DZ (λys L=>AE (zC L j) l)))]),(by rintro x c st' _ H ⟨rfl,l,o,rfl,f,r,g,m⟩;rw[BSR (o ≥ z0)]),(by obtain⟨dx,z0,r,s',c,q,us,e1,e2,e3,e4,e5,_⟩:=hD.ex;rw[iO zA]),(by rw[mW];rw[SO k p ys rfl hs j q];rw[VA o r.one o];rw[RV c d t I.sqk hs];rw[BVO m D35];refine z0 (N8 d ?_);refine⟨s.heap.objs.size,_,_,_,_,_,D0Z,rfl,BZ0 m (a3i d),a9M d,?_,EI h' tk n⟩),(by obtain⟨p,ra,ca,af,aw,b,L,F,W,rfl,D,k⟩:=h;rw[B5V z0 zA zB zC zD zE zR];rw[GL zF]),(by obtain⟨p,x,ws,os,ns,rss,ss,cs,ps,rfl,hD,hG,hL,k⟩:=h),(by obtain⟨it,fp,tn,J,H2,e,z0,T,zA,f2,W,⟨m0,w0⟩,turn⟩:=h2;rw[DB]),⟨z0,_,rfl,GE zA,rfl,_,_,rfl,_,_,rfl,_,zB,rfl,rfl,?_⟩,(by rw[tZ ⟨_,rfl,_,rfl,p,_,_,_,rfl,rfl,A8M,z0,_,rfl,nt,_,rfl,BU9,rfl,D3W,?_⟩]),∀(a:qB) (A:Around) (outer:JD) (s:qC) (H:Hp) (vs:A0) (Q:VK) (E:XK),BMG qual qZ z0,⟨ok.mod,ok.kind,ok.glob,ok.blt,ok.above,ok.inj,ok.has,ok.cab,ok.hd,ok.frames,ok.stk,ok.exf,ok.bs,ok.bsz,ok.noex,ok.exfs,ok.funs,ok.frf⟩,(by have ap:A0D A8D (a≠c/\IU c):=λc f=>⟨D0S m,D0S n⟩;have J:ZipApart z TI TO g j a b:=⟨D.TIz,D.TOz,D.i1z,D.i2z,D.TITO,D.TIi1,D.TIi2,D.TOi1,D.TOi2,D.i12,(CYJ).1,CWC TO,CWC g,(ap j AF).1,(CYJ).2,CWJ TO,CWJ g,AA4 ap AF⟩;obtain⟨ua,ub,p⟩:=st.to;have C:t7 z "zip":=MW st.zz;rw[AYB z0]),(by intro qK s σ H x v l m lo hi sl Q I j hs g i h),∃nm q N bs bm hdct sn sub ab col dd k0 k1 k2 k3 k5 qR,zI C D08/\BVD/\z0,∀(qK:DL) (s:qC) (σ:St) (H:Hp) (x:V) (xs:A0) (v:qB) (us:AN) (Q:VK),BRD ZK z0,(by rw[BYZ ⟨_,hi,p,dx,_,rfl,g1,bZ z0,p,ra,ca,af,aw,b,L,F,W,rfl,D,k⟩]),(by refine BYN;rw[List.map_cons,a2f];rw[XR CVH j];refine⟨_,rfl,p,C,dx,_,_,rfl,HR t,U.cl,z0,zA,tn,p1,zB,_,_,_,_,rfl,HR M,A2,zC,u,r,h1,h2,q,BYW e2 ((D.same s1).putK zD c rfl rfl rfl zE zF) (by rw[D3Q];unfold L5;simp)⟩),⟨rfl,_,rfl,p,C,dx,_,_,rfl,z0,U.cl,U.n2,rfl,_,rfl,r,z,us,rss,xs,rfl,zA,zB,zC,BRL,DBK,F,zD⟩]
local macro_rules|`(~~~$t)=>`(by exact $t)
noncomputable abbrev LLI:=List (List Int)
noncomputable section
inductive LqE where
 |v (i:Nat)|k (n:Nat)|a (x y:LqE)|s (x y:LqE)|m (n:Nat) (y:LqE)|t (y:LqE) (n:Nat)|n (x y:LqE)|x (x y:LqE)|c (x:LqE)|g (x:LqE)
inductive LqR where
 |r (z:Bool) (o:Nat) (x y:LqE)|no (f:LqR)|F
noncomputable def c6b{α:Type}(d:α)(l:wY α):VR α:=List.rec (D2 ((λ_:QY->QY=>d) λl=>l.mergeSort)) (λx _ f i=>Nat.rec x (λj _=>f j) i) l
noncomputable def L8(ns:QY)(e:LqE):Nat:=FG5 (c6b 0 ns i) n (F4S n) (λ_ n a=>a*n) (XD a b (min a b)) (XD a b (max a b)) DOI DOI e
noncomputable def a9E(ns:QY)(zs:DD)(e:LqE):Int:=FG5 (c6b 0 zs i) EV (F4S EV) (λ_ n a=>a*EV) ELY ELY (λx _=>EU sE) (λ_ a => - a) e
noncomputable def b7f(ns:QY)(zs:DD):SJ LqR
 |A6F true 0=>BB2<=C83
 |A6F true 1=>BB2<C83
 |.r true _ x y=>BB2=C83
 |DPI 0=>EBG
 |DPI 1=>EBJ
 |.r false _ x y=>F28
 |B8Y=>¬BDE
 |.F=>False
noncomputable def G8:DD->(IQ)->Int
 |[],_=>0
 |eE,ρ=>a*ρ 0+G8 l (λj=>ρ JL)
noncomputable def a4b:DD->DD->DD
 |[],m=>m
 |eE,[]=>eE
 |eE,b::m=>(a+b)::a4b l m
noncomputable def b1u(k:Int)(l:DD):DD:=l.map (k*·)
noncomputable def a1b(l m:DD):DD:=a4b l (b1u (-1) m)
noncomputable def c0t(j:Nat):DD:=List.replicate j 0++[1]
theorem S2:∀(l m:DD) (ρ:IQ),G8 (a4b l m) ρ=AJL+CHO
 |[],m,ρ=>(B9N Int.zero_add)
 |eE,[],ρ=>(B9N Int.add_zero)
 |eE,b::m,ρ=>by rw[a4b,G8,G8,G8,S2 l m,Int.add_mul];omega
theorem a0I(k:Int):∀(l:DD) (ρ:IQ),G8 (b1u k l) ρ=k*AJL
 |[],ρ=>(B9N Int.mul_zero)
 |eE,ρ=>by rw[b1u,List.map_cons,G8,G8,Int.mul_add,<-a0I k l,Int.mul_assoc];rfl
theorem I0(l m:DD)(ρ:IQ):G8 (a1b l m) ρ=AJL-CHO:=by rw[a1b,S2,a0I];omega
theorem a5j:A1V j ρ IQ (ES9 ρ=ρ j)
 |0,ρ=>y9 (1*ρ 0+0=_)
 |JL,ρ=>by show 0*ρ 0+ES9 _=_;rw[KO (a5j j)]
noncomputable def a3e(ns:QY)(zs:DD)(j:Nat):Int:=BLH (j=0) (if j % 2=1 then EU (c6b 0 ns (j / 2))else c6b 0 zs (j / 2-1))
noncomputable abbrev LqA:=wY (LLI×DD)
noncomputable def b3W(f:E9C)(p q:LqA):LqA:=p.flatMap λx=>q.flatMap λy=>zX f OQ y.2 λz=>(ET++dF++cS,z.2)
noncomputable def a8a(f:EB8)(p:LqA):LqA:=p.map λx=>(ET,f OQ)
noncomputable def a0j:EB5
 |AOG=>(DPU DUJ)
 |AAB=>DPV
 |AP4=>BY5 EJV
 |AP5=>BY5 [([uY],uY),([AB3],[])]
 |ASN=>E35
 |ASM=>E35
 |C4Q=>ERB p q
 |C4R=>ERB q p
 |.c _=>BB1
 |.g _=>BB1
noncomputable def a3g:EB5
 |AOG=>(DPU (2*i+2))
 |AAB=>DPV
 |AP4=>ENW EJV
 |AP5=>ENW (A6O uY)
 |ASN=>E36
 |ASM=>E36
 |DF2=>BB1
 |DF3=>BB1
 |.c x=>a0j x
 |.g x=>a8a (b1u (-1)) (a3g x)
noncomputable def a1O(ρ:IQ)(p:LqA)(i:Int):Prop:=∃x∈p,DF l ET B7K/\AKL OQ
theorem G3{ρ:IQ}{l:DD}{i:Int}(h:CB0):AMJ (A6O l) i:=(cM B75 ((BF1)) h)
theorem a1s{ρ:IQ}{f:EB8}{p:LqA}{i j:Int}(h:E25)(a:∀l,CB0->G8 (f l) ρ=j):a1O ρ (a8a f p) j :=
 let ⟨x,hx,h1,h2⟩:=h;(cM (wT x hx) h1 (a _ h2))
theorem a0i{ρ:IQ}{f:E9C}{p q:LqA}{i j k:Int}(h:E25)(h':a1O ρ q j)(g:∀l m,CB0->G8 m ρ=j->AMJ (f l m) k):AMJ (b3W f p q) k:=by
 rw[XG x n h1 h2];obtain⟨y,o,b,c⟩:=h';obtain⟨z,r,d,e⟩:=AJ g h2 c;refine⟨_,APG x n (APG y o (wT z r)),ZX l,e⟩;rw[CDF]
 .rw[CDF]
  .exact h1 l a
  .exact b l a
 .exact d l a
theorem a4a{ρ:IQ}{l m p q:DD}{i:Int}(h:(B7K/\AKL p)∨(0<=CHO/\AKL q)):AMJ [([l],p),([m],q)] i:=by
 rw[FBU]
 rw[F93 List.mem_cons_self]
 rw[F93 B7Z]
theorem T4(ns:QY)(zs:DD):∀e,a1O AE7 DEX (BG (L8 ns e))
 |AOG=>FEP AO3 (ALL i / 2)
 |AAB=>FAB
 |AP4=>(B1T T4 B0P E9T)
 |AP5=>(CPQ (_=EU EBE) (OJ=EU EBE))
 |ASN=>(ATK B0P EHJ)
 |ASM=>(ATK B0P EZN)
 |C4Q=>CPQ E3I E3I
 |C4R=>CPQ E3J E3J
 |.c _=>B74
 |.g _=>B74
theorem a1t(ns:QY)(zs:DD):∀e,a1O AE7 DEY (a9E ns zs e)
 |AOG=>FEP AA6 ((2*i+2) / 2-1)
 |AAB=>FAB
 |AP4=>(B1T a1t BAT E9T)
 |AP5=>(B1T a1t BAT (D8F I0))
 |ASN=>(ATK BAT EHJ)
 |ASM=>(ATK BAT EZN)
 |DF2=>B74
 |DF3=>B74
 |.c x=>AW0 T4
 |.g x=>ATK (AW0 a1t) (by rw[a0I,h];show _ = - BB2;omega)
noncomputable def d1q(z:Bool)(o:Nat)(p q:DD):AOI :=
 match z,o with
 |true,0=>[[AB3]]
 |true,1=>[[BES AB3]]
 |true,_=>[[AB3,uY]]
 |false,0=>[[BES uY]]
 |false,1=>[[uY]]
 |false,_=>[[BES AB3],[BES uY]]
noncomputable def c9A(z:Bool)(e:LqE):LqA:=if z then DEY else DEX
noncomputable def c6c(b:Bool):LqR->AOI
 |CIN=>C0P c9A z x λp=>C0P c9A z y λq=>FE (d1q b o HS CS) (p.1++q.1++·)
 |B8Y=>c6c (! b) f
 |.F=>if b then[] else[[]]
noncomputable def a5c(ρ:IQ)(c:LLI):Prop:=∀l∈c,B7K
noncomputable def c9x(ns:QY)(zs:DD)(z:Bool)(e:LqE):Int:=if z then a9E ns zs e else L8 ns e
noncomputable def c2K(o:Nat)(i j:Int):Prop:=match o with|0=>y7|1=>i<j|_=>i=j
theorem c2J{ns zs z o x y}:BOD CIN↔c2K o (CDL x) (CDL y):=by
 match z,o with
 |true,0=>rw[BZS]
 |true,1=>rw[BZS]
 |true,_+2=>rw[BZS]
 |false,0=>show EBG↔BG sE<=BG A77;omega
 |false,1=>show EBJ↔BG sE<DED;omega
 |false,_+2=>show F28↔BG sE=DED;omega
theorem a3Z{ρ:IQ}{l:DD}(h:B7K):BET [l]:=λx a=>AE uJ h
theorem a5k{ρ:IQ}(h:BG2):G8 [-1] ρ = -1:=by show -1*ρ 0+0 = -1;rw[h];rfl
theorem c6d{ρ:IQ}(h0:BG2){b:Bool}{o:Nat}{p q:DD}{i j:Int}(hp:AKL p)(d:G8 q ρ=j)(h:if b then EKS else ¬EKS):∃c∈d1q b o p q,a5c ρ c:=by
 match b,o,h with
 |true,0,h=>rw[AQ4 (a3Z (by have h:y7:=h;rw[KO I0]))]
 |true,1,h=>rw[AQ4 (a3Z (by have h:i<j:=h;rw[BYJ]))]
 |true,_+2,h =>
  have h:i=j:=h;rw[AQ4 (λl a=>by
   rw[oW]
   .rw[KO I0]
   .rw[WX uJ I0])]
 |false,0,h=>rw[AQ4 (a3Z (by have h:¬y7:=h;rw[BYJ]))]
 |false,1,h=>rw[AQ4 (a3Z (by have h:¬i<j:=h;rw[KO I0]))]
 |false,_+2,h =>
  have h:¬i=j:=h;rw[WZ z j]
  rw[EL9 List.mem_cons_self]
  rw[EL9 B7Z]
theorem b1x(ns:QY)(zs:DD)(z:Bool)(e:LqE):a1O AE7 (c9A z e) (CDL e):=by
 cases z
 .exact T4 ns zs e
 .exact a1t ns zs e
theorem a3f{ρ:IQ}{c d:LLI}(h:a5c ρ c)(h':a5c ρ d):BET (c++d):=λl a=>EP5 (h l) (h' l)
theorem a5i(ns:QY)(zs:DD):∀(b:Bool) (f:LqR),OK b BDE (¬BDE)->∃c∈c6c b f,a5c AE7 c
 |b,CIN,h=>by
  obtain⟨p,i,h1,h2⟩:=DYP x;obtain⟨q,j,a,d⟩:=DYP y;rw[ZL g e (c6d (b:=b) (o:=o) rfl h2 d (by rw[c2J]at h;exact h))];exact ES (APG p i (APG q j (wT c g))) (a3f (a3f h1 a) e)
 |true,B8Y,h=>a5i ns zs false f h
 |false,B8Y,h=>a5i ns zs true f (Classical.not_not.mp h)
 |true,.F,h=>h.elim
 |false,.F,_=>⟨[],B75,BF1⟩
noncomputable def c9z:AAA->LqR->AOI
 |[],g=>c6c false g
 |CCL,g=>C0P c6c true f λc=>zX c9z fs g (c++·)
noncomputable def b4C:DZU QY
 |0,P=>P []
 |CW,P=>FD1 Nat b4C
noncomputable def b4B:DZU DD
 |0,P=>P []
 |CW,P=>FD1 Int b4B
theorem c2N{P:SJ QY}(h:EC4):∀n,b4C n P
 |0=>h []
 |CW=>EFT c2N
theorem c2M{P:SJ DD}(h:EC4):∀n,b4B n P
 |0=>h []
 |CW=>EFT c2M
noncomputable def M0:Nat->Nat->wY LqE->AAA->EC1
 |0,c,_,rs=>(c,rs)
 |f+1,c,st,rs =>
  match A8B,st with
  |0,_=>(qS,rs)
  |1,st=>EYK C85
  |2,DOC=>EYK (n*28+C85)
  |3,jB=>kA AP4
  |4,jB=>kA AP5
  |5,y::DOC=>kA ASN
  |5,AAB::y::st=>kA ASM
  |6,jB=>kA C4Q
  |7,jB=>kA C4R
  |8,AVP=>kA (.c x)
  |9,AVP=>kA (.g x)
  |10,jB=>CC8 0
  |11,jB=>CC8 1
  |12,jB=>CC8 2
  |13,jB=>CC7 0
  |14,jB=>CC7 1
  |15,jB=>CC7 2
  |16,st=>(match rs with|BA2=>AYA (.no r) | []=>DN9)
  |17,st=>AYA .F
  |18,AVP=>kA (.a x (.k 1))
  |i+19,st=>kA AOG
  |_,_=>DN9
noncomputable def c7O(c:Nat):EC1:=M0 99 (EBZ qS D3N) [] []
noncomputable def c5X(c:Nat):AAA×LqR:=match (c7O c).2 with|g::fs=>(fs.reverse,g) | []=>([],.F)
noncomputable def c5Y(rows:LLI):Nat->Nat->DD->DD×Nat
 |0,c,s=>(s,c)
 |f+1,c,s=>if A8B=0 then(s,qS)else c5Y rows f qS (a4b s (rows.getD DFG []))
noncomputable def c9y:A69 DD
 |[]=>false
 |eE=>EG (a<0) && l.all (· == 0)
noncomputable def c5Z(b1t:LLI):AIU AOI Nat
 |[],_=>true
 |BA2,c=>let p:=c5Y (r++b1t) 99 c [];c9y (if A8B=0 then r.foldl a4b [] else CU) && c5Z b1t rs HS
noncomputable def b1t(n:Nat):LLI:=BN2 λi=>c0t DUJ
noncomputable def c7P(c:Nat):Bool:=c5Z (b1t DZ7) (c9z E5H E53) (c7O c).1
theorem c5W(ns:QY)(zs:DD)(n:Nat):a5c AE7 (b1t n):=λl a=>by
 rw[cX i AA3];rw[a5j,a3e,AA6,AO3];exact Int.natCast_nonneg _
theorem b5u{ρ:IQ}{rows:LLI}(h:BET rows):∀(f c:Nat) (s:DD),EWY->0<=G8 (c5Y rows f c s).1 ρ
 |0,_,_,hs=>hs
 |f+1,c,s,hs=>by
  rw[c5Y];split
  .exact hs
  .refine b5u h f _ _ ?_;rw[S2];rw[LV Int.add_nonneg hs];rw[List.getD_eq_getElem?_getD];cases e:rows[DFG]? with
   |none=>exact Int.le_refl 0
   |some l=>exact h l (List.mem_of_getElem? e)
theorem b5y{ρ:IQ}:∀(r:LLI),EI6->∀s,EWY->0<=G8 (r.foldl a4b s) ρ
 |[],_,_,h=>h
 |l::r,o,s,h=>b5y r (λx a=>o x fS) _ (AE S2 (Int.add_nonneg h (o l List.mem_cons_self)))
theorem c2L:∀(l:DD) (ρ:IQ),EO l.all ((· == 0))->G8 l ρ=0
 |[],_,_=>rfl
 |eE,ρ,h=>by
  rw[List.all_cons,Bool.and_eq_true,beq_iff_eq]at h;rw[G8,CB,EXI,Int.zero_mul];rfl
theorem c6a{ρ:IQ}(h0:BG2):∀l,EO c9y l->AJL<0
 |[],h=>yY
 |eE,h=>by
  rw[c9y,Bool.and_eq_true,decide_eq_true_eq]at h;rw[G8,h0,EXI];omega
theorem b5x{ρ:IQ}(h0:BG2){b1t:LLI}(b:BET b1t):∀(ls:AOI) (c:Nat),AY (c5Z b1t ls c)->qV ls (¬EI6)
 |BA2,c,h,x,a,o=>by
  rw[c5Z,Bool.and_eq_true]at h;rw[oW]
  .have h1:=c6a h0 _ CB;split at h1
   .rw[KR (b5y _ o [] (Int.le_refl 0))]
   .rw[KR (b5u (a3f o b) 99 c [] (Int.le_refl 0))]
  .exact b5x h0 b rs _ DK x a o
noncomputable def c4f(c:Nat)(ns:QY)(zs:DD):EL AAA LqR
 |[],g=>∀(_:EEY:=by rw[RC]),BOD g
 |CCL,g=>BDE->EU4
noncomputable def d1B(c:Nat):Prop:=b4C DZ7 λns=>b4B (EBZ 0 C85) λzs=>c4f c ns zs E5H E53
theorem b1w(c:Nat)(ns:QY)(zs:DD):∀(fs:AAA) (g:LqR),(EEY->∀l∈c9z fs g,¬a5c AE7 l)->EU4
 |[],g,h=>λe=>Classical.byContradiction λn=>let ⟨l,hl,o⟩:=a5i ns zs false g n;h e l hl o
 |CCL,g,h=>λa=>let ⟨l,hl,o⟩:=a5i ns zs true f a
  b1w c ns zs fs g λe d hd o'=>h e _ (APG l hl (wT d hd)) (a3f o o')
theorem lq(c:Nat):d1B c :=
 c2N (λa=>c2M (λzs=>b1w c a zs _ _ λh=>b5x rfl (c5W a zs _) _ _ h) _) _
noncomputable def d1p:=A1 0x8684bb0636922db39563722fa610b2c42deee882325fde598703a356224e39f8055f80da782c0d7
noncomputable def b1v:=A1 0xa4ba10f8b9aaa23fe6745df3696
noncomputable def c7N:=A1 0x1dadce3b96adde22b20d5aecdd7fb9d583acac808b8357
noncomputable def a8b:=A1 0x7b1059a48b54dd5c1017
noncomputable def c2g:=A1 0x40c03c4e71f96fe215312af5b915bbd6
noncomputable def c7M:=A1 0x1165b1b3ce034b06367ef41c7896aedeb826db0b5a84e01b6d7
noncomputable def a0W:=A1 143959432150
noncomputable def c7L:=A1 0x142fcd33c82b7d025b28e69ffdb926a9ec46219f34927368264b6fec1e3085d7
noncomputable def O1:=A1 144439500438
noncomputable def c1A:=A1 0x9f9415d05e925b361387d0d957
noncomputable def c1u:=A1 0x4651e1a7f355be02396
noncomputable def c7K:=A1 0x394440f4347860aa68ed90083da16c6c8c125
noncomputable def c7J:=A1 0x39284eb56472d89d7
noncomputable def a0V:=A1 0x69c5bc76984c8a6865
noncomputable def c7I:=A1 0x82909b1bf94efd60bce181690b8db1a
noncomputable def c7H:=A1 0x8cf0de420ea427dbcfbe9eea359306f49a480092148447f68
noncomputable def c7G:=A1 0xa271fecaa534fa5b9e6f50e12e87ae18
noncomputable def c7F:=A1 0x2a496af476bacbb87d8aaea98e9bd7
noncomputable def c7E:=A1 0x2411bd36af6a4c89b31f33196
noncomputable def c0M:=A1 0xbc72b1b9c00ace46cb5996
noncomputable def c0z:=A1 0x20a633adcd393317
noncomputable def c7D:=A1 0x4e93565b5d5f2a451ce51cf413170126c9af02cc397
noncomputable def c0u:=A1 84022310212842263
noncomputable def b5w:=A1 0x35c99e4ab265aeecc3a202bd6
noncomputable def c7C:=A1 0x7c2d8ee31be32e932d97
noncomputable def c7B:=A1 0x7c2d84eaf7022fc3b636
noncomputable def b5v:=A1 0x5a83856bc27217
noncomputable def c7A:=A1 0x5e20d502b831f110f5b5355e96
noncomputable def b3V:=A1 0x178e21287eab2fe27a4fa17
noncomputable def a6w:=A1 4030852203478
noncomputable def c2I:=A1 0x7c24648964ffd8aff7ff870056
noncomputable def c2H:=A1 0x47be9ef104752405c3e57d44ec8d5c03c7a8ad0709569a12a46d80e5
noncomputable def c2G:=A1 0x34707e139947367d237
noncomputable def N0:=A1 0x172b971a68aea17d7
noncomputable def c2F:=A1 0x356a0bc591c1eb8f002acb4775b756
noncomputable def c2E:=A1 0xd3d8b0281923d3aaf6c56
noncomputable def a9D:=A1 0xa09421c7e155bf06b85d6
noncomputable def b3U:=A1 0x145201e96cf31d3fc0d7d8
noncomputable def c2D:=A1 0x366b99578181ec4039d5f40d6
noncomputable def c2C:=A1 0x3f1f0b1fb2fa055ac16d2cb17d
noncomputable def b3T:=A1 0x1e4f6aa80f23844bc76142f20ae18
noncomputable def c2B:=A1 0x7a12c98bd94c4b1d37eb07fcc72267
noncomputable def a2I:=A1 5175046550
noncomputable def a1r:=A1 1147073325638
noncomputable def a0H:=A1 0x2289b5b3c93a8b65
noncomputable def c2A:=A1 0x9c8e19205e9fe97
noncomputable def a9C:=A1 0x6baf40fc6e45beee945d6
noncomputable def c2z:=A1 0xd6d31091ff5bea844357
noncomputable def a6v:=A1 0xbc72b1b687f8bfdcaa64d6
noncomputable def c2y:=A1 0x790e0edda45b5c900756
noncomputable def c2x:=A1 0x1d8dc0517c7b2c43d6e3d57
noncomputable def b3S:=A1 0x482873c8beffed6a3bacf50d7
noncomputable def a9B:=A1 0x9e70310ce195236
noncomputable def a3Y:=A1 144900688438
noncomputable def b3R:=A1 0x9e5f5b26f203217
noncomputable def c2w:=A1 27169787094
noncomputable def a3X:=A1 0x839a5686ce36
noncomputable def a9A:=A1 0x366b6479d44cdfc1cb3661236
noncomputable def b3Q:=A1 0x70f77092e797
noncomputable def c2v:=A1 0x2260e846e79fb701c9bd2f752239
noncomputable def c2u:=A1 0x2260e846e78cae5237ba47752239
noncomputable def a9z:=A1 144888813974
noncomputable def a6u:=A1 0x5bc25c72379eb64cabd6
noncomputable def b3P:=A1 0x346f0d4f75f31a9ec5d
noncomputable def c2t:=A1 755788541398
noncomputable def c2s:=A1 0x141265e731a4c9e605a357
noncomputable def c2r:=A1 0x424b2ebcea1c84998
noncomputable def a6t:=A1 0x25d7e66cf7d551d8
noncomputable def a6s:=A1 0x675856bd81d7
noncomputable def c2q:=A1 0xe7ecd3ec51a8e
noncomputable def a0G:=A1 769325994333
noncomputable def c2p:=A1 0x79aef5b07dd6
noncomputable def b3O:=A1 0x110182f857a19eb4346957
noncomputable def c2o:=A1 0xcef898c40917cea9d7d514f2a536f8595658182a8768
noncomputable def b3N:=A1 0x9c8e1800dfc2125
noncomputable def b3M:=A1 0xb4da95e581797
noncomputable def b3L:=A1 0x482873c8becb23062183f7e6e
noncomputable def b3K:=A1 0x89ad3f90066d
noncomputable def c2n:=A1 0x7f7eb796fb65
noncomputable def c2m:=A1 0x74bcaf091dd6
noncomputable def c2l:=A1 0x18c7ff9581b164a5c0b58
noncomputable def c2k:=A1 0x46f57eb49b9d0268a6e
noncomputable def c2j:=A1 0x5f3c4c5922a36d32d16d2cae6d
noncomputable def c2i:=A1 0x346f104144506f0a0d6
noncomputable def c2h:=A1 0x6baf40fa964e95ccdbbd6
noncomputable def b3J:=A1 0x182b90fcef282f9b4a75c027080e6
noncomputable def c2f:=A1 84053650568336151
noncomputable def c2e:=A1 0x66a26de2f2ac59a147b28b39
noncomputable def a9y:=A1 0xaa9e3788a11d7
noncomputable def c2d:=A1 0xd9611f237c5abf9861b18
noncomputable def c2c:=A1 0x107789e8c0bdaed6
noncomputable def b3I:=A1 0x14be69a978ba0e7fb103aae0ede
noncomputable def b3H:=A1 0x4217822c9d2a3f237
noncomputable def c2b:=A1 0x3ca76c7930e00ad98
noncomputable def c2a:=A1 0x9e702b8f4116236
noncomputable def b3G:=A1 0x1df6526e7032b02996
noncomputable def c1Z:=A1 0x346f0d4f75f31a08e6d
noncomputable def a6r:=A1 0x172b97b4569533d57
noncomputable def c1Y:=A1 0x44e9554cb418534f355cb7500b15be164b1d5abf11f17d70
noncomputable def c1X:=A1 0x1e89567ef79c52acf6ec0e7119239
noncomputable def R5:=A1 0x172d6f1d49958d957
noncomputable def b3F:=A1 4435037299254
noncomputable def c1W:=A1 0x5a894099a5cf96
noncomputable def c1V:=A1 0x293bb6fa4570ef6165c82a36
noncomputable def a6q:=A1 157452382614
noncomputable def c1U:=A1 144901260758
noncomputable def a2H:=A1 769280510573
noncomputable def a1q:=A1 0x25d403fe3fab12a6
noncomputable def a9x:=A1 0x800e5f2d166d
noncomputable def c1T:=A1 0xca63c6d13e45b6b12a6
noncomputable def c1S:=A1 0x3d88b76bacba23f5bbd6
noncomputable def c1R:=A1 0x44e9554cb418534f367f83935c47365682395abf11f17d70
noncomputable def c1Q:=A1 0x6352ccff9b65
noncomputable def c1P:=A1 0xb513880cd1997
noncomputable def c1O:=A1 0x13c5d0795e2eba0dc8226
noncomputable def a3W:=A1 0xb7c2afa073acae36
noncomputable def b3E:=A1 0x1ebc78b08b20a222183f817e
noncomputable def b3D:=A1 0x16f807a4ef7ff25d7
noncomputable def b3C:=A1 0x714920dbe8d7
noncomputable def c1N:=A1 0x245826cd69ebe073d9e4319c95d6
noncomputable def a2G:=A1 158394231606
noncomputable def c1M:=A1 206570917141
noncomputable def b3B:=A1 0x288f8178d1cb167d57
noncomputable def b3A:=A1 0x25c44a62a2f391d7
noncomputable def c1L:=A1 0x236354bf47898caaae0ede
noncomputable def c1K:=A1 0x178fd825f76589bc673f558
noncomputable def a9w:=A1 0x16b5b582023af60fd5e3aa312a7
noncomputable def c1J:=A1 0x70f7709291d7
noncomputable def b3z:=A1 0x6c602aea18de2c7abaae0ede
noncomputable def c1I:=A1 0xbfb09e935c0822f66ceabefd99
noncomputable def c1H:=A1 0x25e1be12b2e825d7
noncomputable def c1G:=A1 0x236354650b65a90eae0ede
noncomputable def a9v:=A1 0xb208e33320b65
noncomputable def c1F:=A1 0x20a93efbe3153317
noncomputable def c1E:=A1 5190294630258
noncomputable def b3y:=A1 27474311005
noncomputable def W5:=A1 0x6cb97565e8327e160fbc80e6
noncomputable def b3x:=A1 0x238079d3484c5f55c1de26
noncomputable def c1D:=A1 0x172b971a68aea6d97
noncomputable def c1C:=A1 0x293bb7095db0e1eb3b119238
noncomputable def a6p:=A1 21542665123925
noncomputable def b3w:=A1 0x6cb974c83285df0e7ddc80e6
noncomputable def a9u:=A1 5029156809686
noncomputable def c1B:=A1 0x172d6e8e249bbe357
noncomputable def c1z:=A1 4435082775958
noncomputable def c1y:=A1 0x6c6029db6472804735f17d6e
noncomputable def c1x:=A1 899312715515734
noncomputable def b3v:=A1 158393616950
noncomputable def c1w:=A1 0x182b90fcef282f641173ae59c95d6
noncomputable def c1v:=A1 0x14be69751e0aff9ad45d6ae0ede
noncomputable def b3u:=A1 32118344927062
noncomputable def c1t:=A1 0x6c602133597d1d8311f17d6e
noncomputable def b3t:=A1 0x238079d3484c5f55bd8366
noncomputable def c1s:=A1 0x6c60235c09d8f0fe16ae0ede
noncomputable def b3s:=A1 0x172b97b9735581397
noncomputable def c1r:=A1 0x6c80d3603b5ffd8db6f080e6
noncomputable def c1q:=A1 0xca65c96b0ddc318fb26
noncomputable def c1p:=A1 144439478486
noncomputable def c1o:=A1 0xb985cdd2ad21fbb63a7
noncomputable def c1n:=A1 0x9eda9cec3cd6
noncomputable def c1m:=A1 84052912174707479
noncomputable def a9t:=A1 7171781
noncomputable def c1l:=A1 0x67725e0ff625
noncomputable def c1k:=A1 0xd9612a41daf4ddc5bf372
noncomputable def c1j:=A1 6557125
noncomputable def c1i:=A1 0x20a77db3edc369d6
noncomputable def c1h:=A1 0x46fb2449b0f43d55ed7
noncomputable def a3V:=A1 97357957335552678
noncomputable def c1g:=A1 0x7e46e08c9086f2dfd2b1f17d6e
noncomputable def b3r:=A1 0x16f80705e67efa1d7
noncomputable def c1f:=A1 0x229ab7556ac4cfc74bb6a5
noncomputable def a9s:=A1 0x299847962acf9af35c3e6456
noncomputable def c1e:=A1 0x6421a1d3a90ced34e5
noncomputable def c1d:=A1 0x714920dc3e97
noncomputable def a3U:=A1 769379053605
noncomputable def c1c:=A1 0x46f5808b701f8d3e85e
noncomputable def c1b:=A1 0x73a90811be779b12a6
noncomputable def b3q:=A1 0x20b2ce15d36a2125
noncomputable def c1a:=A1 5406958829974
noncomputable def a1p:=A1 0x2289b5b3c93a35a5
noncomputable def b3p:=A1 0x696e11a66fe76e0edd
noncomputable def b3o:=A1 0x2289b5b3c93ae125
noncomputable def c0Z:=A1 0xecea926b025ad016865
noncomputable def c0Y:=A1 0xe679fb2f18e36
noncomputable def a2F:=A1 0xebc0913cf6236
noncomputable def c0X:=A1 0x89ad3f99645d
noncomputable def c0W:=A1 221527175382
noncomputable def c0V:=A1 0x2d58e6067b736e696480e5
noncomputable def c0U:=A1 0x226c080b3c6523cd
noncomputable def c0T:=A1 603129183358885
noncomputable def c0S:=A1 0xf41b82e06874b6d3252
noncomputable def a9r:=A1 0x69679fa3dfa56e0edd
noncomputable def c0R:=A1 0x697483a900296e0edd
noncomputable def c0Q:=A1 0x69679fa3debf76a0ad
noncomputable def c0P:=A1 0x14be665c1cb8a64a2d86eae0ede
noncomputable def b3n:=A1 0x226afaa78d5523cd
noncomputable def c0O:=A1 32496130329686
noncomputable def c0N:=A1 769297720157
noncomputable def c0L:=A1 0x696ad8a3c841b17d6d
noncomputable def c0K:=A1 234949
noncomputable def c0J:=A1 0x1861d376767851fc6bb20b46480e6
noncomputable def c0I:=A1 0x839a558087f6
noncomputable def c0H:=A1 0x143ed912b3244b604ace5
noncomputable def b3m:=A1 0x696ad8a527c66e0edd
noncomputable def c0G:=A1 0x6977bcaa484a6e0edd
noncomputable def c0F:=A1 10091397
noncomputable def c0E:=A1 0x6901786fb26ce6d
noncomputable def c0D:=A1 0xe0b2e442e8c16
noncomputable def c0C:=A1 0x4c8dc09a5e8216865
noncomputable def b3l:=A1 0x20008c7bf484f1a4ff9a0c140a24edf02d25
noncomputable def c0B:=A1 0x226afaa958500dad
noncomputable def c0A:=A1 0x698e4bb341316e0edd
noncomputable def b3k:=A1 174587420
noncomputable def a9q:=A1 176433740
noncomputable def a6o:=A1 176429820
noncomputable def c0y:=A1 176430604
noncomputable def a9p:=A1 175202860
noncomputable def a2E:=A1 173971980
noncomputable def c0x:=A1 175818300
noncomputable def b3j:=A1 0x25a7241abb8523cd
noncomputable def a9o:=A1 174585068
noncomputable def c0w:=A1 177049180
noncomputable def c0v:=A1 175201292
noncomputable abbrev qA:=@List
noncomputable abbrev qB:=@PySem.Value
noncomputable abbrev qC:=@PySem.Shared
noncomputable abbrev qD:=@Option
noncomputable abbrev qE:=@PySem.Addr
noncomputable abbrev qF:=@PySem.W.Frag
noncomputable abbrev qG:=@PySem.Program
noncomputable abbrev qH:=EL PySem.Value PySem.Shared
noncomputable abbrev qI:=DD
noncomputable abbrev qJ:=Option Nat
local macro_rules|`(def $i:declId $b*:$t $v:declVal)=>`(theorem $i:declId $b*:$t $v:declVal)
noncomputable def L2.nd(l:qA PySem.Str)(h:l.Nodup:=by rw[RC]):l.Nodup:=h
namespace L2
open PySem PySem.Spec PyProof.Rows
variable {A:Around}{C a b dx:qE}{E Q:qH}{K:qF}{M:Model}{P:qG}{base h h':Heap}{body:ML}{c e l tg:Expr}{ch fp:EW}{es:BT}{f:ES7}{fd:FuncData}{i k n t':Nat}{kw:uN}{mA mg:BF}{op:CmpOp}{qK:DL}{pl:w6}{pos:Pos}{ps:AA}{s:qC}{u:qB}{us:AN}{w:World}{x:Str}
noncomputable abbrev Key:=Sum Int Str
noncomputable def a8d:AIU Key qB
 |C26,v=>Value.isInt k v
 |B7H,v=>DEO v
noncomputable def d1O(w:World):Key->Int
 |C26=>hashInt k
 |B7H=>hashStr w x
def F7:∀{k:Key}{v:qB},AWR a8d k->(∃i t,k=Sum.inl i/\v=AAO)∨(∃x t,k=Sum.inr x/\v=BAR)
 |ED i,v,h=>by
  rw[OY t (Value.isInt_shape (k:=i) (v:=v) h)];rw[A9U (JZ i t e)]
 |B7H,v,h=>by
  rw[OY t (Value.isStrOf_shape (x:=x) (v:=v) h)];rw[A18 (JZ x t e)]
def b7j(i:Int)(t:Tok):EWH a8d:=tX a8d Value.isInt
def b7i(x:Str)(t:Tok):EWI a8d:=tX a8d Value.isStrOf
def c9H(a b:Int):B4W E82 a b:=by
 rw[FO a b]
 rw[C32]
 .have h:¬E82:=λq=>e (Sum.inl.inj q);rw[B2I];exact bS beq_eq_false_iff_ne.mpr e
def c9E(a b:Str):aB (EG E83) iR:=by
 rw[FO a b]
 rw[C32]
 .have h:¬E83:=λq=>e (Sum.inr.inj q);rw[B2I,ANW]
def c9G(a:Int)(b:Str):ZS (D5Q Sum.inr):=DQK
def c9F(a:Str)(b:Int):ZS (D5R Sum.inl):=DQK
noncomputable def D9(prog:qG)(w:World):AGV PySem.KeyKind Key where
 is:=a8d
 hash:=d1O w
 inj:=λv a b ha hb=>by
  rw[FB4 ha]
  .rw[FJ1]
   rw[E7J]
   .exact A9N
  .rw[FJ1]
   .exact A9N
   rw[E7J]
 byValue:=λk v h=>by
  rcases F7 h with⟨i,t,rfl,rfl⟩|⟨x,t,rfl,rfl⟩<;>rfl
 pyHash:=λhv h=>by
  rw[AJM (F7 hv) i t rfl x t rfl]
  .exact wpAny_pyHash_int h
  .exact wpAny_pyHash_str h
 eqBool:=λhu hv h=>by
  rw[FB4 hu]
  .rw[FCB]
   .rw[B8V c9H wpAny_eqBool_int]
   .rw[c9G]at h;exact TV (SeqAt.EqAt.int_str i t y u) h
  .rw[FCB]
   .rw[c9F]at h;exact TV (SeqAt.EqAt.str_int x t j u) h
   .rw[B8V c9E wpAny_eqBool_str]
 «strs»:=λk x t v h=>by
  rw[AJM (F7 h) i u e y u e]
  .exact A9N
  .rw[AHD e _]
   subst e1;cases v<;>rfl
def b1o(prog:qG)(w:World)(i:Int)(t:Tok):EWH E7S:=b7j i t
def b1n(prog:qG)(w:World)(x:Str)(t:Tok):EWI E7S:=b7i x t
inductive V where
 |non|bl (b:Bool)|int (i:Int)|str (x:Str)|byt (b:DF9)|flt (b:UInt64)|ref (a:qE)|ty (n:String)
 deriving DecidableEq
variable {v:V}{vs xs:A0}
noncomputable def RelV:E4X
 |.non,u=>CDX
 |dX,u=>B90 b
 |dW,u=>AVS AAO
 |VH,u=>AVS BAR
 |.byt b,u=>DPH Value.bytes
 |.flt b,u=>DPH Value.float
 |CM,u=>AUN
 |.ty n,u=>EH1
noncomputable abbrev Vals:EL A0 AN:=Paired RelV
def Vals.length{xs:A0}{us:AN}(r:ZK):xY us.length:=C4A
def Vals.get:∀{xs:A0}{us:AN}{i:Nat}{x:V},ZK->cH->∃u,CC us u/\dN
 |_,_,_,_,.nil,e=>BUK
 |_,_,0,_,AI6 _,e=>by simp at e;rw[DB];exact DJ r
 |_,_,AM,x,BEW,e=>by
  rw[IJ u h1 h2 (BC Vals.get i i x x t DGG) u A8P h2]
def Vals.set{x:V}{u:qB}(r:dN):BZ1 i (PZ (xs.set i x) (us.set i u))
 |_,_,_,.nil=>.nil
 |_,_,0,BEW=>AR9
 |_,_,AM,.cons q t=>.cons q (Vals.set r i t)
def Vals.append{ys:A0}{a:AN}(h:ZK)(s:BO8 a):PZ B4U (us++a):=by
 induction h with
 |nil=>exact s
 |cons r t b=>exact .cons r b
def Vals.take:ERK xs.take us.take
 |_,_,0,_=>.nil
 |_,_,_+1,.nil=>.nil
 |_,_,CW,AR9=>AI6 (Vals.take n t)
def Vals.drop:ERK xs.drop us.drop
 |_,_,0,r=>r
 |_,_,_+1,.nil=>.nil
 |_,_,CW,BEW=>Vals.drop n t
noncomputable def RelO:EL aJ TR
 |UO,C11=>PK
 |none,none=>True
 |_,_=>False
noncomputable def KV{κ:Type}:EL LJ A3D:=Paired λ(p:CE0) (q:κ×qB)=>CU=CZ/\EIW
noncomputable def kV:Key->V
 |ED i=>dW
 |B7H=>VH
inductive HO where
 |lst (xs:A0)
 |tup (xs:A0)
 |dK (qL:MQ)|dT (qL:aO)
 |set (S:DOZ) (n:Nat)
 |ins (C dx:qE) (fs:QW)
 |own (x:qE)
 |xd (fs:QW)
 |met (f x:qE)
 |rng (lo hi:Int)
 |frz (o:Obj) (u:HO)
 |tbl (ps:CO)
 |ext (φ:SJ Heap)
variable {o:HO}
noncomputable abbrev Hp:=qE->qD HO
variable {H H':Hp}
noncomputable def upd(H:Hp)(a:qE)(o:HO):Hp:=λb=>AL6 (b=a) o (H b)
def A2:IH H a o a o:=B60 upd EK
def A6(h:C2Y):upd H a o b=H b:=B60 upd oJ
def a2U{u:HO}:upd ACT a u=A2O u:=by
 funext b;unfold upd;split<;>rfl
def F6{u:HO}(h:B9O)(h':C4L)(d:o≠u):AQR:=by
 intro e;rw[DB];rw[h]at h';exact d (Option.some.inj h')
def A8(h:B9O)(h':MB):AQR:=by
 intro e;rw[DB];rw[AW h h' h']
noncomputable def IsTp(h:Heap)(a:qE)(items:CO):Prop:=∃o:Obj,uW/\(o.cls,o.dict)=(gJ,none)/\∃n,o.data=CSN
def IsTp.tup{items:CO}(x:IsTp h a items):IsTup h a items:=let ⟨o,e,c,d⟩:=x;⟨o,e,AM4 c,d⟩
def IsTp.new(h:Heap)(items:CO):IsTp (h.push (sF items)) h.objs.size items:=EM2
section
variable (P:qG)(w:World)
noncomputable def ObjOk(H:Hp)(h:Heap)(a:qE):SJ HO
 |B2E=>ZR/\CNT (uD/\ZY AKP)
 |B7T=>ZR/\∃its:AN,uD/\IsTp h a its.toArray
 |BC0=>CLC
 |BC1=>BRN A93 (∃xs:ARD,
   Paired (λ(p:YT×V) (q:DA2)=>CM6 EF5) qL xs /\
   ∃o es ep,uW/\o.ExactDict/\o.data=AS6/\EDE (entryOfKey (tupleKind A86))/\BCN)
 |EFQ=>h.SetOf DIQ a S n
 |lM=>E1I/\DH4/\dx≠a/\ZY CB1 /\
   ∃mA,CLW/\(CNR)/\E99
 |.own _=>∃o,uW
 |.xd fs=>∃mA,h.Ns1 a mA/\CNR
 |.rng lo hi=>∃t u v,ZY BPC
 |B12=>uW/\ObjOk H h a u
 |.tbl ps=>DOL
 |.met f x=>ZY (CEK AZU)
 |.ext φ=>φ h/\(∃o,uW)/\∀h1 h2:Heap,φ h1->(∀o,A5K h1.get?->A5K h2.get?)->φ h2
noncomputable def HOk(H:Hp)(h:Heap):Prop:=∀a o,B9O->BCW
#where
def ObjOk.lt(x:BCW):BAV:=by
 cases o with
 |lst xs=>rw[ECI];rw[jM]
 |tup xs=>rw[C00 p];exact p.tup.lt
 |dK qL=>rw[BGR];rw[jM]
 |dT qL=>rw[BGR];rw[jM]
 |set S n=>rw[EVK];rw[jM]
 |ins C dx fs=>rw[ECJ];rw[jM]
 |own y=>obtain⟨_,e⟩:=x;rw[jM]
 |xd fs=>rw[ECK];rw[jM]
 |rng lo hi=>rw[C00 e];rw[jM]
 |frz ob u=>obtain⟨e,_⟩:=x;rw[jM]
 |tbl ps=>rw[F52]
 |met f y=>rw[F52]
 |ext φ=>obtain⟨_,⟨_,e⟩,_⟩:=x;rw[jM]
def Paired.mapP{α β:Type}{F G:EL α β}{l₁:CJ}{l₂:ABK}(h:Paired F l₁ l₂)(f:∀a b,F a b->G a b):Paired G l₁ l₂:=by
 induction h with
 |nil=>rw[A0E]
 |cons r t c=>exact .cons (AG f r) c
def ObjOk.stay(x:BCW)(k:BXV ((b=a∨E1H)) h.get?)
  (i:∀b,E1H->A4O b .own a) (j:CNP):BH4 H' a o:=by
 induction o with
 |lst xs=>rw[BHT x];rw[EF z its n r iT]
 |tup xs=>obtain⟨z,its,r,g,e,c⟩:=x;rw[IO z its r g iT c]
 |dK qL=>rw[FLL vs vs r]
 |dT qL =>
  rw[FLL xs xs (F7S p q (B6W z.2.1))]
 |set S n=>obtain⟨g,es,ep,t,e,c⟩:=x;rw[IO g es ep t iT c]
 |ins C dx fs =>
  obtain⟨d,z,ne,e,mA,⟨od,es,ep,e2,c⟩,r⟩:=x;exact⟨i _ d,z,ne,iT,mA,F6Y (AJ k (DC d) e2),r⟩
 |own y=>rw[OY g x];rw[AQ g iT]
 |xd fs=>obtain⟨mA,⟨od,es,ep,e,c⟩,r⟩:=x;rw[AU mA (F6Y iT) r]
 |rng lo hi=>obtain⟨t,u,v,e⟩:=x;rw[BW t u v iT]
 |frz g u l=>rw[SK e x];rw[AQ iT (l q)]
 |tbl ps =>
  rw[F8U DOL D7C]
 |met f y =>
  rw[F8U (ZY (CEK (AI y))) (CEK (AI y))]
 |ext φ=>obtain⟨p,⟨o,e⟩,st⟩:=x;rw[AU (AG st p λo q=>AJ k OP q) (sT iT) st]
def HOk.lt(x:VM)(e:B9O):BAV:=(x a o e).lt
def HOk.fresh(x:VM)(e:C6L):A2C:=by
 cases q:H a with
 |none=>rfl
 |some u=>rw[DT (BJD x.lt q e) nR]
def HOk.kept(x:VM)(k:BDH):xP H h':=λa o e =>
 AQC ((x a o e).stay (AR1 _ BGI) BF0)
def HOk.laid(x:VM)(k:BDH)(hp:C6L)(new:BH4 ACT a o):xP ACT h':=dM (by
 have f:=x.fresh hp;rw[BI d b a]
 .subst d;rw[GM A2];exact new
 .rw[A6 d]at e;exact(x b u e).stay (λc v _ q=>k c v q) (λc q=>BAY f) λc xs q=>BAY f)
noncomputable def Rd(H:Hp)(a:qE)(u:HO):Prop:=ZA u∨∃o,ZA B12
def Rd.ok{u:HO}(r:CHS)(x:VM):AZL u:=by
 rcases r with r|⟨o,r⟩
 .exact x a u r
 .obtain⟨_,q⟩:=x a _ r;exact q
noncomputable def Mut:SJ (qD HO)
 |ANC .lst=>True
 |ANC .dK=>True
 |ANC .dT=>True
 |AO (BZ .set)=>True
 |AO (gH .ins)=>True
 |ANC .ext=>True
 |_=>False
section
variable {x e:qE}{o':HO}
def HOk.write(ok:VM)(j:CHP)(m:CLN)(k:E95)(l:CN6)
  (new:BH4 E5W x o'):xP E5W h':=lI u (by
 have d:∀c y,AI5 c y->c≠x:=F94 y
 have f:E21 (c≠x):=F94 xs
 rw[BI g b x]
 .subst g;rw[AW A2 q q];exact new
 .rw[A6 g]at q;rw[BI a b e]
  .have q':AI5 b x:=by
    rw[BM m]
    rw[nS a.trans z g]
    .rw[AB a z]
   rw[AW q q' q'];rw[XH v n l v (AE a n)]
  .refine(ok b u q).stay (λc v i r=>k c v ?_ r) (λc r=>GI (d c b r) r) λc xs r=>GI (f c xs r) r
   rw[QI i i]
   .exact a
   .rw[ZE];rw[BM m]
    .exact d c b i z
    .rw[AHV i];exact g rfl)
#where
structure Un(fs ex:EW)(H H':Hp)(h h':Heap):Prop where
 keep:ESU (b∉fs) WJ
 slot:ESU DM9 EQI
 free:RW XF (MB->B32->zL)
 there:fC XF B32 EQH
 tups:CNP
 frzs:FET
 tbls:F87
section
variable {fs fs' ex ex':EW}{H1 H2:Hp}{h1 h2:Heap}{x e:qE}
def Un.any(u:BSD H1 h1){a:Obj}(q:YG h.get? a)(n:MB)(d:B32):DTN sl {a with slots:=sl}:=by
 rw[VG DM9]
 .exact FE6 u.slot
 .rw[AQ a.slots (FE6 u.keep)]
def Un.kept(k:BDH):CDS H :=
 ⟨BGJ a D96,BGJ a (DDF a.slots),λ_ _ _ n _=>n,λb a q _=>DDF a,fY q q,XD _ q q,λ_ ps q=>CBR q⟩
def Un.refl:BSD H h:=AQC Un.kept
def Un.laid(k:BDH)(hp:C6L)(c:A2C):CDS ACT where
 keep:=BGJ u BGI
 slot:=BGJ u (DDE BGI)
 free:=F65 (A6 (Nat.ne_of_lt (yW q hp)))
 there:=λb u q _=>⟨u,BGI⟩
 tups:=lI xs (BAY c)
 frzs:=AR1 xs (BAY c)
 tbls:=lI ps (CBS (rC q c) q)
def Un.write(c:CHP)(j:CLN)(k:E95)(d:CN6):CDS C6F:=by
 have i:∀b,MB->IU x:=λb n z=>D45 n c c
 have g:∀b,MB->B2R:=λb n z=>by
  subst z;rcases j with r|r
  .exact i b n r
  .rw[AW n r r]
 have f:∀b u,C4L->¬Mut (some u)->IU x:=λb u q nm z=>by subst z;rw[q]at c;exact nm c
 refine⟨FF7 EZU,FF7 (DDE EZU),F65 (A6 (i b n)),BS b u q _,
  lI xs DPT,AR1 xs DPT,lI ps (CBS (A6 D9Z) q)⟩
 rw[BI a b e]
 .subst a;exact d
 .rw[AQ u (k b u a q)]
#where
noncomputable def trk(h:Heap)(H:Hp):EW:=B36 h.objs.size λa=>DZI H
noncomputable def a9Q(h:Heap)(H:Hp):Heap:=PySem.W.hideAll h (trk h H)
def b7t(h:Heap)(H:Hp):(a9Q h H).objs.size=h.objs.size:=BZ PySem.W.hideAll_size
def c3o{o:Obj}(e:XF)(n:MB):C1U h :=
 PySem.W.hideAll_get _ e λa=>by
  have q:AY (H b).isSome:=(List.mem_filter.mp a).2;rw[n]at q;simp at q
def c5O{o:Obj}(e:C1U h):XF/\MB:=by
 have e':XF:=PySem.W.of_hideAll CHQ e;rw[KG e'];cases q:H b with
 |none=>rfl
 |some x =>
  have a:b∈CHQ:=List.mem_filter.mpr ⟨DDS List.mem_range.mpr e',IF q⟩;have z:FD (CZX h) b:=PySem.W.hideAll_none CHQ a;rw[GM z]
noncomputable def c7g(g h:Heap)(L:qE):DL:=BD3 h.objs.size λa=>if a=L∨AY (DZI g.get?) then none else(DWZ a (a,o))
noncomputable def rest(g h:Heap)(L d:qE):DL:=(WF (c7g g h L).filter p (CU≠d))
structure Mod(K:qF)(mg:BF)(base:Heap):Prop where
 kin:C8X
 glob:CUP
 blt:∃mb,base.Ns builtinsNs mb/\EUB mb
 nolimit:base.NoLimit
structure Cx where
 prog:qG
 w:World
 K:qF
 mg:BF
 base:Heap
 A:Around
 N:AA
 s₀:qC
 H₀:Hp
 env:Env
 outer:JD
 stack:JD
 ex:EW
 fn:Str->Bool
 calm:Bool
 pn:DL
 xe:qH
variable {X:Cx}
noncomputable def frs(l:JD):EW:=l.filterMap (·.frame)
noncomputable abbrev Cx.fs(X:Cx):EW:=frs X.outer
noncomputable def Vis(sc:Scope)(x:Str):Prop:=D6Y (D5A∨B7X sc.names.lookup)
noncomputable def Loc(sc:Scope)(x:Str):Prop:=E97
noncomputable def d2a(env:Env)(h:Heap)(m:BF)(x:Str)(u:qB):Prop :=
 (AWA env.kindOf/\HN m u)∨((AJY env.kindOf∨B7X env.kindOf)/\∃c,C4G/\rF h.IsCell c u)
structure Cx.Ok(X:Cx):Prop where
 mod:F7F
 kind:DD2 X.env.scope.kind
 glob:X.env.globals=mainGlobals
 blt:X.env.builtins=builtinsNs
 above:BZB X.env.locals
 inj:CP6 A5W X.env.cells.lookup
 has:∀x,(AJY X.env.kindOf∨B7X X.env.kindOf)->∃c,A5W
 cab:∀x c,BLU->A5W->X.s₀.heap.objs.size<=c
 hd:DM->MY X.A.handled
 frames:X.A.frames=some X.stack
 stk:X.stack=X.outer∨(X.stack=CZ9/\BEV)
 exf:YS X.ex (AJ7/\AKN (c≠b))
 bs:BBX (DFO/\DNR)
 bsz:X.base.objs.size<=X.s₀.heap.objs.size
 noex:BBX DK3
 exfs:YS X.ex B91
 funs:X.s₀.heap.FunFrames X.base X.outer
 frf:YS X.fs DNR
structure Inv(X:Cx)(qK:DL)(σ:AOA)(H:Hp)(s:qC):Prop where
 ok:X.Ok
 os:s.os=X.s₀.os
 bare:DOT
 base:Un X.fs X.ex X.H₀ H X.s₀.heap s.heap
 loc:∃m,E77/\∀(i:Nat) (x:Str) (v:V),jF->BDO->AQV->∃u,PK/\d2a X.env s.heap m x u
 cell:AKN (CGD s.heap.IsCell)
 free:EN X.env.locals
 freeC:AKN (EN c)
 pin:BP1 FI4
 hok:EXD s.heap
 len:σ.length=X.N.length
section
variable {σ:AOA}
def Cx.Ok.nofr(ok:X.Ok){o:Obj}(e:IC X.base.get?):B91:=λa=>by
 have:=(ok.funs.mem a).1;rw[CI3]
def Inv.bs(I:AL):BBX E47:=λb o e =>
 ⟨I.base.keep b o C92 DZY (I.ok.nofr e) DKC,I.base.free b o C92 DZY DKC⟩
def Inv.bk(I:AL):BBX RP:=IY o (AHH I.bs)
def Inv.mod(I:AL):F7F:=I.ok.mod
def Inv.kIn(I:AL):X.K.In s.heap:=I.ok.mod.kin.keeps I.bk
def Inv.lt(I:AL):xS X.env.locals:=let ⟨_,hn,_⟩:=I.loc;hn.lt
def Inv.sz(I:AL):BZB s.heap.objs.size:=Nat.le_trans I.ok.above (Nat.le_of_lt I.lt)
def Inv.nofs(I:AL)(h:DMV):a∉X.fs:=λb=>by
 rw[B6D c (I.ok.funs.mem b)];rw[DT (yW c (DJJ I.sz)) nR]
def Inv.cne(I:AL):CB2 X.env.locals:=λx c e z=>by
 rw[F2S d];obtain⟨m,⟨o',es,ep,b,a,_⟩,_⟩:=I.loc;rw[S1 z b d d];rw[AW a hd hd]
def Inv.funs(I:AL):E4B X.outer:=by
 have all:∀(l:JD),DF b AK5 DMA->X.s₀.heap.FunFrames X.base l->s.heap.FunFrames X.base l:=by
  intro l;induction l with
  |nil=>intro _ _;trivial
  |cons env r k =>
   intro hs g;obtain⟨f,⟨L,o,d,h,i,hd⟩,j⟩:=g;have a:L∈X.fs:=hs L (F6X List.mem_cons_self);rw[OY sl (EGI (I.base.slot L o i (I.ok.frf L a) a) L)];rw[AU f ⟨L,_,d,h,e,hd⟩ (k (λb c=>hs b (F6X B7Y)) j)]
 exact all X.outer (GF c c) I.ok.funs
def Inv.stack(I:AL):E4B X.stack:=by
 rw[EVL a]
 .rw[AB e I.funs]
 .rw[e];rw[C01 b I.loc];refine .cons (BZG I.ok.kind) a b ?_ I.funs;exact Heap.get?_none_of_le (D43 I.ok.above)
def Inv.stkSub(I:AL):ALZ tE (X.env.locals::X.fs):=λb a=>by
 rw[EVL c]
 .rw[e]at a;exact fS
 .rw[e]at a;rw[A7S frs];rw[List.filterMap_cons,c]at a;exact a
def Inv.stkFree(I:AL):YS tE MB:=λb a=>by
 rcases List.mem_cons.mp (I.stkSub b a)with e|a
 .rw[AB e I.free]
 .rw[B6D ho (I.ok.funs.mem a)];exact EGI (I.base.free b o ho (I.ok.frf b a)) b
def Inv.step{g':A0M}{d':Drawn}(I:AL)
  (g:CON)
  (keep:EY0 B91 WJ)
  (t:EY0 DMA EQI) (free:RW A0T (RP->MB->zL))
  (there:fC A0T RP EQH)
  (D:CNP) (A:FET) (C:F87)
  (N:∀m,E77->D4R h'.Ns) (E:CAJ) (L:DOU) :
  FKL:=by
 have B:AIC X.s₀.heap.get? AJ7:=IY o (CSP I.ok.above);have j:fC DFO DK3 A0T:=λb o e a w=>by
  rcases A7X g w with z|z
  .exact a z
  rw[HL (yW e z) nR]
 have f:AKN (∀v,s.heap.IsCell c v->h'.IsCell c v):=λx c e v (WS y hd)=>by
  have h:c∉ch:=λz=>FAX;by_cases G:c∈X.fs
  .rw[SK sl (FJ5 t)];exact ES q hd
  .rw[AU o (FJ5 keep) hd]
 refine⟨I.ok,I.os,L,⟨ENI,ENI,DQ b o e n a,AIL e a,ALS (D b xs (I.base.tups b xs e)),RX o xs (A b o xs (WK I.base.frzs xs)),CBI⟩,?_,BEA,?_,BEA,AA0 J,E,I.len⟩
 .exact keep b o DKD w BVS (tV I.base.keep w a) EAC
 .obtain⟨sl,e1⟩:=tV I.base.slot w a;rw[XH F e2 (t b _ DKD w BVS e1 EAC) F e2]
 .rw[EOV];exact EPD free (cE I.base.free n a)
 .rw[EOV];exact EPD there
 .obtain⟨m1,e1⟩:=C3J I.base.tbls;rw[XH M e2 (C b _ e1) (m1++M) (GT e2 Array.append_assoc)]
 .obtain⟨m,hn,hl⟩:=I.loc;rw[FK m (N m hn) (F5Y K)];rw[XV r l (hl i x v e1 e2 K)];rw[OU u r];rcases l with l|⟨k,c,e,z⟩
  rw[GX l]
  rw[JM (lW k c (FAU _))]
 .rw[XH v z BUV v (FAU v)]
 .obtain⟨m,⟨o,_,_,y,_⟩,_⟩:=I.loc;exact free _ o (E50 g) y I.free
 .rw[F2S y];exact free c o (λz=>FAX) y (mD I.freeC)
 .rw[CPI J];have h:CU∉ch:=λz=>(sK (g CU z)).2 p J rfl;rw[EF (keep CU HS ne nf h e n) (free CU HS h e n) ne nf d]
def Inv.un(I:AL)(u:BOS X.fs [] h')(f:CAJ):AGA AM9:=by
 rw[FIJ g (u.any g I.free AF)];exact BYX (ch:=[]) ND (F9W u.keep) (F9W u.slot) (λb o _ e n=>u.free b o e n AF) (RX o _ (cE u.there AF)) u.tups u.frzs u.tbls (λk i=>by
  obtain⟨o',es',c,a,j⟩:=i;rw[AW g a a];rw[EF _ es' c h j]) f I.bare
def Inv.call{g':A0M}{d':Drawn}(I:AL)(u:BOS tE ch h')(i:CAJ)(l:DOU)
  (d:CON) :
  FKL:=by
 rw[FIJ j (u.any j I.free λz=>hZ (d _ z) rfl)];exact I.step (ch:=ch) d (λb o h k a e n=>tV u.keep (λz=>(List.mem_cons.mp (I.stkSub b z)).elim h k) a) (AKS a n (u.any e n a)) (λb o a e n=>DAO u.free) (RX o a (cE u.there a)) u.tups u.frzs u.tbls (λv q=>by
  obtain⟨o',es',g,f,t⟩:=q;rw[AW j f f];rw[EF _ es' g h t]) i l
def Inv.turned{it:qE}(I:AL)(k:BJP C2Z)(j:EN it)(f:it≠X.env.locals)
  (h1:it∈X.ex∨BZB it) (h2:CB2 it) (g:BP1 (CU≠it)):DG1:=by
 have d:AQO C2Z:=E3E j
 refine BYX (ch:=[it]) (gQ h) (E27 CM3) (E28 CM3) (AEP n n)
  (E68 CM3) CM5 ELZ (IY ps (CBR e)) (ANN i) (dM ?_) I.bare
 .rw[A14 it h]
  rw[DB];rw[BW h1 f h2 g]
 .rw[A0F es ep ho r i];rw[COM (Ne.symm f)]
 .refine AQC (DAS a BF0);rw[BM a]
  .rw[AB z (A0Q d)]
  .exact d c _ z
def Inv.tok(I:AL)(t:Nat):kG (A4Q t):=BC I.un h' s.heap t' t Un.refl I.hok
def Inv.kept{t':Nat}(I:AL)(k:DVH):DG1:=I.un (Un.kept k) (I.hok.kept k)
def Inv.laid{a:qE}{o:HO}{t':Nat}(I:AL)(k:DVH)(hp:DMV)(new:BEI ACT h' a o) :
  JN ACT AM9:=I.un (Un.laid k hp (I.hok.fresh hp)) (I.hok.laid k hp new)
def Inv.write{x e:qE}{o:HO}{t':Nat}(I:AL)(d:CHP)(c:CLN)(k:BXV B2R s.heap.get?)(a:CN6)
  (new:ObjOk X.prog X.w C6F h' x o):JN C6F AM9:=I.un (Un.write d c k a) (I.hok.write d c k a new)
def Inv.weak{σ':AOA}(I:AL)(b:σ'.length=σ.length)(w:∀(i:Nat) v,DVP->BDO):pG σ' H s :=
 (CTW I.ok (mF m hn hl' I.loc m hn (λi x v e1 e2 a=>hl' i x v e1 (w i v e2) a)) I.pin (b.trans I.len))
def Inv.pins_of{pins':DL}(I:AL)(h:∀p∈pins',FI4):CNI pins' :=
 CVP I.ok (λp a=>EP5 (λz=>AK8 C6P) (h p))
def b1j{N:AA}(c:N.Nodup){j:Nat}(a:OE N)(b:IZ N x):i=j:=by
 obtain⟨h1,e1⟩:=List.getElem?_eq_some_iff.mp a;obtain⟨h2,e2⟩:=D2X;exact NE List.getElem_inj c (e1.trans e2.symm)
def a7M{Q:ACF}(I:AL)(U:X.N.Nodup)(hi:jF)(l:ADI)(r:PK)
  (h:∀s',ESK->(∃a,CZJ s'.heap/\(a=X.env.locals∨HN X.env.cells.lookup a))->CXU) (Z:AE1:=by rw[pD]):F5S:=by
 rw[DI m L W id I.loc];have D:(DDC .class || (DDC .module && X.env.locals != X.env.globals))=false:=by rw[I.ok.kind];rfl
 have hiσ:i<σ.length:=by rw[ACG I.len hi]
 have cne:=I.cne;have f:∀{a:qE}{h':Heap},(∃o,DNI/\A2C)->CFK->EXD h':=λ{a h'} Y hs b ob e=>by
  obtain⟨_,_,t⟩:=Y;refine AQC ((I.hok b ob e).stay (λc J g q=>(AWQ c ?_).trans q) BF0);rw[ZE];rw[QI g g]
  .rw[GM t]
  .rw[AW t g g]
 rw[ASG l]
 .refine wpAny_storeName_local w L (EI h' N hs) D;obtain⟨oL,_,_,O,_⟩:=id L;refine h _ (FJA (ES N FFN) (A5S y c) oL O I.free) (ES hs OP)
  rw[EFX I.ok.above]
  rw[F46 I.ok.above]
  rw[F45 I.ok.above]
  .rw[ADL hj]
   rw[FJQ (ATX w AF)]
   .rw[FL4];rcases q with⟨k,e⟩|⟨k,c,e,z⟩
    .refine .inl (HJ k);have:y≠x:=λe=>hj (b1j U e1 (e ▸ hi));simp[this,e]
    rw[JM (lW k c EKE)]
  .rw[XH J z (I.cell y c e) J EKE]
  .rw[CPI P];rw[EF (EP9 ne) n ne nf d]
 .have hfn:BLU:=by
   rw[BM Z]
   rw[NT]
   .rw[AW z w w]
  rw[ABD c g (I.ok.has x (.inl w)) J z (I.cell x c g)];refine wpAny_storeName_cell I.ok.kind w g z (EI h' C hs);rw[DI oc F G id z];refine h UE (FJA ⟨m,L.sameBut hs (Ne.symm (cne x c g)),FFN⟩ (A5S y c') oc F (I.freeC x c g)) ⟨c,hs,.inr g⟩
  rw[EFX CND]
  rw[F46 CND]
  rw[F45 CND]
  .rw[ADL hj]
   rw[FJQ (DC ⟨ED w,c,g,C⟩)]
   .rw[FL4];rcases q with q|⟨k,c',e,z'⟩
    rw[GX q]
    .rw[AHF (lW k c' (z'.sameBut hs ?_))];rw[ZE];exact hj (b1j U e1 (A4J I.ok.inj e g ▸ hi))
  .rw[BI hcc c' c]
   .subst hcc;exact EM C
   .rw[XH w2 z2 (I.cell y c' e) w2 (z2.sameBut hs hcc)]
  .rw[CPI P];refine⟨EP9 ?_,n,ne,nf,d⟩;intro q;rw[q,F]at e;have q':oc=HS:=C1G;exact d J (OV q' G)
def a5B{Q:ACF}(I:AL)(b:X.N.Nodup)(hi:jF)(d:ADI)(r:PK)
  (h:CCQ ESK) (c:AE1:=by rw[pD]):F5S :=
 F8X a7M (λs' a _=>h s' a)
def Inv.call'{s':qC}(I:AL)(i:C9E)(u:BWA tE ch)(d:ARM)(h:A11)
  (a:CON):wE:=by
 rw[AG2 h' f t' o' s'];have e:o'=s.os:=i;rw[A0O (BC I.call g' g t' t' (d':=f) u d h a)]
#where
noncomputable abbrev XK:=qB->bB IN
noncomputable abbrev St:=AOA
variable {σ:St}
noncomputable abbrev VK:=C2L
noncomputable abbrev TE:=St->A54
variable {ta te:TE}
noncomputable abbrev TT:=BCK XY
noncomputable abbrev TA:=BCK A6M
variable {t:TA}
structure Ends where
 nx:UB
 rt:VK
 bk:UB:=AQ6
 ct:UB:=AQ6
variable {D:Ends}
noncomputable abbrev TS:=Ends->UB
variable {tb:TS}
inductive EP(X:Cx)(qK:DL)(σ:St)(Q:VK)(u:qB)(s':qC):Prop
 |mk (v H':_) (_:wE) (_:PK) (_:y6):DVF
noncomputable def TP(X:Cx)(qK:DL)(σ:St)(Q:XY)(b:Bool)(s':qC):Prop:=∃H',wE/\VY b
inductive AP(X:Cx)(qK:DL)(σ:St)(Q:A6M)(us:AN)(s':qC):Prop
 |mk (vs H':_) (_:wE) (_:AD3) (_:VY vs):AP X qK σ Q us s'
noncomputable def SP(X:Cx)(qK:DL)(D:Ends)(f:Flow)(s':qC):Prop :=
 match f with
 |.next=>CCG D.nx
 |.brk=>CCG D.bk
 |.cont=>CCG D.ct
 |.ret u=>∃v σ' H',BM7/\PK/\D.rt v H'
noncomputable def PE(X:Cx)(e:Expr)(t:TE):Prop :=
 AIR Q VK (BAK (dO pM))
noncomputable def PT(X:Cx)(e:Expr)(t:TT):Prop :=
 AIR Q XY (BAK (EPY pM))
noncomputable def PW(X:Cx)(e:Expr)(t:TT):Prop :=
 BZ2 whole BQM Q XY (BAK (EPY whole))
def PW.pt{t:TT}(h:DUV):DUU:=h _
noncomputable def PA(X:Cx)(es:BT)(t:TA):Prop :=
 BZ2 pos Pos Q A6M (BAK (AFW (EWN AES) AP))
noncomputable def PS(X:Cx)(st:Stmt)(t:TS):Prop :=
 F09 exec
noncomputable def PSs(X:Cx)(st:ML)(t:TS):Prop :=
 F09 execs
def thn{α:Type}{t:C6S}{Q b:C3H}(h:DR4)(c:F33):EPK:=cT h c x x
section
inductive tVar(i:Nat)(σ:St)(H:Hp)(Q:VK):Prop
 |mk (v:_) (_:BDO) (_:APA):vV tVar i
noncomputable def tC(v:V):TE:=x9 _ APA
def b9x(g:jF)(o:AQV)(hd:KK:=by decide)(d:CHM:=by decide):E00:=by
 rw[LU];rw[v5 v e h];obtain⟨m,n,j⟩:=I.loc;rw[XV r l (j i x v g e o)];have fin:sH u s:=CJV;rcases l with⟨b,k⟩|⟨b,c,f,a⟩
 rw[CH3 (wpAny_loadName_local I.ok.kind b n k fin)]
 .rcases b with b|b
  rw[CH3 (wpAny_loadName_cell I.ok.kind b f a fin)]
  rw[CH3 (wpAny_loadName_free I.ok.kind b f a fin d)]
def c8T{i j pos}:BFH dW (C7N .int):=EQO wpAny_Constant_int dW
def d1f{b j pos}:BFH B7I (tC (.bl b)):=E26 Constant_bool dX
def c8R{j pos}:BFH .none E3R:=E26 Constant_none .non
def c8P{x j pos}:BFH VH EHM:=EQO Calls.Constant_str VH
noncomputable def Gl(X:Cx)(x:Str):Prop:=HN X.env.kindOf .globalImplicit
def U7(I:AL)(a:TC)(b:CAV)(h:Q u s)
  (hd:KK:=by decide):DW5 :=
 Calls.Name_function_global I.ok.kind a (Calls.loadGlobal_global ESR b h) hd
def a2J(I:AL)(a:TC)(b:AP3)(d:CAU)(h:Q u s)
  (c:AAU:=by decide) (hd:KK:=by decide):DW5:=by
 rw[A8H h1 h2 I.mod.blt];exact Calls.Name_function_global I.ok.kind a (Calls.loadGlobal_builtin ESR b (GS I.ok.blt h1.keeps I.bk) ((h2 x c).trans d) h) hd
def c5r(a:TC)(b:CAV)(r:PK)(hd:KK:=by decide):E01 :=
 A9F _ (U7 I a b CJV hd)
def c5v(a:TC)(b:AP3)(d:CAU)(r:PK)(c:AAU:=by decide)(hd:KK:=by decide):E01 :=
 A9F _ (a2J I a b d CJV c hd)
variable {a b:Expr}{tb:TE}
noncomputable def PC(X:Cx)(op:CmpOp)(a b:Expr)(t:TE):Prop :=
 BDM VK (AZG ->
  FFP (compareOp op v u) B3F)
inductive tBI(Q:XY)(x:V)(H1:Hp):Prop
 |mk (c:_) (_:BE5) (_:Q c H1):CIA tBI
noncomputable def tB(t:TE):TT:=BF8 t tBI
def c8V{t:TE}(h:FBB)(h1:AR5:=by rw[FD6]):DR B9W t:=ATO Q hw (wpAny_Compare1 (BAB Q I hw) h1)
def b9e{t:TE}(h:FBB)(h1:AR5:=by rw[FD6]):lY B9W (tB t):=by
 rw[pO Q hw];refine wpAny_isTrue_Compare1 (thn EG9 λv s1 h1=>thn h1 λu s2 h2=>FJ h2 c j i) h1;rw[SN x e g f i];rw[HG d q f];rw[CE2 g H1 e q]
variable {tA tB':TT}{rest:BT}
noncomputable def d0Y(t u:TT):TT:=NG t c (C97 u (Q false H1))
noncomputable def tOr(t u:TT):TT:=NG t c (QO c (Q true H1) (B0Z u))
noncomputable def d0T(t:TT):TT:=NG t c DXE
def pw_and1(b:ARX):CBU LF tA:=by
 rw[FHJ isTrue_and];cases c with
 |true=>exact isTrue_and_nil e
 |false=>exact e
def pw_or1(b:ARX):CBV LF tA:=by
 rw[FHJ isTrue_or];cases c with
 |false=>exact isTrue_or_nil e
 |true=>exact e
def pw_and(f:ARX)(g:CBU lJ tB'):CBU A1E (d0Y tA tB'):=by
 rw[FJ8 isTrue_and];cases c with
 |true=>rw[FJX]
 |false=>rw[AU H1 d e]
def pw_or(f:ARX)(g:CBV lJ tB'):CBV A1E (tOr tA tB'):=by
 rw[FJ8 isTrue_or];cases c with
 |true=>rw[AU H1 d e]
 |false=>rw[FJX]
def c8C(b:ARX):lY E2H EAV:=by
 rw[B96 isTrue_not (cK b (λc H1=>DXE) I h)]
inductive tAndVI(tb:TE)(σ:St)(Q:VK)(x:V)(H1:Hp):Prop
 |mk (c:_) (_:BE5) (_:C97 tb (A21 false H1)):FC3 tAndVI
noncomputable def c7p(ta tb:TE):TE:=FGQ tAndVI
inductive tOrVI(tb:TE)(σ:St)(Q:VK)(x:V)(H1:Hp):Prop
 |mk (c:_) (_:BE5) (_:QO c (A21 true H1) (B0Z tb)):FC3 tOrVI
noncomputable def d0S(ta tb:TE):TE:=FGQ tOrVI
inductive tNotVI(Q:VK)(x:V)(H1:Hp):Prop
 |mk (c:_) (_:BE5) (_:A21 (! c) H1):CIA tNotVI
noncomputable def d2m(ta:TE):TE:=BF8 ta tNotVI
def c8Q{op}{t:TE}(h:DR a t):APX op LF t:=ATO Q hw (BoolOp_one (BAB Q I hw))
def c8X(f:YD)(g:APX .And lJ tb):APX .And A1E E2C:=by
 rw[FKD BoolOp_and];cases c with
 |true=>rw[CF9 d]
 |false=>exact GZ (.bl false) H1 e d
def d1d(f:YD)(g:APX .Or lJ tb):APX .Or A1E E2D:=by
 rw[FKD BoolOp_or];cases c with
 |false=>rw[CF9 d]
 |true=>exact GZ (.bl true) H1 e d
noncomputable def tIf(t:TT)(ta tb:TE):TE:=NG t c (C97 ta (B0Z tb))
def b9B(j:lY c tA)(g:YD)(i:wP):DR E9L EGJ:=by
 rw[LU];rw[FHN wpAny_IfExp];cases d with
 |true=>rw[CF9 f]
 |false=>exact iC i Q e f
#where
noncomputable def SqL(K:qF)(H:Hp)(a:qE)(xs:A0):Prop :=
 Rd H a (.lst xs) ∨
  FGF (DNJ/\AIM "list"/\DJ6/\o.data=DN0/\C1A/\DKW)
noncomputable def SqT(K:qF)(H:Hp)(a:qE)(xs:A0):Prop :=
 Rd H a (.tup xs) ∨
  FGF (DNJ/\DSG/\o.data=DN0/\C1A/\DKW)
noncomputable def d1Y:qB->aJ
 |.none=>AO .non
 |B7I=>BK .bl b
 |CH1=>DS i
 |EE6=>AGZ x
 |.bytes b _=>BK .byt b
 |.float b _=>BK .flt b
 |CM=>RQ
 |NY n=>BK .ty n
 |_=>none
def RelV.abs{x:V}(r:dN):CQ d1Y u x:=by
 cases x with
 |non=>rw[ADC]
 |bl _=>rw[ADC]
 |int _=>rw[ADH]
 |str _=>rw[ADH]
 |byt _=>rw[ADH]
 |flt _=>rw[ADH]
 |ref _=>rw[ADC]
 |ty _=>rw[ADC]
def RelV.inj{x y:V}{u:qB}(r:dN)(q:NL):x=y:=DDP r.abs.symm.trans q.abs
def Vals.inj{xs ys:A0}{us:AN}(h:ZK)(h':AD4):B9D:=by
 induction h generalizing ys with
 |nil=>cases h';rfl
 |cons r t a=>cases h' with|cons r' t'=>rw[r.inj r',a t']
section
variable {ys:A0}
def SqL.of(h:A56 a):jO:=A0U h
def SqT.of(h:A2Z):eG:=A0U h
def Inv.list(I:AL)(h:E7R):EA3 PlainL:=by
 rcases h with h|⟨o,its,n,c,b,hd,hs,d,r⟩
 .rw[BHT (h.ok I.hok)];rw[BW its r (BCO _ n e rfl) z]
 rw[FJ7 ⟨o,n,ESW,b,hd,DGH⟩]
def Inv.tuple(I:AL)(h:E1U):EA3 IsTup:=by
 rcases h with h|⟨o,its,n,c,b,hs,d,r⟩
 .rw[EZ z its r p h.ok I.hok];rw[BW its r p.tup z]
 rw[FJ7 ⟨o,ESW,b,n,DGH⟩]
def Inv.list_inj(I:AL)(h:E7R)(h':D5C ys):B9D:=by
 obtain⟨its,r,⟨o,n,e,_,_,d⟩,_⟩:=DGC;obtain⟨b,f,⟨o',g,e',_,_,c⟩,_⟩:=I.list h';rw[FCM]
 rw[F2F]
 rw[EPQ]
def Inv.tuple_inj(I:AL)(h:E1U)(h':BVV ys):B9D:=by
 obtain⟨its,r,⟨o,e,_,n,d⟩,_⟩:=DGD;obtain⟨b,f,⟨o',e',_,g,c⟩,_⟩:=B5W h';rw[FCM]
 rw[F2F]
 rw[EPQ]
#where
noncomputable abbrev Cx.wish(X:Cx)(E:qH):Cx:={X with xe:=E}
noncomputable abbrev Cx.nox(X:Cx):Cx:=X.wish λ_ _=>False
def Cx.Ok.wish(ok:X.Ok)(E:qH):EWE :=
 FMF
def Cx.Ok.unwish(ok:EWE):X.Ok :=
 FMF
def Inv.wish(I:AL)(E:qH):E3H:=BEJ (I.ok.wish E)
def Inv.unwish(I:E3H):AL:=BEJ I.ok.unwish
def SP.unwish{D:Ends}{f:Flow}{s':qC}(h:SP D4P qK D f s'):CVM f:=by
 cases f with
 |next=>rw[CPU]
 |brk=>rw[CPU]
 |cont=>rw[CPU]
 |ret u=>obtain⟨v,σ',H',I,r,q⟩:=h;rw[IO v σ' H' I.unwish r q]
def PSs.nox{st:ML}{t:TS}(h:EGT PSs):DUW:=λqK s σ H D I hw =>
 FBN BAB
section
variable {st:Stmt}{rest:ML}{t u:TS}
noncomputable def c7k:TS:=A6W A6U
noncomputable def c8n(t u:TS):TS:=A6W DXS
def c4T:PSs X [] c7k:=A9F σ (DCU CFN)
def b9g(h1:CBF)(h2:PSs X rest u):PSs X (A4Z st) (c8n t u):=by
 rw[FE9 D9L];cases f with
 |next =>
  obtain⟨σ',H',a,q⟩:=q;exact h2 qK s1 σ' H' D a q
 |ret v=>exact q
 |brk=>exact q
 |cont=>exact q
def c4S(h1:CBF):PSs X [st] t:=by
 rw[FE9 D];cases f with
 |next=>rw[CE8]
 |ret v=>exact q
 |brk=>exact q
 |cont=>exact q
noncomputable def b8G:TS:=A6W (D.bk σ H)
def b9l:EXB PS:=A9F σ (wpAny_Break CFN)
def Inv.quiet(I:AL):KN interactive X.env:=tX interactive I.ok.kind
noncomputable def c7l(te:TE):TS:=A3G te _ DYL
def c4V(b:wI)(hs:EKW:=by rfl):PS X EHA (c7l te):=by
 rw[XO];exact wpAny_Expr_any (FAC (A8G H1 a c)) I.quiet hs
noncomputable def c8o(te:TE):TS:=A6W (YY te D.rt)
def c8E(b:wI):PS X EA4 (c8o te):=by
 rw[XO];exact wpAny_Return_some (FAC ⟨x,σ,H1,a,d,c⟩)
noncomputable def d2l:TS:=λD _ H=>D.rt .non H
noncomputable def d0U(c:TT)(t u:TS):TS:=A3G c b (QO b (t D σ H1) (u D σ H1))
def d1b{a b:ML}{tc:TT}(j:E6O)(g:PSs X a t)(i:PSs X b u):PS X (D7R .If) (d0U tc t u):=by
 rw[XO];rw[FHN wpAny_If];cases d with
 |true=>exact iC g D e f
 |false=>exact iC i D e f
#where
noncomputable abbrev TG:=V->St->DS5
noncomputable abbrev TGs:=A0->St->DS5
noncomputable def PG(X:Cx)(target:Expr)(t:TG):Prop :=
 ATQ v V u qB UB PK (vV t v ->
  fJ (assign target X.env u) (GF s' DW7))
noncomputable def PGs(X:Cx)(ts:BT)(t:TGs):Prop :=
 ATQ vs A0 us AN UB AD3 (vV t vs ->
  fJ ((assignInOrder ((assignEach ts X.env).map (·.2)) us)) (GF s' DW7))
noncomputable abbrev c4e:=V->V->V->AIB BA0
noncomputable def d0D(X:Cx)(t:c4e):Prop :=
 ∀(qK:DL) (s:qC) (σ:St) (H:Hp) (o i v:V) (ov iv u:qB) (Q:BA0),AL->EHB->EEL->PK->F9B t ->
  fJ (setItem ov iv u) (GF s' (∃H',wE/\Q H'))
noncomputable abbrev TIp:=AQM
noncomputable def PIp(X:Cx)(op:Operator)(t:TIp):Prop :=
 FGB (aT t ->
  dO (inplaceOp op v u))
noncomputable def B1(i:Nat):TG:=λv σ H Q=>Q BXW H
def c5p(b:X.N.Nodup)(hi:jF)(d:ADI)(c:AE1:=by rw[pD]):EDJ PG:=by
 rw[bO v u r];exact wpAny_assign_Name (F8X a5B (λs' a=>cM H a h))
noncomputable def b4h:TGs:=λvs σ H Q=>vs=[]/\Q σ H
inductive gCons(t:TG)(u:TGs)(vs:A0)(σ:St)(H:Hp)(Q:UB):Prop
 |mk (v r:_) (_:vs=v::r) (_:QC t v λσ' H'=>u r σ' H' Q):gCons t u vs σ H Q
def c5n:PGs X [] b4h:=by
 rw[bO vs us r];rw[yZ e h];rw[DB];cases r;exact assignInOrder_nil CFN
def b9w{t:TG}{u:TGs}(h1:B01 PG)(h2:PGs X es u)
  (hs:F4D:=by rfl):PGs X LK (gCons t u):=by
 rw[bO vs us r];rw[XG v d e1 h];subst e1;cases r with
 |cons r rr =>
  rw[GG hs assignInOrder_cons (FJ (cK h1 _ _ _ I r h) _ s1 c)];obtain⟨σ1,H1,a,b⟩:=c;exact h2 qK s1 σ1 H1 _ _ Q a rr b
inductive gTup(K:qF)(n:Nat)(t:TGs)(v:V)(σ:St)(H:Hp)(Q:UB):Prop
 |mk (a xs:_) (_:AKH) (_:eG) (_:C3L) (_:vV t xs):YY (gTup K n t v) Q
def c8M{t:TGs}(g:DM)(h:E04)
  (j:CNM:=by rfl) (c:CP1:=by rfl):F5H (gTup X.K n t):=by
 intro qK s σ H v u Q I r hw;obtain⟨a,xs,e1,l,i,hw⟩:=hw;subst e1;cases r;rw[RV d m q I.tuple l];refine HU (assign_Tuple_tuple D35 m (by simp[j,<-i,d.length]) c) h' p;have f:B2H:=I.kept (t':=s.toks) λb o e=>WK p B54;exact EKR H xs _ Q f B7M hw
noncomputable def d1x(to ti:TE)(t:c4e):TG:=λv σ H Q=>kK to o (VB ti i (t o i v H2 λH3=>Q σ H3))
def c8N{o i:Expr}{to d:TE}{t:c4e}(l:AQI)(hi:DR i d)(hs:d0D X t)
  (k:F8Z (do
   let a <-holding [v] (eval o X.env)
   let b <-holding [v,a] (eval i X.env)
   standAt pos
   holding [v,a,b] (setItem a b v)
   release [v,a,b] []):=by rw[jW]):qT PG .Subscript o i (d1x to d t):=by
 rw[bO v u r];rw[k];rw[AJX (A4W l a c)];rw[SN x f q m c];rw[AJX (AAX hi f m b c)];obtain⟨y,H2,g,w,n⟩:=c;rw[PP wpAny_standAt (E4E (FJ (AIQ hs x y v a b u _ g q w r n) _ z c))];rw[A8H j p c];exact wpAny_release (A8G e j p)
noncomputable def b6r(te:TE)(g:TG):TS:=A3G te x (g x σ H1 D.nx)
def c8H{g:TG}(b:wI)(c:E1Z)(hs:EZW:=by rfl)(hw:FDY:=by rfl)
  (h1:ERC:=by rfl):F0E PS:=by
 rw[XO];refine wpAny_Assign_stores (cZ b i) hs hw;rw[SN x a f d i];rw[AB h1 (thn (iC c x v _ a f d) λ_ s2 q=>q)]
def c8D{pos':Pos}(c:X.N.Nodup)(hi:jF)(g:ADI)(d:wI)(hs:EM5:=by rfl)(f:AE1:=by rw[pD]) :
  F1S PS:=by
 rw[XO];refine wpAny_Assign_Name (cZ d l) hs;rw[SN y a k j l];exact a5B a c hi g k (λs2 b=>cM H1 b j) f
noncomputable def c7o(to ti te:TE)(tget:AQM)(tip:TIp)(tset:c4e):TS:=A3G to o (VB ti i (tget o i H2 λx H3=>te σ H3 λy H4=>tip x y H4 λz H5=>tset o i z H5 λH6=>B4Q H6))
noncomputable def d0E(X:Cx)(t:AQM):Prop :=
 DCQ o i ov iv (AL->EHB->EEL->t o i H Q ->
  dO (getItem ov iv))
def c4X{o i:Expr}{to m:TE}{b:AQM}{g:TIp}{c:c4e}{op:Operator}{tpos:Pos}(G:AQI)(hi:DR i m)(F:d0E X b)(E:wI)(hp:PIp X op g)(hs:d0D X c)
  (C:∀f d new,augStore i f d new=(do holding [new,f,d] (setItem f d new);release [new,f,d] [];pure .next):=by intros;rfl):PS X (EZR op) (c7o to m te b g c):=by
 rw[XO];refine wpAny_AugAssign_SubscriptAny (A4W G f a) C;rw[SN n w k J a];rw[v9 (AAX hi w J d a) p H2 x l K a];refine EB (thn (AIQ F n p f d _ x k l K)) j S a;obtain⟨W,q,y,P,L⟩:=a;rw[v9 (FJ (RB E S q _ y L) v T a) Y r z Q M a];refine EB (thn (RB hp T r W Y j v _ z P Q M)) new U a;obtain⟨Z,t,A,R,N⟩:=a;exact thn (RB hs U t n p Z f d new _ A k l R N) λ_ s6 (B63 B O)=>A8G u B O
inductive ipI(f:A3H)(x:V)(y:V)(H:Hp)(Q:VK):Prop
 |mk (i j:_) (_:ARE) (_:C8R) (_:SI (f i j)):ipI f x y H Q
def d0b:PIp X .Add EH7:=by
 rw[OX a b];rw[QP i j e1 e2 q];subst e1;subst e2;rw[HQ a];rw[kQ b];exact iadd_int (nU aD)
noncomputable def b8y(c:TT)(tb:TS):TS:=A6W (∃W:ACC,(∃m,EH3)/\∀m σ H,EH3 ->
 kK c b (QO b (BNS (∃m',m'<m/\W m' σ' H') (tb (CR6 N N) σ H1)) DYL))
def b9h{tc:TT}(hp:BHS)(r:E6O)(q:EO4):PS X (EX6 body) (b8y tc tb):=by
 rw[XO];obtain⟨W,⟨t,u⟩,turn⟩:=h;refine wpAny_While (codeAny_whileLoop (λn s'=>BP8 (W n σ' H')) ?_ t (A8G H I u));rintro n s1 ⟨σ1,H1,p,w⟩;rw[A40 (FJ (r qK s1 σ1 H1 _ p (turn n σ1 H1 w)) b s2 x)];rw[ZP H2 m x];cases b with
 |true =>
  rw[ZP N o d];rw[EK];rw[A40 (FJ (q qK s2 σ1 H2 _ m d) f y e)];cases f with
  |next =>
   rw[FLQ]
  |cont =>
   rw[FLQ]
  |brk=>exact e
  |ret v=>exact e
 |false =>
  rw[AZ (BD Bool.false_ne_true) wpAny_execs_nil ⟨σ1,H2,m,d⟩]
structure It where
 go:DHB
 yld:Nat->Hp->C2L
 stop:DHB
noncomputable def a4u(X:Cx)(qK:DL)(H:Hp)(b:qE):Prop :=
 MB/\AJ7/\B91/\D0O/\D04/\CYV
def Inv.fpOk(I:AL)(a:s.heap.objs.size<=b)(d:zL):CFP:=by
 refine⟨d,Nat.ne_of_gt (Nat.lt_of_lt_of_le I.lt a),I.nofs a,.inr (Nat.le_trans I.sz a),BS x c e z,EI p f z⟩
 .rw[SK v BUV];rw[DT (Nat.lt_of_lt_of_le q.lt CEC) nR]
 rw[HL (yW (AK8 f).1 CEC) nR]
structure Turn(P:qG)(w:World)(K:qF)(tg:Expr)(J:It)(fp:EW)(it:qE)(tn:DSX):Prop where
 mem:it∈fp
 obj:∀i h,A83 h->EK7 XF
 keep:∀i h h',A83 h->A7A (∀o,XF->WJ)->A83 h'
 item:FGD (J.go i H ->
  EX3 (λr s1=>∃u,r=some u /\
   FU A8O X.A (letOwnedTupleGo tg A0I u) (GF s2 (∃x H',DOG/\dN/\J.yld i H x H'/\tn AM s2.heap/\tR zL)) E s1))
 done:FGD (J.stop i H ->
  EX3 (λr s1=>r=none/\kG s1))
 self:FCH A Around i Nat (D4S->E59->MV A8O (RH pyIter it) Q)
noncomputable abbrev TI:=BCK jA
inductive PIE(X:Cx)(qK:DL)(σ:St)(tg:Expr)(R:jA)(itv:qB)(s2:qC):Prop
 |mk (it:qE) (fp:EW) (tn:DSX) (J:It) (H':Hp) (_:VX itv it) (_:DOG) (_:AU7 Turn X.K tg J fp it tn) (_:tn 0 s2.heap) (_:(A7A CFP)) (_:R J H'):AUF PIE tg R itv s2
noncomputable def PI(X:Cx)(tg iter:Expr)(wi:TI):Prop :=
 AIR R jA (AL->YY wi R ->
  fJ (RA iter) (λv s1=>A13 (pyIter v) F7Q s1))
def b5P{it:qE}{o:Obj}{n:String}{vs:CO}{Q:ACF}(d:DIG it)(b:AIM n)(hd:CE6 vs)
  (c:KN FJO n) (a:Q () s):MV M (letOwnedTupleGo tg A0I u) Q:=by
 unfold letOwnedTupleGo;cases tg<;>first
  |rw[iN a]
  | (cases u <;> first
    |rw[iN a]
    | (rw[AX (wpAny_load d ?_)]
       rw[b,hd];show MV M (mS (kW (FJO n) (vs[0]? == ANC rawInt)) _) Q;rw[u7 (PU (by intro h;rw[c,Bool.false_and]at h;cases h)) a]))
noncomputable def Itl(K:qF)(a:qE):It :=
 F68 jO jO jO
noncomputable def Itt(K:qF)(a:qE):It :=
 F68 eG eG eG
noncomputable def Itr(lo:Int)(n:Nat):It:=⟨B8F NB,AMR x (H'=H/\AY0 (lo+i)),B8F (n<=i)⟩
def b6o(a it:qE):ERH AD0 h.IsListIter where
 mem:=AF
 obj:=AS7 b (by
  rw[A14 it f]
  rw[CPO])
 keep:=F0Y
 item:=by
  rw[FM5 I.list wpAny_pyNext_list_item p.isList I.list_inj]
 done:=by
  rw[FK9 I.list wpAny_pyNext_list_end p.isList]
 self:=BI7 wpAny_pyIter_listiter
def b2u(a it:qE):ERH AKJ h.IsTupleIter where
 mem:=AF
 obj:=AS7 b (by
  rw[A14 it f]
  rw[CPO])
 keep:=F0Y
 item:=by
  rw[FM5 I.tuple wpAny_pyNext_tuple_item EON I.tuple_inj]
 done:=by
  rw[FK9 I.tuple wpAny_pyNext_tuple_end EON]
 self:=BI7 wpAny_pyIter_tupleiter
def b2v(it:qE)(lo:Int)(n:Nat):BYO CBH (IsRangeIter h it (lo+PN i*1) (EV-PN i) 1) where
 mem:=AF
 obj:=λi h st b a=>by
  rw[A14 it a]
  rw[DB];exact ES st (λv z=>by
   have y:Data.fields _=Data.cell v:=z;cases y)
 keep:=A1S k (AQL it st)
 item:=by
  rw[FLH];have W:=BC Walks.range prog X.prog w X.w DJ1 it lo 1 n;refine CMH q st (EE v h' tk x st' kk);rw[HQ x];have r:DG0:=I.turned (mP a kk dY) d f1 f g j;rw[VE (BC b5P s bY n "range_iterator" st' rfl rfl AH ⟨C18,H,r,HJ t,B04,st',λb a=>A7X c a⟩)];rw[Int.mul_one]
 done:=by
  rw[FLH];exact wpAny_pyNext_range_end DJ1 st (by have:n<=i:=q;rw[QL 0x17f14d72c2debd6]) λh' u=>DZ (B1L (mP a u a) d f g j)
 self:=BI7 wpAny_pyIter_rangeiter
inductive iListI(K:qF)(R:jA)(x:V)(H1:Hp):Prop
 |mk (a:_) (_:JH) (_:EQ4 SqL) (_:R AD0 H1):iListI K R x H1
noncomputable def c3m(K:qF)(tl:TE):TI:=ENU iListI
inductive iTupI(K:qF)(R:jA)(x:V)(H1:Hp):Prop
 |mk (a:_) (_:JH) (_:EQ4 SqT) (_:R AKJ H1):iTupI K R x H1
noncomputable def c6N(K:qF)(tl:TE):TI:=ENU iTupI
def c5m{tl:TE}(f:ASL):DVO c3m:=by
 rw[FM1 c.list wpAny_pyIter_list p.isList b6o]
 rw[EQF]
def c8L{tl:TE}(f:ASL):DVO c6N:=by
 rw[FM1 c.tuple wpAny_pyIter_tuple (show s1.heap.IsTuple a its.toArray from p) b2u]
 rw[EQF]
def b9b{R:jA}{lo hi:Int}{t u v:Tok}{tk:Nat}(I:AL)(h1 : CEX lo)(h2:AIF lo)(c : CEX hi)(d:AIF hi)
  (q:R (Itr lo BTV) H):FU RE X.A (CWZ pyIter) F7Q E EGV:=by
 refine wpAny_pyIter_range (IsRange.new ..) (small_one h1 h2 c d) ?_;have a:kG EGV:=I.kept λb o e=>YZ;refine⟨C5R,[C5R],_,_,H,rfl,
  a.kept (t':=tk) λb o e=>YZ,b2v _ lo BTV,?_,gQ f,q⟩
 .have e1:E52=lo:=by simp
  have e2:EV5=Builtin.Range.rangeSize lo hi 1:=by rw[rangeSize_one];split<;>omega
  show IsRangeIter _ _ E52 EV5 1;rw[CG e1 e2 KF]
 .rw[A14 C5R f]
  rw[EQG]
inductive iRng1I(R:jA)(vs:A0)(H1:Hp):Prop
 |mk (j:Int) (_:AOC j) (_ : CEX j) (_:j<BQ0) (_:R (Itr 0 j.toNat) H1):iRng1I R vs H1
noncomputable def c7U(ta:TA):TI:=DVZ ta iRng1I
def b6L{a:Expr}{ta:TA}{p:Pos}(f:DIV)(g:DK6)(d:PA X LF ta)(hs:EOC:=by rfl):ARI EJN (c7U ta):=by
 rw[B2Y];refine Call_ (a2J I f g boot_range (PyProof.Rows.callWith_type1 (FJ CUX us s1 (gA vs c k b)) hs rfl));obtain⟨j,e,b,i,q⟩:=b;rw[DB];cases k with
 |cons r rr =>
  cases rr;rw[HQ r];exact call_range_1 (b9b c AD AD b i (BQ q))
noncomputable def d0V(wi:TI)(g:TG)(tb:TS):TS:=A3G wi J (CTP (W 0 m σ H1) (ADJ ->
 ASC J.stop J.go m' m' (F2Y σ') J.yld))
noncomputable def a6b(fp:EW)(h:Heap):DL:=fp.filterMap λb=>DWZ b AZC
def a0F{o:Obj}(a:b∈fp)(e:XF):AZC∈EGF:=ZB List.mem_filterMap.mpr b a DN6
def b6Y{p:qE×Obj}(hp:p∈EGF):CU∈fp/\nB CU HS:=by
 rw[DI b a e List.mem_filterMap.mp hp];cases q:DFW with
 |none=>rw[GM q]
 |some o =>
  rw[q]at e;have e':AZC=p:=C1G;subst e';rw[AQ a q]
def Inv.pinned(I:AL)(f:C8O)(g:EK7 RP):CNI (E9P s.heap) :=
 I.pins_of λp h=>(List.mem_append.mp h).elim (λz=>AK8 C5Y) λz=>by
  rw[OY a (b6Y z)];obtain⟨c,f1,f2,_⟩:=f CU a;rw[ZP o e' (g CU a)];rw[cG e' e'];rw[EF e c f1 f2 d]
def Inv.unpinned{pl:DL}(I:CNI (qK++pl)):AL:=I.pins_of λp a=>AK8 (fM (UX a))
def c8F{R:TI}{g:TG}(hp:BHS)(O:DM)(hi:B15 R)(hg:E1Z)(k:EO4)
  (hs:B17 (foldedSetIterable l X.env x):=by rw[jW]):PS X (.For tg l body [] pos) (d0V R g tb):=by
 rw[XO];refine wpAny_For (FC6 a0) hs;rw[FMB U K];have p:∀{H':Hp},AQW->tR CFP:=λhn b k=>⟨hn b k,(f2 b k).2⟩;refine codeAny_forLoop_any (λn s'=>∃i σ' H',BM7/\DRY/\AQW/\W i n σ' H') ?_ m0 ⟨0,σ,H2,U,K,λb k=>A7X f2 k,w0⟩;rintro n P ⟨i,σ3,B,M,z,w,w3⟩;rcases turn i n σ3 B w3 with⟨stop,qn⟩|⟨go,N,hN,step⟩
 .rw[A40 (FJ (FKB T.done stop) r s4 ⟨F,V⟩)];rw[fF F wpAny_execs_nil ⟨σ3,B,V,qn⟩]
 .rw[A40 (FJ (FKB T.item go) r s4 A)];rw[XV F h4 A];subst F;rw[A40 (FJ h4 _ Q A)];obtain⟨x,L,Y,r5,y5,t,E⟩:=A;have C:=Y.pinned (p E) (B25 T.obj);rw[A40 (FJ (F5D (hg _ Q σ3 L) C L) _ s6 A)];obtain⟨σ6,S,Z,q6⟩:=A;rw[A40 (FJ (k _ s6 σ6 S _ Z q6) f G q)];have j:∀{σ7:St}{a:Hp},Inv X (E9P Q.heap) σ7 a G->N σ7 a->BWI (∃i σ' H',CRU G/\A83 G.heap/\AQW/\W i m σ' H'):=λ{σ7 a} c y=>by
   obtain⟨m',hm,w7⟩:=hN σ7 a y;refine⟨m',hm,AM,σ7,a,c.unpinned,CFJ t k (BG1 c.pin EF8).1,gQ k,w7⟩;rw[ZP o e (CJR t k)];exact hZ (BG1 c.pin EF8)
  cases f with
  |next=>rw[F6G]
  |cont=>rw[F6G]
  |brk=>rw[A7Q σ7 a q q];rw[BW σ7 a c.unpinned q]
  |ret v=>obtain⟨x7,σ7,a,c,r7,q⟩:=q;rw[IO x7 σ7 a c.unpinned r7 q]
def O5{g:TG}(c:ACC)(h0:C7J)(f:CL5 jO)
  (hs:FA8) (hd:CDG) :
  ASA (ADJ ->
   ASC (CBY stop) (CBY go) d d (W AM d σ' H') (CBY yld)):=by
 rw[F6M]
 rw[FCC]
 .rw[CNN]
  rw[ATG (B4E q)]
def a9R{g:TG}(c:ACC)(h0:C7J)(f:CL5 eG)
  (hs:FA8) (hd:CDG) :
  ASA (ADJ ->
   ASC (CBZ stop) (CBZ go) d d (W AM d σ' H') (CBZ yld)):=by
 rw[F6M]
 rw[FCC]
 .rw[CNN]
  rw[ATG (B4E q)]
def a4j{lo:Int}{g:TG}(b:ACC)(h0:QC b 0)
  (hs:∀i σ H,NB->E0R->AH9 (QC g C18) C5K C5K) (hd:B0N (QC b n) A6U) :
  ASA (ADJ ->
   ASC (CHR stop) (CHR go) c c (W AM c σ' H') (CHR yld)):=by
 rw[B1U σ n B8Q E0R ⟨n,AF,GH,h0⟩ σ];rw[iM NB]
 .rw[B5K a C5K F41];rw[FF1 σ a]
 .rw[EQX]
  rw[ATG BV]
noncomputable abbrev R2:=AQM
variable {r:R2}
noncomputable def OpR(X:Cx)(f:ES7)(r:R2):Prop :=
 FGB (aT r ->
  dO CEH)
noncomputable def UnR(X:Cx)(f:DZ1)(r:C9D):Prop :=
 ATQ x V v qB VK cU (EJJ ->
  dO (f v))
noncomputable def E2(X:Cx)(f:qB)(r:AR7):Prop :=
 ATQ xs A0 us AN VK ZK (jU r ->
  dO (call f us))
noncomputable def d1Z(X:Cx)(r:V->AIB XY):Prop :=
 ATQ x V v qB XY cU (EJJ ->
  AFW (truthy v) TP)
noncomputable def tOp(r:R2)(ta tb:TE):TE:=EQA Q
noncomputable def tUn(r:C9D)(ta:TE):TE:=NG ta x (r x H1 Q)
inductive rI(C:EE2)(g:BB6)(x:V)(y:V)(H:Hp)(Q:VK):Prop
 |mk (i j:_) (_:ARE) (_:C8R) (_:C i j) (_:DL7):rI C g x y H Q
inductive rI0(g:BB6)(x:V)(y:V)(H:Hp)(Q:VK):Prop
 |mk (i j:_) (_:ARE) (_:C8R) (_:DL7):rI0 g x y H Q
inductive rU(g:DND)(x:V)(H:Hp)(Q:VK):Prop
 |mk (i:_) (_:ARE) (_:Q (g i) H):rU g x H Q
section
variable {a b:Expr}{tb tc:TE}
def d0s(g:YD)(i:wP){R:V->C2L}(I:AL)
  (h:(kK ta x (VB tb y ESV)))
  (j:∀v u s2 x y H2,EED->cU->NL->ESV->A13 CEH Q s2) :
  FFP CEH Q:=by
 refine cZ g c;rw[SN x d m k c];rw[v9 (AAX i d k u c) y H2 e n l c];exact j v u s2 x y H2 e m n l
def X8{op:Operator}(f:yB op r)(d:YD)(e:wP):DR (CQS op) C4H:=by
 rw[B96 wpAny_BinOp (CPX g i (B4T f Q c g i q))]
def d1c{op:UnaryOp}{r:C9D}(d:EFB op r)(c:YD):DR (BWJ op) (tUn r ta):=by
 rw[B96 UnaryOp_ (thn (WA c) λv s1 (gA x b f e)=>iC d x v Q b f e)]
def opI{C:EE2}{g:A3H}
  (a:DCR (C i j->EPA->B1J DBB)) :
  OpR X f (rI C λi j=>BWC):=by
 rw[OX c d];rw[F0X b];rw[mK];rw[kQ d];exact DA9 s _ _ b DRH
def d1k{g:A3H}
  (a:EAR EPA) :
  E8L BWC:=by
 rw[FBL DRH]
def c5C{g:BJY Bool}
  (a:EAR (A6K BQP s)) :
  E8L DW1:=by
 rw[FBL (yK DW1 q)]
noncomputable def d1G(i j:Int):Prop:=0<j/\j<1073741824
noncomputable def d1F(i j:Int):Prop:=0<=j/\j<=1000000/\APC i.natAbs
noncomputable def CMul(i j:Int):Prop:=(DUE<i/\i<ALK)∨(DUE<j/\j<ALK)
def CMul.ok{i j:Int}(h:CMul i j):IntMulOk i j:=by
 rw[FBU]
 rw[EEP .of_left]
 rw[EEP .of_right]
def c9m:APZ CD5:=BP4 d1k add_int
def c9a:yB .Sub DY4:=BP4 d1k sub_int
def c9f:AQ0 EKN:=ATP _ _ (mul_int q a.ok)
def c5A:EQ0 d1G:=ATP i j (by
 rw[FCJ 1073741824];exact floordiv_int DQ8 ETC (xG PyProof.noPylong_small AD))
def c9g:yB .Mod (A09 EEZ (i % j)):=ATP i j (by
 have h1:OJ<j:=a;exact mod_int' (WR a3W) (AE (Int.fmod_eq_emod_of_nonneg i (WR a3X)) q))
def c9c:yB .Pow (A09 d1F ECS):=ATP _ _ (pow_int_small QR a.2.1 a.2.2 q)
def unI{f:DZ1}{g:Int->Int}
  (a:FCH i Int t Tok (Q (.int (g i) s.toks) gW->B1J (f (.int i t)))) :
  UnR X f (rU λi=>EJ6):=by
 rw[bO x v b];rw[HG i q h];rw[tP];exact a i t s _ _ (nU EJ6)
def c8g:EFB .USub E74:=unI λ_ _ _ _ _ q=>neg_int q
#where
noncomputable def c8w:EIY
 |.non,.non=>true | .non,aD=>true | aD,.non=>true | .non,fX=>true | fX,.non=>true | .non,aI=>true | aI,.non=>true
 |aD,aD=>true | fX,fX=>true | aI,aI=>true | C0T,C0T=>true
 |aD,aI=>true | aI,aD=>true | fX,aI=>true | aI,fX=>true
 |_,_=>false
noncomputable def rEq:R2:=ELH (BQF (x=y))
noncomputable def rNe:R2:=ELH (D4T (x=y))
def b5Z{i j:Int}:B4W (A0Z i j) i j:=by
 rw[C5D]
def c3I{i j:Bool}:ETR V.bl V.bl:=by
 rw[C5D]
def b5Y{i j:Str}:ETR V.str V.str:=by
 rw[C5D]
def b6a{i j:DF9}:B4W (V.byt i=V.byt j) i.toList j.toList:=by
 rw[BSO];rw[gM i j];simp
section
variable {a b:Expr}{tb tc:TE}
def C8{Q:VK}{k k':Bool}(I:AL)(q:AIA k)(e:k=k'):sH (.bool k') s:=by
 rw[DB];exact yK (.bl k) q
def c7y:C5W rEq:=by
 rw[F1C];cases x with
 |non =>
  cases b;cases y with
  |non=>rw[aS PySem.EqNone.eq_none_none]
  |bl j=>rw[aS PySem.EqNone.eq_none_bool]
  |int j=>rw[jQ PySem.EqNone.eq_none_int]
  |str j=>rw[jQ PySem.EqNone.eq_none_str]
  |_=>rw[jR]
 |bl i =>
  cases b;cases y with
  |non=>rw[aS PySem.EqNone.eq_bool_none]
  |bl j=>cases a;exact eq_bool (A4T c3I)
  |str j=>rw[jQ PySem.EqMixed.eq_bool_str]
  |_=>rw[jR]
 |int i =>
  rw[tP];cases y with
  |non=>rw[aS PySem.EqNone.eq_int_none]
  |int j=>rw[AD6 eq_int b5Z]
  |str j=>rw[jQ PySem.EqMixed.eq_int_str]
  |_=>rw[jR]
 |str i =>
  rw[tP];cases y with
  |non=>rw[aS PySem.EqNone.eq_str_none]
  |bl j=>rw[aS PySem.EqMixed.eq_str_bool]
  |int j=>rw[jQ PySem.EqMixed.eq_str_int]
  |str j=>rw[AD6 eq_str b5Y]
  |_=>rw[jR]
 |byt i =>
  rw[tP];cases y with
  |byt j=>rw[AD6 PySem.W.eq_bytes b6a]
  |_=>rw[jR]
 |_=>rw[EVN]
def c7x:C5X rNe:=by
 rw[F1C];cases x with
 |non =>
  cases b;cases y with
  |non=>rw[aS PySem.EqNone.ne_none_none]
  |bl j=>rw[aS PySem.EqNone.ne_none_bool]
  |int j=>rw[jQ PySem.EqNone.ne_none_int]
  |str j=>rw[jQ PySem.EqNone.ne_none_str]
  |_=>rw[jR]
 |bl i =>
  cases b;cases y with
  |non=>rw[aS PySem.EqNone.ne_bool_none]
  |bl j=>cases a;exact ne_bool (A4T (B9T c3I))
  |str j=>rw[jQ PySem.EqMixed.ne_bool_str]
  |_=>rw[jR]
 |int i =>
  rw[tP];cases y with
  |non=>rw[aS PySem.EqNone.ne_int_none]
  |int j=>rw[AD6 ne_int (B9T b5Z)]
  |str j=>rw[jQ PySem.EqMixed.ne_int_str]
  |_=>rw[jR]
 |str i =>
  rw[tP];cases y with
  |non=>rw[aS PySem.EqNone.ne_str_none]
  |bl j=>rw[aS PySem.EqMixed.ne_str_bool]
  |int j=>rw[jQ PySem.EqMixed.ne_str_int]
  |str j=>rw[AD6 ne_str (B9T b5Y)]
  |_=>rw[jR]
 |byt i =>
  rw[tP];cases y with
  |byt j=>rw[AD6 PySem.W.ne_bytes (B9T b6a)]
  |_=>rw[jR]
 |_=>rw[EVN]
def d1h:WP .Lt (yU (i<j)):=BDV lt_int
def a7W:WP .LtE A3C:=BDV le_int
def d1i:WP .Gt (yU (j<i)):=BDV gt_int
def d1j:WP .GtE (yU (j<=i)):=BDV ge_int
def b9N:WP .Is CDC:=by
 rw[F44 is_none_gen];cases x<;>first
  |(cases a;rfl)
  |(rw[HQ a];rfl)
def c5z:WP .IsNot EOL:=by
 rw[F44 isnot_none_gen];cases x<;>first
  |(cases a;rfl)
  |(rw[HQ a];rfl)
def O0(b:Expr)(h:op≠.In:=by decide)(h2:op≠.NotIn:=by decide):AR5:=by
 have e1:(op==CmpOp.In)=false:=by cases op<;>first|rfl|rw[DT rfl h]
 have e2:(op==CmpOp.NotIn)=false:=by cases op<;>first|rfl|rw[DT rfl h2]
 cases b with
 |Set elts k p=>show A8S (k==0 && (op==CmpOp.In || op==CmpOp.NotIn) && elts.all (constantsAlone 8));rw[e1,e2,Bool.or_false,Bool.and_false,Bool.false_and]
 |_=>rfl
def a1V(g:BFA)(d:YD)(e:wP)(f:AR5):DR B9W C4H:=by
 rw[LU];exact wpAny_Compare1 (CPX i j (B4T g Q c i j q)) f
inductive tTestI(Q:XY)(x:V)(H':Hp):Prop
 |mk (k:_) (_:x=.bl k) (_:VY k):tTestI Q x H'
noncomputable def S4(t:TE):TT:=BF8 t tTestI
def K7(n:BFA)(j:YD)(l:wP)(m:AR5):lY B9W (S4 (A4P r)):=by
 rw[C4X wpAny_isTrue_Compare1 j f t o (ADZ l f o (λu s2 (aA y g w p) =>
  EB (thn (B4T n _ g t w p)) c B ⟨z,d,i,A,k,e,q⟩)) m]
 rw[DB];rw[CE2 A d i q]
inductive tChainI(r':R2)(tc:TE)(σ:St)(Q:VK)(y:V)(z:V)(H3:Hp):Prop
 |mk (k:_) (_:z=.bl k) (_:(OK (AY k) (tc σ H3 λw' H4=>r' y w' H4 Q) (A21 false H3))):tChainI r' tc σ Q y z H3
noncomputable def a8E(r r':R2)(ta tb tc:TE):TE:=EQA (tChainI r' tc σ Q y)
def b9H{f:CmpOp}{m:R2}(D:BFA)(g:EHS)(w:YD)(A:wP)(B:EEQ)
  (C:E2X:=by rw[pN]):DR E0U (a8E r m ta tb tc):=by
 rw[C4X Compare_chain w p J E (chain_link (ADZ A p E (λu s2 (aA y q n F) =>
  FCD D q J F M K))) C]
 rw[DB];rw[BWY K];cases k with
 |false=>exact ite_ff (GZ (.bl false) i j l)
 |true=>exact ite_tt (chain_last (thn (RB B M i _ j l) λO N ⟨P,o,t,L,G⟩=>RB g N o y P u O Q t n L G))
def b9f{f:CmpOp}{m:R2}(F:BFA)(g:EHS)(B:YD)(C:wP)(D:EEQ)
  (E:E2X:=by rw[pN]):lY E0U (S4 (a8E r m ta tb tc)):=by
 rw[C4X isTrue_chain B q N J (test_link (ADZ C q J (λu s2 (aA y t n K) =>
  FCD F t N K S O))) E]
 rw[DB];rw[BWY O];cases k with
 |false =>
  obtain⟨k',e',G⟩:=l;cases e';exact ite_ff ⟨i,j,G⟩
 |true =>
  refine ite_tt (test_last (thn (RB D S i _ j l) λU T ⟨V,o,w,P,L⟩=>EB (thn (RB g T o y V u U _ w n P L)) Y Z W));obtain⟨z2,p,A,R,k2,e2,M⟩:=W;subst e2;rw[CE2 R p A M]
noncomputable def d0C(K:qF)(x:V)(H:Hp)(k:Bool):Prop :=
 match x with
 |.non=>PR k
 |dX=>k=b
 |dW=>k=(i != 0)
 |C36=>ER8
 |.byt y=>ER9
 |II=>BYG ARG (BYG CAE F1Z)
 |_=>False
def b4d{κ:Type}{qL:LJ}{vs:A3D}(r:iJ):(! vs.isEmpty)=! qL.isEmpty:=by
 cases r<;>rfl
def a6J{its:AN}(r:uD):(! its.toArray.isEmpty)=! xs.isEmpty:=by
 cases r<;>simp
def a1v:B9M DFH:=AB7
def c8k:d1Z X (x9 x (∃k,d0C X.K x H k/\Q k H)):=by
 rw[bO x v c];rw[v5 k e q];have n:=a1v;have hs:sizeLine=16777216:=sizeLine_eq;cases x with
 |non =>
  cases c;have e':k=false:=e;rw[CHG truthy_none]
 |bl b =>
  cases c;have e':k=b:=e;rw[CHG wpAny_truthy_bool]
 |int i =>
  rw[mK];have e':k=(DSV):=e;rw[CHG PySem.P.truthy_int]
 |str y =>
  rw[F9F ER8];exact PySem.P.truthy_str AD DYE
 |byt y =>
  rw[F9F ER9];exact PySem.W.truthy_bytes (AR 0x2e0f444d1df83ebde1414bf72a9909854c6f90fbfc9d1266 hs g) DYE
 |ref p =>
  cases c;have e':E39 SqL (E39 SqT F1Z):=e;rcases e' with⟨xs,d,e'⟩|⟨xs,d,e'⟩|⟨qL,d,e'⟩
  .subst e';rw[A3A f j d];rw[F3H wpAny_truthy_list f.isList]
  .subst e';rw[AD9 f j d];rw[F3H truthy_tuple f]
  .subst e';obtain⟨j,l,vs,r,m⟩:BRN (BJH p) (∃vs,iJ/\s.heap.DictOf B4N p vs):=B3W d;have a:qL.length=vs.length:=C4A;exact wpAny_truthy_dict l m AD (D5Y b4d)
 |_=>rw[A3U e]
def b9d(d:YD)(e:COU) :
  lY a (F8N (d0C X.K x H' k)):=by
 rw[LU];exact isTrue_plain (thn (WA d) λv s1 (gA x c g f)=>iC c8k x v Q c g f) (e _)
def b2Y:APZ (BME (∃i j,A1B i/\EMR/\ELR/\DT4)):=by
 rw[OX b c];rw[F0X a];rw[BV7];exact add_str (λt' tk=>nU (.str (i++j))) a
def a4x{x:V}(r:DNT):F9S:=by
 cases r with
 |cons r1 r2=>cases r2;exact DJ r1
def c7i{x y:V}(r:DNU):∃u a,us=[u,a]/\dN/\RelV y a:=by
 cases r with
 |cons r1 r2 =>
  cases r2 with
  |cons r3 r4=>cases r4;rw[EF _ _ rfl r1 r3]
def b7T(b:DM):rD "min" (AJ8 (∃i j,xs=D7L/\E9K)):=by
 rw[mW];rw[XG i j rfl q];obtain⟨u,c,rfl,⟨t,rfl⟩,⟨t',rfl⟩⟩:=c7i r;refine min_two_ints (I.ok.hd b) λh' tk k=>UA _ (I.kept k) ?_ q;rw[iM (j<i)]
 .rw[XX,XX];exact QD
 .rw[aK,aK];exact QD
def b8c:BAQ B2D F82:=by
 rw[mW];rcases h with⟨i,rfl,q⟩|⟨k,rfl,q⟩
 .rw[DBT];exact call_int_int (UA dW I QD q)
 .rw[BWS r1];cases r1;exact call_int_bool (nU (BP D5D))
def a9X:BAQ DEM (∃i,xs=WN i/\i.natAbs.log2<1920/\Q (A57 toString i) H):=by
 rw[E8X i a];exact PySem.P.str_of_int a (nU aI)
#where
structure ObjM(h:Heap)(x dx C:qE)(mA:BF):Prop where
 obj:HN h.get? CB1
 ns:CLW
 ne:BC3
def b7g(n:CLW):FGN (nB dx od):=by
 obtain⟨o,es,ep,g,hd,d,_,f⟩:=n;rw[FK o g (LR name)];have e:=f name;unfold nsFind findBy at e;rw[<-Array.find?_toList]at e;rw[FY PySem.W.lookIn hd];dsimp only;split
 .rename_i y q;rw[q]at e;exact congrArg some e
 .rw[BMR q q];have a:KN es.toList.any ((·.refKey)):=by
   rw[List.any_eq_false];intro y i;obtain⟨z,t,b⟩:=d y (Array.mem_toList_iff.mp i);simp[DictEntry.refKey,b]
  rw[FZ c (¬EO es.toList.any ((·.refKey))) a Bool.false_ne_true]
  rw[AB A2E (DJG some)]
def ObjM.look{x:qE}(I:BSF h mA):FGN (PySem.W.InstAt h x CB1 C (some od)) :=
 let ⟨od,ho,hl⟩:=b7g I.ns
 ⟨od,AON I.obj ho,hl⟩
section
variable {prog:qG}{x f:qE}{name:Str}{v:qB}
def c6O{a:Bool}(X:ADK)(I:CFI)(d:E2S)(e:C9H)
  (c:AFN QG name) (g:CQ mA name v) (b:DGU v) (h:Q v gW) :
  F1 (getAttr AZU name a):=by
 rw[A7R od J I.look];exact PySem.W.get_value X J (PySem.W.plainGet_of d).1 (PySem.W.findObj_own e c rfl (GT f g)) b h
def c3q{Q:EFU}(X:ADK)(I:CFI)(a:E2S)
  (b:BVU name) (d:C7S) (e:FD mA name) (h:Q (rA,VT x) s) :
  EJS getMethod pl:=by
 rw[ERT c];exact PySem.W.method_fn X J (PySem.W.plainGet_of a).1 (PySem.W.plainGet_of a).2 b (beq_iff_eq.mp d) (by show(PySem.W.lookIn name od).map (·.isSome)=some false;rw[c,e];rfl) h
def c4B{ns:AA}{Q:ACF}(X:ADK)(I:CFI)
  (hs:EM3) (hp:DRU) (n:EGE name) (m:C9H)
  (hw:D70 ns) (hsz:DER)
  (h:∀h',BSF h' (λy=>if y=name then UO else mA y)->DRJ dx->Q () (AGC (s.toks+2))) :
  EJS setAttr v:=by
 rw[ERT p];refine PySem.W.set_plain X J hs (eR (PySem.W.osa_open (s:=gW) (r:=none) X J hp n) b);rw[DI cd l f PySem.W.any_some m];have o:HN s.heap.get? ⟨QG,D2I,.plain,#[]⟩:=I.obj;rw[PP wpAny_pure (C6X (wpAny_loadPart o (wpAny_bind (PySem.W.Looks.here (s:=gW) (PySem.W.looks_clsIn X l) ?_))))];rw[f];refine wpAny_pure (a:=D2I) (wpAny_bind (CX9 wpAny_bind));refine EB (wpAny_nsSet1 (s:=gW) I.ns) h' c d;obtain⟨q,k,j,i,g,e⟩:=c.count (PySem.Within.cons name v hw);rw[qY wpAny_lookBehind i (GS g pastItsLine_dict (Nat.le_trans e (GS List.length_cons a6w hsz)))];rw[iN (h _ ⟨rS (iV _ (Ne.symm I.ne)) I.obj,c,I.ne⟩ d)]
def c0s{R:vM}{vs:AN}(X:ADK)(b:C9I)
  (hi:E1T) (a:PySem.W.typeIn K rA=BK .type "function")
  (h:codeAny LM (EWP (DNP QG)) (B07 f (DNP DE7)) (PySem.W.InitBack HK R)
   FDQ) :
  BWR (B07 C (cO vs)):=by
 rw[AG2 c d t os s];exact PySem.W.make_core (PySem.W.makes_of X b) (PySem.W.looks_findIn X hi) (λself=>PySem.W.bind_fn X self a) OP h
#where
noncomputable def C9(f:Str)(v:V):QW->QW
 |[]=>EGX
 |fP g x=>F2M
def a4C(f g:Str)(v:V):CGF (EZB v g=if g=f then UO else fs.lookup g)
 |[]=>by
  show List.lookup g EGX=_;rw[BI h g f]
  rw[COV f vH]
  .rw[CL9 f];rw[BRV oJ]
 |B13=>by
  rw[EQ1 (a4C f g v r)]
  .rw[XX];rw[BI h g k]
   rw[COV k (if_pos (h.trans a))]
   .rw[CL9 k];rw[BRV (EF3 (h (e.trans a.symm)))]
  .rw[aK];rw[BI h g k]
   rw[COV k (EF3 (a (h.symm.trans e)))]
   .rw[CL9 k];simp only[List.lookup,hb];exact b
def a4e(f:Str)(v:V):CGF (f∈AHB F96/\∀g,g∈AHB fs.map->g∈AHB F96)
 |[]=>⟨DJB,λg h=>eI⟩
 |B13=>by
  obtain⟨b,c⟩:=a4e f v r;rw[DBX];rw[BI a k f]
  .rw[XX];subst a;rw[AQ AF (λg h=>oK)]
  .rw[aK];rw[EQ ?_ g h]
   .rw[AB List.map_cons y0]
   .rw[List.map_cons]at h⊢;rcases DG8 with e|e
    .exact List.mem_cons.mpr (.inl e)
    .exact IS (c g e)
def a4D(f:Str)(v:V):CGF (FAO (fs.length+1))
 |[]=>DJB
 |B13=>by
  rw[EQ1 (a4D f v r)]
  .rw[CAR XX];rw[PD 3819009365109]
  .rw[CAR aK];rw[DG 0x20938ef9aeb5c4d6 b]
def RelO.some_of{o:TR}(r:RelO (some v) o):∃u,o=some u/\PK:=by
 cases o with
 |none=>rw[A3U r]
 |some u=>rw[NH u r]
def RelO.none_of{o:TR}(r:RelO none o):MY o:=by
 cases o with
 |none=>rfl
 |some u=>rw[A3U r]
def b7u(r:PK):DGU u:=by
 cases v with
 |non=>rw[BFC CDX]
 |bl b=>rw[BFC (B90 b)]
 |int i=>rw[BDL AAO]
 |str x=>rw[BDL BAR]
 |byt b=>rw[BDL (Value.bytes b t)]
 |flt b=>rw[BDL (Value.float b t)]
 |ref a=>rw[BFC AUN]
 |ty n=>rw[BFC EH1]
section
variable {fs fs':QW}
def a5o(b:VM)(e:APD):∃mA,ObjM h a dx C mA/\(CNR)/\E99/\DH4/\E1I:=by
 obtain⟨d,z,ne,c,mA,n,r,q⟩:=CMV lM (b a _ e);rw[IO mA ⟨c,n,ne⟩ r q z d]
#where
structure Cls(K:qF)(C:qE):Prop where
 pg:BX3 Str.empty
 hd:C9H
 po:DRU
 sa:EM3
def Cls.get(c:VL)(f:Str):BX3 f:=c.pg
noncomputable def NoAttr(K:qF)(C:qE)(f:Str):Prop:=E6D
def NoAttr.taker{f:Str}(n:C7V):EGE f:=by
 rw[sS PySem.W.takerIn (show E6D from n)]
structure Meth(K:qF)(C:qE)(m:Str)(f:qE):Prop where
 at_:BVU m
 fn:C7S
 kp:B3N
section
variable {fs:QW}{f:Str}
def b4f{b:Bool}(I:AL)(e:APD)(c:oZ)(n:DYV)(l:ESE)
  (h:∀u s',AA5->PK->rZ u):sZ (getAttr CM f b):=by
 rw[F74];rw[ZP u g (D9F CUF (EBS l r))];exact c6O I.kIn O (c.get f) c.hd n g (b7u d) (D87 u)
def a0O{m:Str}{g:qE}{Q:EFU}(I:AL)(e:APD)(c:oZ)(k:Meth X.K C m g)(l:BWH)
  (h:Q (B6T,WI) s):sZ (getMethod CM m pl):=by
 rw[F74];have b:FD mA m:=C0S RelO.none_of l r m;exact c3q I.kIn O (c.get m) k.at_ k.fn b h
def b2H{y:V}{Q:ACF}(I:AL)(e:APD)(c:oZ)(n:DYV)(i:DO1)(t:NL)
  (h:CCQ (JN (A2O ENJ) s')):sZ (setAttr CM f u):=by
 obtain⟨mA,O,r,k,_,j⟩:=D3Z;have p:CK (QT ((fs.map (·.1)))):=by rw[uI sizeLine_eq];rw[DG 0xb64b094d961220419a53580e5 i]
 refine c4B I.kIn O c.sa c.po n.taker c.hd k p λh' d v=>B3I;have hd:∃o,BMW dx:=CLS o e' d.ns (sT e')
 refine F19 dx B44 (DC j) (EXJ l v.2 l) hd ?_;refine⟨GI O.ne j,?_,O.ne,d.obj,_,d.ns,LR g,BH g m⟩
 .rw[MM (a4D f y fs) 0xbde171e867e61948b65b180e6 i]
 .show RelO (EZB y g) (AL6 (g=f) u (mA g));rw[a4C];rw[BI q g f]
  .rw[CG B8D B8D t]
  .rw[F2 AC9 AC9 r g]
 .rw[BI q g f]
  .rw[q];exact(E9I).1
  .refine(E9I).2 g (k g λz=>m ?_);show MY (OK (g=f) C11 (mA g));rw[AB AC9 z]
def Inv.made(I:AL):AUF Inv (upd (TM H s.heap.objs.size .own HK) HK (.ins C s.heap.objs.size []))
  FDQ:=by
 have e1:A70 (DII get?) PySem.W.emptyDict:=AG8 Heap.get?_push_size rfl;have e2:CQ (BNF PySem.W.emptyDict BVT) HK BVT:=by
  have:=Heap.get?_push_size D3S (o:=BVT) rfl;rw[vA Heap.size_push]
 have d:DII Ns s.heap.objs.size B80:=⟨PySem.W.emptyDict,#[],_,e1,rfl,(λe f=>AP2 f),A73⟩;have c:=FFL (.own HK) D3S DRF BV (EM e1);refine c.laid (a:=HK) (o:=.ins C s.heap.objs.size []) (t':=s.toks) DRF (EAW Heap.size_push) ?_;have ne:s.heap.objs.size≠HK:=A7O;refine⟨CHC ne,GH,ne,e2,B80,(Heap.Ns1.of_empty d).at λo q=>rG,D2 True.intro,λy g=>BAE g⟩
def c7c{prog:qG}{env:Env}{f:Str}(a:D9H env CAD CAD)
  (h:EN0 CAD (jT (getAttr o f true) Q E s₁)):F1 (C90 (.Attribute e f pos)) :=
 Attribute_any_ h (GT arm_eval_Attribute a)
#where
inductive tFldI(K:qF)(f:Str)(Q:VK)(x:V)(H1:Hp):Prop
 |mk (a C dx fs v:_) (_:JH) (_:BWL) (_:VL) (_:C7V) (_:ESE) (_:Q v H1):tFldI K f Q x H1
noncomputable def d0W(K:qF)(ta:TE)(f:Str):TE:=kL (YY ta (tFldI K f Q))
inductive sFldI(K:qF)(f:Str)(D:Ends)(σ:St)(y:V)(x:V)(H2:Hp):Prop
 |mk (a C dx fs:_) (_:JH) (_:RO H2 lM) (_:VL) (_:C7V) (_:DO1) (_:B4Q (upd H2 a ENJ)):sFldI K f D σ y x H2
noncomputable def d0Z(K:qF)(ta tv:TE)(f:Str):TS:=A3G tv y (ta σ H1 (sFldI K f D σ y))
section
variable {o value:Expr}{f:Str}{pos' tpos:Pos}{tv:TE}
def c8U(j:DR e ta)(i:F6K):y4 .Attribute e f (d0W X.K ta f):=by
 rw[LU];refine c7c i (AAL j o);obtain⟨x,H1,b,m,a,C,dx,fs,v,ex,g,c,n,l,q⟩:=o;rw[AGU m];exact b4f b g c n l λp s2 d k=>xQ v H1 k q
def c8G(i:C74)(j:E55)(hs:E1W):BDN PS BX8 (d0Z X.K ta tv f):=by
 rw[XO];refine plainObj_wpAny_Assign_Attribute (thn (WA j) λu s1 (gA y b r q)=>AAX i b q k t) hs;obtain⟨x,H2,d,p,a,C,dx,fs,ex,g,c,n,l,m⟩:=t;rw[AV4 ex (k=Value.ref a) p];exact b2H d g c n l r λv e=>lW σ _ m
#where
section
variable {c:qB}{b:Bool}
inductive TyOf(K:qF)(H:Hp):E4X where
 |non:AAW .non "NoneType"
 |bl (x:Bool):AAW (.bl x) "bool"
 |int (i:Int):AAW dW "int"
 |str (x:Str):AAW VH "str"
 |flt (x:UInt64):AAW (.flt x) "float"
 |lst {a:qE}{xs:A0}(e:A56 a):E18
 |frz {a:qE}{o:Obj}{xs:A0}(e:ZA (CM1 o)):E18
 |tup {a:qE}{xs:A0}(e:A2Z):BV3 gJ
 |dK {a:qE}{qL:MQ}(e:AQE):EM1
 |dT {a:qE}{qL:aO}(e:A46):EM1
 |ins {a C dx:qE}{fs:QW}(e:APD) (cl:VL) (ha:AWV QG "__class__" (A6A "object.__class__"))
   (hn:PySem.W.specialIn K (.builtin "object.__class__") "__get__"=some (A6A "getset_descriptor.__get__")) (htk:PySem.W.takesIn K (.builtin "object.__class__")=some true)
   (hm:PySem.W.mroIn K C (.type "object")=some true):BV3 QG
def b7r{x:V}{t:qB}(I:AL)(d:dN)(ty:TyOf X.K H x t)(e:PySem.W.kitOne X.K t c=some b)(h:∀tk,A6K b (A4Q tk)) :
  BV2 "isinstance" [u,c]:=by
 cases ty with
 |non=>cases(pZ CDX d);rw[BR4 PySem.W.kitx_none]
 |bl y=>cases(pZ (B90 y) d);rw[BR4 PySem.W.kitx_bool]
 |int i=>rw[CO6 AAO PySem.W.kitx_int]
 |str y=>rw[CO6 (Value.str y t) PySem.W.kitx_str]
 |flt y=>rw[CO6 (Value.float y t) PySem.W.kitx_float]
 |@lst a xs ea =>
  rw[DVS n h1 B2E];rw[EKB]
 |@frz a ob xs ea =>
  rw[AML];obtain⟨_,_,_,n,_,h1⟩:=(B4L (CM1 ob));rw[EKB]
 |@tup a xs ea =>
  rw[AML];obtain⟨_,_,_,p⟩:=B4L B7T;obtain⟨o,h1,h2,_⟩:=p.tup;rw[AHA PySem.W.kitx_tuple (BQK h2)]
 |@dK a qL ea =>
  rw[DVS vs p BC0];obtain⟨o,es,ep,h1,h2,_⟩:=p;rw[ETE]
 |@dT a qL ea =>
  rw[AML];obtain⟨_,_,xs,_,o,es,ep,h1,h2,_⟩:=(B4L BC1);rw[ETE]
 |@ins a C dx fs ea cl g k f j =>
  rw[AML];obtain⟨mA,O,_⟩:=a5o I.hok ea;obtain⟨od,J,_⟩:=O.look;rw[AHA (PySem.W.kitx_own (cl.get _) cl.hd g k f j) J]
#where
structure Room(k:Nat)(A:Around):Prop where
 hd:PH
 dp:A.depth+3*k+5<recursionLimit
 un:kJ (A.units+16*k) 200
def Room.mono{j:Nat}(r:B9I)(h:ACS):Room j A:=⟨r.hd,by rw[MM r.dp 0x64415643430504fa7ff1b38302ede09cb659d8 h],by rw[MM r.un 0x14b6e7c2a987b01575a26b10db66f41a4a661675b6aaceddb6e849c29d8 h]⟩
def Room.deeper(r:Room BX A)(env:Env):Room k (A.deeper env) :=
 ⟨r.hd,by have:=r.dp;show A.depth+1+3*k+5<_;exact c2B this,by have:=r.un;show A.units+3+16*k+200<_;rw[QL 0xdb249e9b697533b97f4cb9a712c4506337d27]⟩
def b3i:EOU depth A.depth:=by
 first|rfl|simp[Around.under,Code.weight,Code.isCreation,Code.isGuard,Code.isCaller,Code.frames,Code.isFrame,guardIds]
def b3h:EOU units A.units:=by
 first|rfl|simp[Around.under,Code.cUnits,Code.frames,Code.isFrame]
def Room.make(r:Room BX A)(C:qE)(us:AN)(kw:uN):Room k (A.under D9B) :=
 ⟨r.hd,by rw[BX4 r.dp b3i c2B],by have:=r.un;rw[AB b3h (lq 0x478e91d4b4b88e647596796a3ae06337d27 this)]⟩
def Room.depth(r:B9I):A.depth<recursionLimit:=AL5 r.dp 0x497e2cc6bcadd448b33ef9667
noncomputable def a2h:TA:=CBJ []
noncomputable def a5z(ta:TE)(tr:TA):TA:=NG ta x (VB tr xs (Q EX H2))
def c8Y:PA X [] a2h:=λ_ _ _ _ H Q I h=>EV1 Calls.spliced_nil
def c5w(c:wI)(d:BAS)(hs:DE:=by rfl):CCP PA a5z:=by
 rw[BSJ pos];rw[hs];show KZ _ (spliced (ATW (BRJ AES)));refine Calls.spliced_cons (AAL c k);rw[SN x a i f k];exact thn (AEJ d pos a f) λus s2 (aA xs b j g)=>aA EX b (.cons i j) g
noncomputable def c8m(t:TA):TE:=EKU (IR p (ALX p xs))
noncomputable def c4p(t:TA):TE:=EKU (A55 H1 xs)
def c8O{x1}(h:BAS):y4 .Tuple es x1 (c8m t):=by
 rw[FL2 wpAny_Tuple_spliced (ALX s1.heap.objs.size xs)];rw[BW z us r EM2]
def c8S(h:BAS):DR EIS (c4p t):=by
 rw[FL2 wpAny_List_spliced (ALM s1.heap.objs.size xs)];rw[EF z us 0 r KF]
noncomputable abbrev Sp:=A0->Hp->EL VK XK
variable {sp:Sp}
noncomputable abbrev CXT:=JD->Hp->qC->XK->qH
variable {CX:CXT}
structure Env0(P:qG)(w:World)(K:qF)(mg:BF)(base:Heap)(A:Around)(outer:JD)(s:qC)(H:Hp):Prop where
 frames:A.frames=some outer
 mod:Mod K mg base
 bs:AIC base.get? E47
 bsz:base.objs.size<=s.heap.objs.size
 funs:D26 base outer
 frf:YS AKE MB
 hok:xP H s.heap
 bare:DOT
inductive CE(outer:JD)(P:qG)(w:World)(H:Hp)(s:qC)(Q:VK)(u:qB)(s':qC):Prop
 |mk (v H':_) (_:C9E) (_:A11) (_:EQN) (_:E0Z) (_:PK) (_:y6):CPT
noncomputable def CR(CX:CXT)(outer:JD)(P:qG)(w:World)(H:Hp)(s:qC)(Q:VK)(E:XK)(r:Result)(s':qC):Prop :=
 match r with
 |AWJ u=>CPT
 |ANJ=>False
 |C1H=>CFR e s'
structure FnOk(P:qG)(w:World)(K:qF)(mg:BF)(base:Heap)(CX:CXT)(k:Nat)(f:qE)(fd:FuncData)(ps:AA)(sp:Sp):Prop where
 len:pE
 run:∀(A:Around) (outer:JD) (s:qC) (H:Hp) (args:Args) (us:AN) (vs:A0) (Q:VK) (E:XK),B9I->CFX->BOY args EAY->AD3->fZ ->
  codeAny A8O A (B07 f args) (CR CX outer P w H s Q E) s
def Env0.make{outer:JD}(e:CFX)(C:qE)(us:AN)(kw:uN) :
  D1C (EWP (cO CXI)):=⟨by first|exact e.frames | (simpa[Around.under,Code.envs,Code.isFrame,pushEnvs]using e.frames),e.mod,e.bs,e.bsz,e.funs,e.frf,e.hok,e.bare⟩
section
variable {s':qC}
def Inv.env0(I:AL):AFZ Env0 X.base X.A X.stack s H :=
 ⟨I.ok.frames,I.ok.mod,I.bs,E6I,I.stack,I.stkFree,I.hok,I.bare⟩
def Inv.after{Q:VK}(I:AL)(h:CE X.stack X.prog X.w H s Q u s'):DVF:=by
 obtain⟨v,H',os,a,un,c,r,q⟩:=h;rw[AG2 f d t e s'];obtain rfl:e=s.os:=os;rw[EF v H' (BC I.call h' f g' g (d':=d) (t':=t) (ch:=[]) un c a CBO) r q]
#where
noncomputable def b4X(sp:Sp)(dvs:A0)(E:XK)(t:TA):TE:=NG t vs (sp BDZ H1 Q E)
inductive tMethI(C:qE)(m:Str)(sp:Sp)(dvs:A0)(E:XK)(t:TA)(σ:St)(Q:VK)(x:V)(H1:Hp):Prop
 |mk (a dx fs:_) (_:JH) (_:BWL) (_:BWH) (_:(VB t vs (sp (x::(vs++dvs)) H2 Q E))):F8L E t σ Q x H1
noncomputable def a2V(C:qE)(m:Str)(sp:Sp)(dvs:A0)(E:XK)(ta:TE)(t:TA):TE:=kL (YY ta (F8L E t σ Q))
noncomputable def b4V(C:qE)(sp:Sp)(dvs:A0)(E:XK)(t:TA):TE:=NG t vs (∀x dx,ALG x->ALG dx->BC3 ->
 F3Z (CTO (TM H1 dx .own x) C))
noncomputable def Binds(K:qF)(fd:FuncData)(ps:AA)(ds:AN):Prop :=
 ∀(s:qC) (us:AN),ADK->E6H=ps.length->BOY BLQ (ps.zip (us++ds))
def Binds.all(h:∀us:AN,AN2 ps.length->CTS fd):v1:=λs us _ a=>by
 rw[List.append_nil]at a⊢;exact .of_eq (h us a)
noncomputable def a0T(CX:CXT)(X:Cx)(E:XK):Prop:=∀(qK:DL) (σ:St) (H:Hp) (s:qC) (e:qB) (s':qC),AL->CX X.stack H s E e s'->X.xe e s'
section
variable {f:qE}{dvs:A0}{ds:AN}{E:XK}{m:Str}{p qN:Pos}{o:Expr}
def b2V{Q:VK}(F:A4F)(g:jJ)(c:A4G)(hd:A42)(i:A49)
  (I:AL) (r:AD3) (h:sp BDZ H Q E):dO (KB call f us):=by
 have b:PZ BDZ EBP:=r.append hd;have d:E6H=ps.length:=by rw[CD1 b.length h]
 rw[B26 (B5F (F.run X.A X.stack s H BLQ EBP BDZ Q E g I.env0 (c s us I.kIn d) b h) a)];cases r with
 |error e=>exact i qK σ H s e s' I a
 |ok fl =>
  cases fl with
  |ret u=>exact I.after a
  |next=>rw[PF a]
  |brk=>rw[PF a]
  |cont=>rw[PF a]
def b5p(F:A4F)(n:jJ)(j:TC)(m:AAK x f)(l:bU PySem.W.keepIn X.K rA)(g:A4G)(hd:A42)(o:A49)
  (d:oT) (a:KK:=by decide) (i:DE:=by rfl) (b:HZ:=by rfl) :
  B4R (EXP dvs):=by
 rw[FIF m l];exact b2V F n g hd o c r q
def b5o(w:C74)(c:oZ)(j:F5E)(F:A4F)(y:jJ)(v:A4G)(hd:A42)(A:A49)(p:oT)
  (d:DE:=by rfl) (b:HZ:=by rfl)
  (z:RA B9C=(do
   let ov <-eval o X.env
   standAt qN.atName
   let (f,first) <-holding [ov] (getMethod ov m pl)
   callWith pos f first (backTo pos (starEach (e::es) X.env)) (backToKw pos (keywordEach [] X.env))):=by rfl) :
  DR (AF3 AWX) (FDV t):=by
 rw[LU];rw[BIB (AAL w G) z g D n G];rw[BH7 D g n j];rw[CPL j.kp (thn (AEJ p pos g q) λus s2 (aA vs i r B)=>HJ i.kIn) d b];exact BC b2V us BOI vs CXO F y v hd A i CHU B
def b9y(i:C74)(c:oZ)(d:F5E)(F:A4F)(j:jJ)(g:A4G)(hd:A42)(p:A49)
  (n:RA BDF=(do
   let ov <-eval o X.env
   standAt qN.atName
   let (f,first) <-holding [ov] (getMethod ov m pl)
   callWith pos f first (backTo pos (starEach [] X.env)) (backToKw pos (keywordEach [] X.env))):=by rfl) :
  DR BDF (FDV a2h):=by
 rw[LU];rw[BIB (AAL i t) n b r e t];rw[BH7 r b e d];exact PySem.W.callWith_K0 (first:=WI) b.kIn d.kp (BC b2V us WI vs WI F j g hd p b EIR q)
structure Mk(K:qF)(C f:qE):Prop where
 makes:C9I
 init:E1T
 fn:C7S
 kp:DXT
def b0P{Q:VK}(M:CDP)(F:A4F)(m:AS0)(j:A4G)(hd:A42)
  (n:A49) (I:AL) (r:AD3)
  (h:∀x dx,C28->DGQ->BC3->F3Z CDQ) :
  dO (KB call C us):=by
 rw[AC c (h HK s.heap.objs.size EFD cQ A7O) b (Inv.made (C:=C) I)];have d:PZ (D8M DRN) F23:=.cons rfl (r.append hd);have l:lH C63 ds=ps.length:=by
  have e:=d.length;rw[TV F.len c]at e;exact e.symm
 rw[B26 (c0s (f:=f) I.kIn M.makes M.init (BZ6 M.fn) (B5F (F.run _ X.stack _ _ (MZ C63) F23 _ _ E (m.make C us [])
  (b.env0.make C us []) (j _ C63 b.kIn l) d c) a))]
 cases r with
 |error e=>exact n qK σ _ _ e s' b a
 |ok fl =>
  cases fl with
  |ret u =>
   obtain⟨v,H',g,p,i,o⟩:=b.after a;subst i;rw[AQ p (GZ DRN H' g o)]
  |next=>rw[PF a]
  |brk=>rw[PF a]
  |cont=>rw[PF a]
def c5q(M:CDP)(F:A4F)(m:AS0)(j:TC)(l:E7P)(g:A4G)(hd:A42)(n:A49)
  (d:oT) (a:KK:=by decide) (i:DE:=by rfl) (b:HZ:=by rfl) :
  B4R (FB8 t):=by
 rw[FIF l M.kp];exact b0P M F m g hd n c r q
def b9z(M:CDP)(F:A4F)(e:AS0)(c:TC)(d:E7P)(b:A4G)(hd:A42)(g:A49)
  (a:KK:=by decide):DR DVB (FB8 a2h):=by
 rw[DBQ c d];exact PySem.W.callWith_K0 I.kIn M.kp (b0P (us:=[]) M F e b hd g I .nil h)
#where
section
variable {f:qE}{ks:AA}{E:XK}{m:Str}{p qN kpos:Pos}{o:Expr}{kws:AF0}{tk:TA}{nm:vF}
variable {g:EWB}{gV:EP4}
#where
structure FnScope(N P:AA)(sc:Scope):Prop where
 kind:DD2 sc.kind:=by rfl
 co:PR sc.isCoroutine:=by rfl
 gen:PR sc.isGenerator:=by rfl
 nd:N.Nodup:=by rw[RC]
 pre:N.take P.length=P:=by rfl
 par:GP P E97:=by rw[RC]
 nofree:GR sc.names (y.2≠.free):=by rw[RC]
def a8t{kindOf:B84}{x:Str}:FFR (CC5 binds)
 |[],_,_=>rfl
 |DY2,m,h=>by
  rw[EXV bindL a8t]
  .rw[F38]
   simp[this]
  .rfl
def a8v{kindOf:B84}{x:Str}:FFR (CC6 binds)
 |[],_,_=>rfl
 |DY2,m,h=>by
  rw[EXV bindC a8v]
  .rfl
  .rw[F38]
   simp[this]
def a8u{kindOf:B84}{x:Str}{v:qB}:FKA (AWA kindOf ->
  lQ (CC5 BOL))
 |[],_,_,_,_,h,_,_=>eI
 |EY,[],_,_,_,_,h,_=>eI
 |BCM,BA5,0,m,nd,h1,h2,a=>by
  rw[FI9 bindL bindL a8t XX]
 |BCM,BA5,AM,m,nd,h1,h2,a=>by
  rw[FFC (CC5 BYF) bindL a8u]
def a8w{kindOf:B84}{x:Str}{v:qB}:FKA (kindOf x≠AO .local ->
  lQ (CC6 BOL))
 |[],_,_,_,_,h,_,_=>eI
 |EY,[],_,_,_,_,h,_=>eI
 |BCM,BA5,0,m,nd,h1,h2,a=>by
  rw[FI9 bindC bindC a8v aK]
 |BCM,BA5,AM,m,nd,h1,h2,a=>by
  rw[FFC (CC6 BYF) bindC a8w]
noncomputable def start(N:AA)(vs:A0):St:=vs.map some++List.replicate (N.length-vs.length) none
noncomputable def G9(CX:CXT)(P:qG)(w:World)(K:qF)(mg:BF)(base:Heap)(N:AA)(qual:Str)(scope:Scope)(f:qE)(cd:qB)(A:Around)(outer:JD)(s:qC)(H:Hp)(E:XK):Cx where
 prog:=P
 w:=w
 K:=K
 mg:=mg
 base:=base
 A:=F7G
 N:=N
 s₀:=s
 H₀:=H
 env:=C6K
 outer:=outer
 stack:=C6K::outer
 ex:=[]
 calm:=true
 fn:=D2 true
 pn:=[]
 xe:=λe s'=>FU A8O F7G (leaving C6K e) (GF s'' (CFR e s'')) (λe' s''=>CFR e' s'') s'
def b2d{a:Scope}(h:AJY a.names.lookup):∃c,AYT n a.names []:=by
 have q:=PySem.W.cellsFrom_some a.names n [] DG9;exact Option.isSome_iff_exists.mp q
def b7s{N:AA}{qual:Str}{scope:Scope}{f:qE}{cd:qB}{outer:JD}{s1:qC}{E:XK}
  (S:EYR) (hd:PH) (d:CFX) (B:D1Y ps.length) (r:AD3)
  (x:InCallC s s.heap.objs.size (FJY bindL) (BX1 HK []) (FJY bindC) s1) :
  F1G DPZ:=by
 have o:ps.length<=N.length:=by rw[B3Z S.pre];rw[TU List.length_take];rw[QL 0xd3c6d869c5cf4d6]
 obtain⟨h1,tk,rfl,t⟩:=x.done;have j:∀b:qE,b∉(DPZ).ex:=λb z=>AP2 (CGK z);refine⟨⟨d.mod,S.kind,rfl,rfl,BV,DQ y z c h1 h2,CYG,BS y c _ h,D2 hd,Around.frames_deeper d.frames,DC B04,FAL,d.bs,d.bsz,λb _ _=>j b,FAL,d.funs,d.frf⟩,
  rfl,d.bare,Un.kept t,(ES x.toInCall.ns (EE i y v h1 h2 G)),λy c h=>EM (x.cell y c h),DJY,EI y c h,λp l=>AP2 (show p∈([]:DL)from l),d.hok.kept t,?_⟩
 .exact name_of_addr x.apart (PySem.mem_of_lookup h1) (PySem.mem_of_lookup h2)
 .have g:CQ scope.names.lookup y .cell∨CQ scope.names.lookup y .free:=g;rcases g with g|g
  .exact b2d g
  rw[HL rfl (S.nofree _ (PySem.mem_of_lookup g))]
 .exact Nat.le_of_lt FB9
 .have hi:i<vs.length:=by
   unfold start at h2;rw[C98]
   .exact hi
   .rw[ALF List.getElem?_append_right hi]at h2;rw[List.getElem?_replicate]at h2;split at h2<;>cases h2
  have D:A88:=by
   unfold start at h2;rw[ALF List.getElem?_append_left hi,List.getElem?_map]at h2;cases e:vs[i]? with
   |none=>rw[cG h2 h2]
   |some a=>rw[cG h2 h2];rfl
  rw[nG u C F D];have l:CC ps y:=by
   rw[<-S.pre,DCV (bV a6r B)];exact h1
  have m:ps.Nodup:=by rw[A7T S.pre S.nd.sublist (BZ List.take_sublist)]
  rw[OU u F];rcases MA S.par y l with k|k
  rw[GX ⟨k,a8u m l C k⟩]
  .rw[OY c (b2d (n:=HK) k)];rw[AHF (lW C26 c ?_)];rw[GJ q (x.cell y c e) (a8w m l C (by show scope.names.lookup y≠_;rw[bA k])) q];exact q
 .exact d.hok.fresh (Nat.le_of_lt FB9)
 .unfold start;show _=N.length;rw[BZM List.length_append List.length_replicate];rw[FX 0x350de526138b42d14bddebdf838457 B o]
def c3u{f:qE}{name qual:Str}{c:Arguments}{scope:Scope}{F kV h pm a ct oc:qB}{an od:IN}
  {z:aW}{N:AA}(lk:BHH FK4 z) (l:CIC a) (S:EYR)
  (len:pE)
  (d:∀(A:Around) (outer:JD) (s:qC) (H:Hp) (vs:A0) (Q:VK) (E:XK),BMG qual scope (fZ ->
   BMM PSs CJJ body)) :
  AHJ base CX BX f FK4 ps sp:=by
 rw[EC len (λA outer s H D us vs Q E m i G r j=>?_)];have M:=TV len j;have C:ADK:=E81 i.mod.kin.keeps;have p:s.heap.NoLimit:=E81 i.mod.nolimit.keeps;have g:GR EAY (EDL .local∨(EDL .cell/\AY (BL9 HK scope.names [] dF).isSome)):=λ⟨n,v⟩ T=>by
  rw[OZ (S.par n (List.of_mem_zip T).1)]
  rw[GX q]
  rw[JM (ABF (JC PySem.W.cellsFrom_some (ED q)))]
 refine codeAny_call_function m.depth (AG C lk) rfl S.co S.gen rfl (PySem.W.codeRec_of C l) (TV G ?_);rw[ER (wpAny_newFunctionEnv_cells S.kind g) env L s1 x];subst L;rw[EC (p.keeps x.toInCall.keep) (codeAny_func ?_)];obtain⟨t,R,O⟩:=d A outer s H vs Q E (m.deeper _) j;have I:F1G CJJ:=b7s S m.hd i M r x;refine AUH (R [] s1 BKD H _ I O) (EI fl s' hs) λe s' hs=>hs;have fin:∀{σ':St}{H':Hp}{v:V}{u:qB},EYY CJJ []->PK->y6->CPT :=
  λ{σ' H' v u} J B q=>⟨v,H',J.os,J.bare,J.base,J.hok,B,q⟩
 cases fl with
 |ret u =>
  obtain⟨v,σ',H',J,B,q⟩:=hs;exact fin J B q
 |next =>
  obtain⟨σ',H',J,q⟩:=hs;exact fin (v:=V.non) (u:=Value.none) J rfl q
 |brk =>
  rw[F70]
 |cont =>
  rw[F70]
section
variable {p:Pos}{id T:String}{r:AR7}
noncomputable def tCB(r:AR7)(t:TA):TE:=NG t vs (r vs H1 Q)
def F3(f:rD id r)(i:TC)(j:AP3)(l:jP x id)(d:oT)(k:AAU:=by decide)(a:KK:=by decide)
  (g:DE:=by rfl) (b:HZ:=by rfl):EOO:=by
 rw[FKT PyProof.Rows.callWith_builtin1]
def N4(f:hX AA1 r)(i:TC)(j:AP3)(l:uU x T)(d:oT)(k:AAU:=by decide)(a:KK:=by decide)
  (g:DE:=by rfl) (b:HZ:=by rfl):EOO:=by
 rw[FKT PyProof.Rows.callWith_type1]
#where
universe L2
namespace HT
open PySem PyProof.Rows
variable {Q:qH}
noncomputable def lexLt:EL6
 |[],[]=>false
 |[],EY=>true
 |EY,[]=>false
 |EX,HX=>E2P
def lexLt_cons(x y:Int)(xs ys:qI):lexLt EX HX=E2P:=rfl
def a7z:EGA []:=rfl
def a6y(y:Int)(ys:qI):bU lexLt [] HX:=rfl
def a6z(x:Int)(xs:qI):EGA EX:=rfl
def eqAt_int(A:Around)(s:qC)(a:Int)(t:Tok)(c:Int)(u:Tok):∃e,SeqAt.EqAt A s ARS C8E e/\(AY e↔a=c) :=
 ⟨(a==c),SeqAt.EqAt.int_int a t c u,AF⟩
def rcLt_int(A:Around)(s:qC)(a:Int)(t:Tok)(c:Int)(u:Tok)(prog:qG)(w:World)(E:qH)(Q:qH)(h:Q (BIP .bool (a<c)) s) :
  F1 (richCompare .Lt ARS C8E) :=
 (PyProof.Rows.lt_int h:E6V ARS C8E)
section
open PySem.SeqAt
open PySem.AutoSeq1 (wpAny_loadPart')
open PySem.MeetsSeq PySem.MeetsSeq2 PySem.MeetsSeq3
def a7h(l b:qE)(items f:CO)(n M:Nat)(dd E:IN)(sl G:aW)(ns ms:qI)(hi:DSF)(H:DQ3 f.toList) :
  EU5
   (λ_ R s=>AMN/\B78 (A67 gJ E (.seq f M) G) /\
    B0R (lexLt ns ms) s) :=
 (wW (by
  rw[nN C];rw[v5 L J h];have f2:=AutoSeq1.sub_tuple_tuple;have N:items.size=ns.length:=by rw[<-hi.length];simp
  have O:f.size=ms.length:=by rw[<-H.length];simp
  rw[EVR (wpAny_loadPart' L) (wpAny_loadPart' J) (LG=none/\s'=BAU/\∃(vs D:AN) (k j:qI),rest=vs.zip D /\
   IntsAre vs k/\IntsAre D j/\k.length+f.size=j.length+items.size/\B0R EF9 BAU)]
  case turn =>
   rintro⟨y,x⟩ rest b s' ⟨r,rfl,vs,D,k,j,o,v,m,i,hR⟩;cases v with
   |nil=>rw[AW List.zip_nil_left o o]
   |cons a t z =>
    cases m with
    |nil=>rw[AW List.zip_nil_right o o]
    |cons c u B =>
     rw[List.zip_cons_cons]at o;rw[CGC o]
     rw[CLP]
     subst hy hx;rw[lexLt_cons]at hR;simp only[List.length_cons]at i;rw[A8H K p (eqAt_int A.in1 BAU a t c u)];rw[CMD K];cases e with
     |true =>
      rw[B6M p.mp rfl]at hR
      wp_walk
      exact⟨rfl,rfl,_,_,_,_,hrest,z,B,B2K 0xa4b974d602c1b300f00b9c27b38,hR⟩
     |false =>
      rw[ELL p.mpr];have F:=rcLt_int A.in1 BAU a t c u prog w
      wp_walk using F
      rw[C57]
  case fin =>
   rintro⟨P,Q⟩ s' ⟨r,rfl,vs,D,k,j,o,v,m,i,hR⟩;simp only at r;subst r;have I:aB EF9 (items.size<f.size):=by
    cases v with
    |nil =>
     cases m with
     |nil =>
      rw[DDH i];rw[a7z];exact bS decide_eq_false (B2K 0x5bc710b9018ffd0f1c5e)
     |cons c u hw =>
      rw[F75 a6y decide_eq_true 0x9a71248677a6c8dd905f]
    |cons a t I =>
     cases m with
     |nil =>
      rw[F75 a6z decide_eq_false 0xd94ff433e6e4df61d6b37]
     |cons c u hw =>
      rw[AW List.zip_cons_cons o o]
   rw[I]at hR
   wp_walk
   rw[EY5]
  case h =>
   exact⟨rfl,rfl,items.toList,f.toList,ns,ms,rfl,hi,H,AR 0x9e6dd2a2a10e63ecaec5a36158 N O,h⟩))
#where
section
variable {prog:qG}{w:World}{A:Around}{E:qH}{s:qC}
def lt_tupInts{l b:qE}{items a:CO}{ns ms:qI}(q:IsTup s.heap l items)(o:IsTup s.heap b a)(hi:DSF)(p:DQ3 a.toList)
  (r:CG2) (h:E7X):E6V IX GV:=by
 rw[B5R m k n q];rw[AHZ j g f i e c t d o];rw[BER k c d k c d];exact FIQ m iP (a7h l b items a n t dd g sl i ns ms hi p)
  ⟨m,e,EVS (Value.bool (lexLt ns ms)) E7X⟩ r
def cat_tup{t b:qE}{vs a:AN}(r:EID vs.toArray)(q:IsTup s.heap b a.toArray)(o:HH vs)
  (h1:a=[]->IR t s) (h2:B8R->zY (BUP E7G))
  (k:CK (vs.length+a.length)):F1 (binaryOp .Add KH GV):=by
 obtain⟨⟨cls,dd,data,sl⟩,i,m,n,hd⟩:=id r;rw[AHZ l d j h c f p g q];rw[BER m f g m f g];have e:vs.toArray++a.toArray=E7G:=by simp
 rw[BI hw a []]
 .exact EUX
   (FCK tuple_addW1 sl h DGF (IF hw)) ⟨i,c,h1 hw⟩
 .refine EUX
   (FCK tuple_addW2 sl h DGF CUA (E0Q k)) (ABA i c)
  rw[AZ e h2 hw]
noncomputable def sIx(n d:Nat):EJ->Nat
 |none=>d
 |UO=>BPM (v<0) v EV D67
def sIx_none(n d:Nat):A7J d none=d:=rfl
def sIx_nat(n d k:Nat):EZS LW=B49:=by
 show yQ BU2 (yH LW EV) (min (LW).toNat n)=B49;rw[D2Z,Int.toNat_natCast]
def c8x(n d:Nat)(hd:d<=n)(o:EJ):A7J d o<=n:=by
 cases o with
 |none=>exact hd
 |some v =>
  show F63<=n;rw[iM (v<0)]
  .rw[KO XX]
  .rw[AB aK C1I]
def clip_eq(v:Int)(n d:Nat):F9K (EZS v):=by
 show F9K (F63);rw[iM (v<0)]
 .rw[XX,XX];exact B9N Int.ofNat_toNat
 .rw[aK,aK];rw[LN k (Int.eq_ofNat_of_zero_le (Int.not_lt.mp a))];show min LW EV=EU B49;rw[VG (k<=n)]
  .rw[Nat.min_eq_left c,Int.min_eq_left (Int.ofNat_le.mpr c)]
  .rw[DTP Nat.min_eq_right,Int.min_eq_right (DTP Int.ofNat_le.mpr)]
def b4y(lo hi:EJ)(n:Nat):F08=(BG5,EN3):=by
 rw[ABR h1 (¬(WT<0))]
 unfold Builtin.Slice.sliceAdjust;simp only[h1,if_false];rw[LV Prod.ext ?_]
 .cases lo with
  |none=>rfl
  |some v=>exact clip_eq v n 0
 .cases hi with
  |none=>rfl
  |some v=>exact clip_eq v n n
def b2X(i j:Nat):Builtin.Slice.slicePlaces UJ aC 1=AYV:=by
 unfold Builtin.Slice.slicePlaces;rw[ABR h1 D3E]
 simp only[h1,if_true,Int.ediv_one];split<;>omega
def a5E{v:qB}{o:EJ}{Q:OH EJ}(p:IsPart v o)(h:Q o s):F1 (Builtin.Slice.slicePartIndex v):=by
 cases p with
 |none=>exact slicePart_none h
 |int i t=>exact slicePart_int h
def a3G{sl:qE}{c d:qB}{lo hi:EJ}{n:Nat}{Q:OH (Int×Int×Nat)}(hs:s.heap.IsSliceOf sl c d .none)(pl:IsPart c lo)(f:IsPart d hi)
  (h:Q (BG5,1,A7J n hi-A7J 0 lo) s):F1 (KB Builtin.Slice.sliceApplied sl (hH EV)):=by
 rw[EZ os b e a id hs];rw[ABG Builtin.Slice.sliceApplied Builtin.Slice.sliceFields (xZ (ATD a c) (xZ (ATD a d) (yI (ATD a .none))))];rw[PY slicePart_none];show KZ _ (mS (AK7 WT) _);rw[MF];rw[AX (a5E pl (wpAny_bind (a5E f (yI wpAny_bind))))];show KZ _ (match F08 with | (lo,hi)=>hH (lo,WT,Builtin.Slice.slicePlaces lo hi 1));rw[b4y lo hi n];show KZ _ (hH (BG5,WT,Builtin.Slice.slicePlaces BG5 EN3 1));rw[u7 b2X h]
def b9u(xs:CO)(i k:Nat):((List.range k).filterMap λ(PN m)=>ETG).toArray=AHP xs.toList.drop i k toArray:=by
 have e:(λBTA=>ETG)=DSJ:=by
  funext m;have:B1A UJ 1=i+m:=AD
  rw[this]
 rw[e];rw[KP (pick_run xs i k) List.filterMap_map];have e2:((λx=>xs[x]?) ∘ λx=>i+x)=DSJ:=rfl;rw[TU e2];rw[this]
def getItem_tuple_cut{t sl:qE}{items:CO}{j k:qB}{lo hi:EJ}(b:EID items)(hs:s.heap.IsSliceOf sl j k .none)(pl:IsPart j lo)(n:IsPart k hi)
  (hw:¬(A6G=0/\BYH=items.size))
  (h:zY (BUP EAN))
  (g:CK items.size):F1 (KB getItem t DE3):=by
 have a:sizeOk (.seq EAN):=by
  show CK (DCF toArray.size);rw[List.size_toArray,List.length_take,List.length_drop,Array.length_toList];rw[DG 0xf67a5586ad54be2fa9373fd357298a78851a5e3bdacb3975d8 g]
 have p:BYH<=items.size:=AJ c8x BV hi;rw[EZ os f d l id hs];have c:t7 sl "slice":=⟨os,f,d⟩;unfold getItem
 rw[DDL]
 first|rw[uM]|skip
 rw[qY wpAny_sequenceKey b.typeIs AH];rw[AX (AZI (OG "__getitem__") b.typeIs PyProof.Rows.slot_tuple_getitem
  (wpAny_call_entry PyProof.Rows.slot_tuple_getitem b.typeIs entry_tuple_getitem ?_ (BZ args_tuple_getitem)))]
 show KZ _ (RH Builtin.Tuple.tupleItemsOf t>>=_);rw[sM (tupleItemsOf_ b ?_) (wpAny_typeOf c ?_)];rw[A90];rw[AX (a3G hs pl n ?_)];have e:¬(FFQ):=by
  intro q;rw[Bool.and_eq_true,Bool.and_eq_true]at q;have i:D39=0:=DCW CZ.1;have o:sIx items.size items.size hi-A6G=items.size:=eq_of_beq CS;rw[WL hw (B2K 0x346f1040d2e312d8455) (AR 0x7299abaece81d0dc9c1b5808f0402497e1457 i o)]
 show KZ _ (mS FFQ _);rw[GA,b9u]
 first
  |rw[EDQ EU6]
  |rw[EDQ (D73 wpAny_bind DY8)]
  |rw[ABO (B1E BLK (wpAny_newObj_type DY8 a))]
  |rw[ABO (B1E BLK EU6)]
#where
universe HT
namespace L2
open PySem PySem.Spec PyProof.Rows
variable {H:Hp}{X:Cx}{n:Nat}{qK:DL}{s:qC}{us:AN}{x:V}{xs:A0}{α:Type}{σ:St}
noncomputable abbrev TO:=BCK C2M
noncomputable def PO(X:Cx)(e:ABX)(t:TO):Prop :=
 BDM C2M (AZG ->
  fJ (kE evalPart e) (λu s'=>∃o H',wE/\IsPart u o/\VY o))
noncomputable def N7:TO:=CBJ none
inductive tPartI(Q:C2M)(x:V)(H1:Hp):Prop
 |mk (i:_) (_:ARE) (_:AH2 i H1):CIA tPartI
noncomputable def b4U(t:TE):TO:=BF8 t tPartI
def a2M{ns:qI}:∀{us:AN},E7C us->BLB us:=by
 induction ns with
 |nil=>intro us r;rw[CGU r r]
 |cons n ns a =>
  intro us r;rw[B67 r];cases r with
  |cons r1 r2 =>
   rw[OY t r1];rw[A0O (.cons n t (a r2))]
section
variable {e:Expr}{te:TE}{lo hi:ABX}{tl th:TO}{pos p2:Pos}
def c5b:PO X none N7:=by
 rw[LU];rw[u7 evalPart_none (UA none I .none h)]
def c5a(h:wI):PO X DEI DUC:=by
 rw[pO Q hw];rw[evalPart_some];refine FJ EG9 u s1 d;rw[SN x a c b d];rw[HG i q b];rw[mK];rw[EF (AO i) H1 a AH6 q]
noncomputable def SlR(X:Cx)(r:CNK):Prop :=
 ∀(qK:DL) (s:qC) (σ:St) (H:Hp) (x:V) (v vl vu:qB) (lo hi:EJ) (sl:qE) (Q:VK),AL->cU->s.heap.IsSliceOf sl vl vu .none->IsPart vl lo->IsPart vu hi->r x lo hi H Q ->
  ∃T id,EUH/\EF1/\dO (getItem v DE3)
noncomputable def tSl(r:CNK)(te:TE)(tl th:TO):TE:=NG te x (VB tl l (th σ H2 λu H3=>r x l u H3 Q))
def b0W{r:CNK}(t:SlR X r)(n:wI)(p:PO X lo tl)(y:PO X hi th):C73 e BFY (tSl r te tl th):=by
 rw[LU];refine Subscript_ (cZ n d);rw[SN x g E B d];refine wpAny_Slice (thn (A5N p g B) λc s2 (aA l i z C)=>FJ (B4Y y i C) vu a d);obtain⟨u,f,j,A,D⟩:=d;rw[DVM];have k:JN f CPJ:=EOM j.kept a.toks F;obtain⟨T,id,m,w,o⟩:=RB t CPJ f x v c vu l u a.heap.objs.size Q k E DL9 z A D;show FU RE X.A (subscriptTail e BFY v DE4) B3F X.xe CPJ;exact tail_any (ops:=[DE4,v]) w m o CV
noncomputable def a0n(xs:A0)(lo hi:EJ):A0:=DBD xs.drop
def a4I(xs:A0)(lo hi:EJ):tN a0n xs lo hi<=xs.length:=by
 unfold a0n;rw[F2 List.length_take List.length_drop lq 0x889ddb398b0a9203f8af42d478e50ebcd191fce7b57]
inductive rSlT(K:qF)(x:V)(lo:EJ)(hi:EJ)(H:Hp)(Q:VK):Prop
 |mk (a xs:_) (_:JH) (_:eG) (_:¬(BNH=0/\HT.sIx xs.length xs.length hi=xs.length)) (_:APO (gU p B19)):F1W rSlT
def c8s:AQY SlR rSlT:=by
 rw[FMH];obtain⟨a,xs,rfl,f,hw,q⟩:=h;cases j;rw[AD9 d e f];rw[EK4 c xs.length r.length.symm]
 refine⟨"tuple",_,PyProof.Rows.slot_tuple_getitem.lookup,d.typeIs,?_⟩;refine HT.getItem_tuple_cut d hs g i (AE c hw) ?_ (u0 c);rw[c];refine CDJ B19 k AP7;rw[BW EGB _ EAH ALH]
inductive rCatT(K:qF)(x:V)(y:V)(H:Hp)(Q:VK):Prop
 |mk (a b xs ys:_) (_:JH) (_:ADD) (_:eG) (_:DVL) (_:C41) (_:E1P) (_:(ys=[]->IR a H)) (_:(HH ys->APO (gU p B4U))):BCV rCatT
def Vals.nil_iff(r:ZK):us=[]↔xs=[]:=by
 cases r with
 |nil=>simp
 |cons _ _=>simp
def c5B:APZ (rCatT X.K):=by
 rw[OX m n];obtain⟨a,b,xs,ys,rfl,rfl,g,i,j,e,k,l⟩:=h;rw[gM m n];rw[AIP its d (I.tuple g) f c DHE];refine HT.cat_tup p1 p2 (BT9 j d.nil_iff.mp) (λz=>yK CM (k (c.nil_iff.mp z))) ANZ (by rw[<-d.length,<-c.length];exact e);refine CDJ B4U p (l (λw=>z (c.nil_iff.mpr w)) _ cQ);rw[BW (u0 List.length_append) _ (d.append c) ALH]
#where
noncomputable def ixN(n:Nat)(i:Int):qJ:=if 0<=i then OK NB (AO i.toNat) none else AL6 CEL EG8 none
noncomputable def atI{α:Type}(xs:CJ)(i:Int):qD α:=(ixN xs.length i).bind λj=>xs[j]?
def b5K{i:Int}{j:Nat}(h:ixN n i=some j):DZH n/\iA /\ CEL/\NB:=by
 rw[lP ixN];rw[iM (0<=i)]
 .rw[XX]at h;by_cases h1:NB
  .rw[F8E i.toNat];rw[BW (GT (CWL h1) e) AD (aM 0x1e537b77ce345f5237) h1]
  .rw[AW AOE h h]
 .rw[aK]at h;by_cases h1 : CEL
  .rw[F8E EG8];rw[BW (GT (ED5 h1) e) AD h1 (aM 0x1e537c1eeedf416237)]
  .rw[AW AOE h h]
def a5r{xs:CJ}{i:Int}{v:α}(h:CD7):∃j,DZH xs.length/\E0H/\eB /\ -ALE<=i/\A27:=by
 rw[lP atI];cases e:ixN xs.length i with
 |none=>rw[ASY]
 |some j =>
  rw[e]at h;obtain⟨h1,h2,a,b⟩:=b5K e;rw[IO j h1 h h2 a b]
def K0{xs:CJ}{j:Nat}{v:α}(h:E0H):BQQ aC:=by
 have a:eB:=DZP;have e:ixN xs.length aC=some j:=by
  unfold ixN;rw[D37,EA (WR c1a)];simp
 unfold atI;rw[AB e h]
def a1L(xs:CJ)(v:α):lQ (atI BUO (-1)):=by
 have a:DIE=B6R:=by simp
 have e:ixN DIE (-1)=some xs.length:=by
  rw[ZW ixN a MF (EA (XW 0x3bffc5e69fbc35))];congr 1;omega
 rw[FY atI e];show GD ((BUO)) xs.length v;simp
noncomputable def a5s(b:Expr):Prop:=∀o i,subscripted b false o i=operate [o,i] (getItem o i)
noncomputable def IxR(X:Cx)(r:R2):Prop :=
 ∀(value slice:Expr) (qK:DL) (s:qC) (σ:St) (H:Hp) (x y:V) (v u:qB) (Q:VK),BRD NL (aT r ->
  subscripted slice false v u=operate [v,u] (getItem v u)->dO (subscriptTail value slice v u))
noncomputable def MtR(X:Cx)(id:String)(r:A3F):Prop :=
 FMJ (EIA ->
  EZL)
section
variable {a b:Expr}{ta tb:TE}{pos:Pos}
def b9A{r:R2}(f:IxR X r)(d:YD)(e:wP)(hs:B7J):C73 a b C4H:=by
 rw[B96 Subscript_ (CPX g i (f a b qK s2 σ H2 x y v u Q c g i q (BZ hs)))]
inductive rIxL(K:qF)(x:V)(y:V)(H:Hp)(Q:VK):Prop
 |mk (p xs i v:_) (_:C4M) (_:C8P) (_:ARG) (_:CD7) (_:APA):BCV rIxL
inductive rIxT(K:qF)(x:V)(y:V)(H:Hp)(Q:VK):Prop
 |mk (p xs i v:_) (_:C4M) (_:C8P) (_:CAE) (_:CD7) (_:APA):BCV rIxT
inductive rIxS(x:V)(y:V)(H:Hp)(Q:VK):Prop
 |mk (z i c:_) (_:A1B z) (_:C8P) (_:C1B) (_:atI z.cps.toList i=some c) (_:A8W KW):aT rIxS
def c6H:AQY IxR rIxL:=by
 rw[CQ6 d n o];obtain⟨p,xs,i,z,rfl,rfl,m,l,q⟩:=h;rw[ABB n o];rw[A3A b C m];rw[CFT A f k (a5r l) e c];rw[F7O g B c]
 .have hj:i.toNat=j:=by
   rw[CI1 k]
  exact item_listR b.isList a AD (by rw[hj];rw[zO]) fin hs
 .have hj:C7I i=j:=by
   rw[CI0 (ED5 f) g]
  exact EX9 b.isList.typeIs slot_list_getitem.lookup
   (wpAny_getItem_list_neg (Q:=D0T) b.isList AAN (CG8 (c1K f g)) AD (by rw[hj];rw[zO]) DHT) hs
def c9Y:AQY IxR rIxT:=by
 rw[CQ6 b k l];obtain⟨p,xs,i,z,rfl,rfl,g,e,q⟩:=h;cases k;rw[HQ l];rw[AD9 c B g];rw[CFT m n o (a5r e) d a];rw[AC f r.length A a1v];rw[D9A a];exact EX9 c.typeIs slot_tuple_getitem.lookup
  (BC getItem_tuple j j Q D0T c AD AD (by rw[lX f];exact h1) B7M DHT) hs
def c9Z:IxR X rIxS:=by
 rw[CQ6 a g k];obtain⟨z,i,c,rfl,rfl,n,e,q⟩:=h;rw[HQ g];rw[kQ k];obtain⟨j,h1,h2,l,b,d⟩:=a5r e;have f:z.cps.toList.length=z.length:=by simp[Str.length]
 rw[f]at h1 b d;have m:=a1v;exact tail_any EXW slot_str_getitem.lookup (getItem_str (c:=c) (by
  have e1:ZS (i < -BG A6D):=AO4;have e2:ZS (C07 i):=AO4;rw[e1,e2,Bool.or_false]) (D20 h1 h2) (nU DU8)) hs
def b3g(its:AN)(n j:Nat)(u:qB):Obj.mapSeq (·.setIfInBounds j u) AKP=AWZ (its.set j u).toArray:=by
 simp[Obj.mapSeq]
def Inv.lst{p:qE}(I:AL)(h:C61) :
  CNT (uD/\EIZ/\ZR):=by
 rw[BHT (B3W h)];rw[EF its n r e z]
def Inv.lstUpd{p:qE}{ys:A0}{its its':AN}{a:Nat}{f:EB6}(I:AL)(h:C61)
  (g:EIZ) (c:f AKP=EI9) (r:DV0) (i:oE) (t:Nat) :
  JN (bI H ys) (eU s (DJ0 f) t):=by
 have e:CQ (DTQ p f) p EI9:=by
  rw[C4T f g (by rw[c]<;>rfl),c]
 refine BC I.write x p e p (by rw[h];trivial) OP (AR1 d (AKI (Ne.symm d) q)) (EM e) ?_;rw[EF i its' a r e]
inductive rSetL(o:V)(i:V)(v:V)(H:Hp)(Q:(BA0)):Prop
 |mk (p xs k j:_) (_:VX o p) (_:i=.int k) (_:C61) (_:ixN xs.length k=some j) (_:Q ELB):F9B rSetL
def b0J:d0D X rSetL:=by
 intro qK s σ H o i v B A u Q I x w y h;obtain⟨p,xs,k,j,rfl,rfl,g,l,q⟩:=h;rw[ABB x w];obtain⟨its,n,r,c,m⟩:=I.lst g;rw[EZ h1 h2 e f b5K l];rw[AC b r.length z a1v];have d:JN ELB (JV (DJ0 ((Obj.mapSeq (·.setIfInBounds j u))))) :=
  I.lstUpd g c (b3g its n j u) (r.set y j) (DEF m) s.toks
 rw[iM (0<=k)]
 .have hk:k.toNat=j:=by
   rw[CI1 f]
  exact PySem.W.ki_setAt c a AD (BZJ b f) EL2
 .have hk:C7I k=j:=by
   rw[CI0 (seqIndex_neg AAN e) b]
  exact PySem.W.ki_setBack c AAN (by rw[lX b];exact e) AD EL2
def b2b(i:Int)(n:Nat):max 0 (min (if i<0 then DWF else i) EV)=if i<0 then max DWF 0 else min i EV:=by
 rw[WZ h 0]
 .rw[vH,vH,Int.min_eq_left (dZ 0x2ae4e623673a8817),Int.max_comm]
 .rw[CG oJ oJ (Int.max_eq_right (Int.le_min.mpr ⟨Int.not_lt.mp h,Int.natCast_nonneg n⟩))]
def a8O(lo hi:EJ)(n:Nat):(CJK).1=EU (HT.sIx n 0 lo)/\hZ CJK=EU (HT.sIx n n hi)/\sK CJK=1:=by
 rw[FK ?_ ?_ rfl]
 .cases lo with
  |none=>rw[ECD]
  |some i =>
   rw[FKF 0]
 .cases hi with
  |none=>rw[ECD]
  |some i =>
   rw[FKF n]
def a7k(its:AN)(lo hi:EJ):slicePick its.toArray lo hi none=AHP its.drop DSA (HT.sIx its.length its.length hi-DSA) toArray:=by
 obtain⟨h1,h2,a⟩:=a8O lo hi its.toArray.size;rw[ZW slicePick h1 h2 a];simp only[sliceRange_one,pick_run,List.size_toArray]<;>rfl
inductive rSlL(K:qF)(x:V)(lo:EJ)(hi:EJ)(H:Hp)(Q:VK):Prop
 |mk (a xs:_) (_:JH) (_:jO) (_:AGS B19):F1W rSlL
def c4y:AQY SlR rSlL:=by
 rw[FMH];rw[QP a xs rfl f q];cases j;rw[A3A d e f];rw[JK c r.length (nA "list" slot_list_getitem.lookup d.isList.typeIs ?_)];refine wpAny_getItem_list_slice d.isList hs g i .none AF ?_ (CG8 (N0 e c));rw[a7k,<-c];refine mM (A9K I.laid s.toks (DW B19) k ?_) AP7;rw[EF EGB _ 0 EAH KF]
noncomputable def K5:BAP
 |.non=>true
 |fX=>true
 |aD=>true
 |aI=>true
 |_=>false
noncomputable def eqV:EIY
 |.non,.non=>true
 |.bl a,dX=>a==b
 |.bl a,BP b=>OK a 1 0==b
 |BP a,dX=>a==OK b 1 0
 |BP a,BP b=>a==b
 |D2L,DFV=>a==b
 |_,_=>false
def c3A{A:Around}{y:V}{u v:qB}(e:NL)(c:cU)(f:ADP)(d:wA):CLH BW2:=by
 cases y with
 |non =>
  rw[CI];cases x with
  |non=>cases c;exact SeqAt.EqAt.same _
  |bl b=>cases c;exact SeqAt.EqAt.none_bool b
  |int b=>rw[mK];exact SeqAt.EqAt.none_int b t
  |str b=>rw[mK];exact SeqAt.EqAt.none_str b t
  |_=>rw[yC d]
 |bl a =>
  rw[CI];cases x with
  |non=>cases c;exact SeqAt.EqAt.bool_none a
  |bl b=>cases c;exact SeqAt.EqAt.bool_bool a b
  |int b=>rw[mK];exact SeqAt.EqAt.bool_int a b t
  |str b=>rw[mK];exact SeqAt.EqAt.bool_str a b t
  |_=>rw[yC d]
 |int a =>
  rw[kQ e];cases x with
  |non=>cases c;exact SeqAt.EqAt.int_none a t'
  |bl b=>cases c;exact SeqAt.EqAt.int_bool a t' b
  |int b=>rw[BHU SeqAt.EqAt.int_int]
  |str b=>rw[BHU SeqAt.EqAt.int_str]
  |_=>rw[yC d]
 |str a =>
  rw[kQ e];cases x with
  |non=>cases c;exact SeqAt.EqAt.str_none a t'
  |bl b=>cases c;exact SeqAt.EqAt.str_bool a t' b
  |int b=>rw[BHU SeqAt.EqAt.str_int]
  |str b=>rw[BHU SeqAt.EqAt.str_str]
  |_=>rw[yC d]
 |_=>rw[yC f]
noncomputable def eqU(x:V)(u:qB):Bool:=match u with
 |.none=>eqV .non x
 |B7I=>eqV (.bl b) x
 |CH1=>eqV (.int i) x
 |.str z _=>eqV (.str z) x
 |_=>false
def c3z{y:V}{u:qB}(r:NL)(f:ADP):DXD=BW2:=by
 cases y with
 |non=>rw[ADC]
 |bl b=>rw[ADC]
 |int i=>rw[ADH]
 |str z=>rw[ADH]
 |_=>rw[yC f]
def a3A{x:V}:FH3 (BL5 us.any=EO6)
 |_,_,.nil,_=>rfl
 |y::xs,u::us,AR9,f=>by
  rw[EMK];rw[EC9 EEN (a3A t f.2)]
def a1o{A:Around}{s:qC}{x:V}{v:qB}(c:cU)(b:wA):FH3 (∀u∈us,CLH DXD)
 |_,_,.nil,_=>λu a=>by cases a
 |y::xs,u::us,AR9,f=>λd a=>by
  rw[EMK];rw[oW]
  .rw[AB EEN (c3A r c hJ b)]
  .exact a1o c b t f.2 d a
noncomputable def inV(x:V)(xs:A0):Bool:=EO6
inductive rIn(K:qF)(neg:Bool)(x:V)(y:V)(H:Hp)(Q:VK):Prop
 |mk (p xs:_) (_:AGQ p) (_:(ARG∨CAE)) (_:wA) (_:AMI) (_:DS4 (! EE7) EE7):F1Y rIn
def b6O:B9S (rIn X.K false):=by
 rw[FKH]
 rw[ERN SeqAt.in_listAt]
 rw[BZ5 I.tuple SeqAt.in_tupleAt pl]
def a9f:WP .NotIn (rIn X.K true):=by
 rw[FKH]
 rw[ERN SeqAt.notIn_listAt]
 rw[BZ5 I.tuple SeqAt.notIn_tupleAt pl]
def b0a:B9Y (AJ8 (FC7 DM1)):=by
 rw[F5Q b c];cases c;have d:=a1v;rcases b with b|b
 rw[FIY I.list Calls.call_len_list pl.isList]
 rw[FIY I.tuple len_tuple pl]
def a9Z:B9Y (AJ8 (∃z,xs=[DHH]/\C1B/\DM2)):=by
 rw[E8X z b];have a:=a1v;exact len_str AD (nU (BP z.length))
def a9Y:BAQ A6J (FC7 E1M):=by
 rw[F5Q f j];cases j;have fin:∀(its:AN),CBL->oE->∀(h':Heap) (c':Nat),(∀b o',B78 o'->YG h'.get? o') ->
   C8K (EQ6 (.seq its.toArray c'))->sH kR UE:=λits d c h' c' kp e =>
  mM (BM1 I.laid kp BV (show ObjOk X.prog X.w _ h' _ fV from⟨c,its,c',d,e⟩)) AP7
 rcases f with f|f
 rw[FL8 I.list pl.isList OP]
 rw[FL8 I.tuple pl C0Z]
def a7B:BAQ gJ (∃p ys,xs=AFB/\F4Y D5N D5O):=by
 rw[mW];rw[XG p ys rfl h];rw[BWS g];cases g;rcases h with⟨c,q⟩|⟨c,q⟩
 .rw[RV r' pl hz I.list c];have a:=r'.length;refine call_tuple_list pl.isList (BH h' kp) (D9I hz);have d:B2H:=EK2 kp;have f:JN (gU h'.objs.size ys) (JV (D4Y its.toArray)) :=
   BM1 d.laid DLG BV (FD9 (GN ys) hz its r')
  exact A8Y h'.objs.size f (q _ DJY)
 .rw[RV r' pl hz I.tuple c];exact call_tuple_same pl (yK II q)
noncomputable def tyV(K:qF)(T:String)(x:V)(H:Hp):Prop:=match x with
 |aI=>DTH
 |aD=>DTG
 |II=>(T="list" /\ ∃xs,ARG)∨(T="tuple" /\ ∃o,x8 K.lookup p/\DSG/\DJ6) ∨
   (T="dict"/\((∃qL,D6J)∨∃qL,aZ p .dT qL))∨(T="set" /\ ∃S n,ID p EFQ)
 |_=>False
def c8h{T:String}{v:qB}(I:AL)(r:cU)(ty:tyV X.K T x H) :
  EF1/\∀a,AKH->∃d,RO s.heap.get? d/\MY d.dict:=by
 cases x with
 |str z =>
  rw[F9P DTH EXW]
 |int i =>
  rw[F9P DTG (AYU s i)]
 |ref p =>
  cases r;rcases ty with⟨rfl,xs,g⟩|⟨rfl,o,b,f,hd⟩|⟨rfl,b⟩|⟨rfl,S,n,b⟩
  .obtain⟨its,_,pl,_⟩:=I.list g;rw[EQ pl.isList.typeIs a e];rw[CI];obtain⟨o,n,e,c,hd,_⟩:=pl;rw[AU o e hd]
  .rw[EQ (WS (I.kIn p o b) f) a e];rw[CI];rw[AU o (I.kIn _ o b) hd]
  .have z:∃o,DIG p/\o.ExactDict:=by
    rw[EC7 b b b]
    rw[FGH]
    rw[FGH]
   obtain⟨o,e,ex⟩:=z;rw[F2D]
  .obtain⟨o,_,_,_,e,ex,_⟩:=B3W b;rw[F2D]
 |_=>rw[PF ty]
noncomputable def tBM(K:qF)(T:String)(r:A3F)(to:TE)(t:TA):TE:=NG to x (tyV K T x H1/\VB t xs (r x xs H2 Q))
variable {o e:Expr}{es:BT}{to:TE}{t:TA}{name:Str}{qN qM:Pos}{T id:String}{r:A3F}
def d1e(q:DZ0)(f:CK1 T)(g:COG)(n:EO5)(p:AQI)(m:oT)
  (b:C7K:=by rfl)
  (d:LQ (AVU
   && AVT):=by rfl)
  (c:TL:=by rfl) (hs:DE:=by rfl) (a:TH:=by rfl) :
  CH2 (tBM X.K T r to t):=by
 rw[EY1 b d c p z];obtain⟨x,H1,i,k,ty,u⟩:=z;rw[IM (c8h i k ty)];refine⟨T,id,q,f,g,h1,h2,?_⟩;have j:=AEJ m qM i u;rw[EVQ j ((by show(false || (backTo qM (starEach es X.env)).any (·.1))=false;rw[a]<;>rfl)) j l y w (AIQ n x vs v us Q l k y w)]
#where
noncomputable def MtM(X:Cx)(id:String)(r:A3F):Prop :=
 FMJ (EIA ->
  EZL)
def Vals.one(h:DNT):F9S:=by
 cases h with|cons r t=>cases t;exact DJ r
def Vals.two{y:V}(h:DNU):∃u v,us=[u,v]/\dN/\E5B:=by
 cases h with|cons r t=>obtain⟨_,rfl,q⟩:=Vals.one t;rw[EF _ _ rfl r q]
def Vals.eraseIdx:BZ1 i (Vals (xs.eraseIdx i) (us.eraseIdx i))
 |_,_,_,.nil=>.nil
 |_,_,0,BEW=>t
 |_,_,AM,AR9=>AI6 (Vals.eraseIdx i t)
def Vals.reverse(h:ZK):PZ xs.reverse us.reverse:=by
 induction h with
 |nil=>rw[A0E]
 |cons r t a=>rw[List.reverse_cons,List.reverse_cons];exact Vals.append a (AI6 .nil)
def Vals.rep{xs:A0}{us:AN}(h:ZK):∀k:Nat,PZ (BOJ k) (rT k us)
 |0=>.nil
 |BX=>by
  rw[List.replicate_succ,List.replicate_succ,List.flatten_cons,List.flatten_cons];exact Vals.append h (Vals.rep h k)
def a8c{α:Type}:∀(l:CJ) (i:Nat),EH l.eraseIdx i<=l.length
 |[],_=>BV
 |EY,0=>Nat.le_succ _
 |_::r,AM=>Nat.succ_le_succ (a8c r i)
def a8l(its:AN):∀(k:Nat) (qP:AN),
  FCA
 |0,qP=>AF
 |BX,qP=>by
  rw[F62]
  have e2:(qP++its)++B3K k=qP++B3K BX:=by
   rw[List.replicate_succ,List.flatten_cons,List.append_assoc]
  rw[<-e2,<-a8l its k (qP++its),<-e,List.replicate_succ,List.foldl_cons]
section
variable {l b:qE}{ys zs:A0}
def Inv.lset{its its':AN}{f:CO->CO}{t':Nat}(I:AL)(a:YB)
  (e:DRG) (c:f its.toArray=its'.toArray) (g:DV0) (h:oE) :
  JN (BL7 ys) (eU s (s.heap.update l (Obj.mapSeq f)) t'):=by
 rw[GJ q (PySem.IsL.update e f) c q];refine BC I.write x l e l (AE a trivial) OP (λb' u b d=>rS (Heap.get?_update_other s.heap (Obj.mapSeq f) (Ne.symm b)) d) (EM q) ?_;rw[EF h its' _ g q]
def Inv.lnew{its:AN}{t':Nat}(I:AL)(a:CBL)(hz:oE) :
  JN (GO H s.heap.objs.size ys) (eU s (AF7 (BN5 its.toArray)) t') :=
 I.laid BVI BV ⟨hz,its,0,a,KF⟩
def Inv.fresh(I:AL):A2D:=cQ
def Inv.lstM(I:AL)(a:YB):ZR/\CNT (uD/\xY its.length/\DRG):=by
 rw[BHT (I.hok l _ a)];rw[IO z its n r r.length e]
def b1i(h:C19):KN Builtin.List.listTooLong n:=by
 unfold Builtin.List.listTooLong;exact decide_eq_false (A9Z c0W)
#where
inductive rAppend(x:V)(vs:A0)(H:Hp)(Q:VK):Prop
 |mk (l xs y:_) (_:vT) (_:BBG) (_:YB) (_:DOB) (_:CGW (A5G y)):A32 rAppend
def b7d:vC "list.append" rAppend:=by
 rw[jY g f];obtain⟨l,xs,y,rfl,rfl,a,b,q⟩:=h;rw[B66 g d f.one];rw[A9I c (I.lstM a)];rw[F1J iP (PySem.list_append l its.toArray n u (ANK (c1D b c))) e];rw[FCQ (its++[u]) a (E4Y r.append d)];rw[F2 List.length_append List.length_singleton a9z b]
inductive rExtend(x:V)(vs:A0)(H:Hp)(Q:VK):Prop
 |mk (l b xs zs:_) (_:vT) (_:vs=VT b) (_:YB) (_:E5X) (_:E1Q) (_:CGW DQQ):A32 rExtend
def b7c:vC "list.extend" rExtend:=by
 rw[jY w t];rw[FCF j k];cases w;rw[VA p t.one p];rw[F0M y m o f (I.lstM j)];have d:CK (its.toArray.size+a.toArray.size):=by rw[CG List.size_toArray List.size_toArray (c1I k i f)]
 have c:¬kW (! its.toArray.isEmpty) (Builtin.List.listTooLong (its.toArray.size+a.toArray.size)):=by
  rw[CG (b1i d) Bool.and_false Bool.false_ne_true]
 refine ERZ F.slot_list_extend F.entry_list_extend F.args_list_extend_2
  (AutoSeq1.list_extend_list_list_0 l its.toArray n b a.toArray m c (ANK (N0 z i)) (BJ 88490196655832471 d)) (ABA e e2)
 rw[FCQ (its++a) g (r.append o)];rw[KO List.length_append]
inductive rPopAt(x:V)(vs:A0)(H:Hp)(Q:VK):Prop
 |mk (l xs i k y:_) (_:vT) (_:AOC i) (_:YB) (_ : CB5<=i) (_:i<A6D) (_:D2V xs.length=some k) (_:ANM k y) (_:Q y (eZ l (kF xs.eraseIdx k))):A32 rPopAt
def c0n:vC "list.pop" rPopAt:=by
 rw[jY m j];obtain⟨l,xs,i,k,y,rfl,rfl,b,h1,h2,d,f,q⟩:=h;rw[B66 m g j.one];rw[HQ g];rw[E7K];rw[nG w hw a f];refine ERZ F.slot_list_pop F.entry_list_pop F.args_list_pop_2
  (CF0 MeetsSeq.list_pop_at i t k w (A1O fitsIndex_both) (BZJ c d) (OV Array.getElem?_toList hw) (ANK (N0 z c))) DJW
 refine⟨y,_,FED (its.eraseIdx k) (r.eraseIdx k),a,q⟩
 .show its.toArray.eraseIdxIfInBounds k=(its.eraseIdx k).toArray;rw[List.eraseIdxIfInBounds_toArray]
 .have:=a8c xs k;rw[ZI a6s z]
inductive rCat(x:V)(y:V)(H:Hp)(Q:VK):Prop
 |mk (l b xs zs:_) (_:vT) (_:ADD) (_:YB) (_:E5X) (_:E1Q) (_:AGS DQQ):aT rCat
def c9l:APZ rCat:=by
 rw[OX m o];rw[FCF f j];rw[gM m o];rw[F0M t p k c (I.lstM f)];refine PySem.P.add_list e e2 ?_ (E0Q (c1I j i c));have d:its.toArray++a.toArray=AJG its a:=by simp
 rw[F8C d (r.append k) (SD List.length_append)]
inductive rRep(x:V)(y:V)(H:Hp)(Q:VK):Prop
 |mk (l k xs:_) (_:vT) (_:AH5 k) (_:YB) (_ : CB5<=k) (_:B9M k) (_:CK (xs.length*k.toNat)) (_:AGS (BOJ k.toNat)):aT rRep
def a9H(xs:CJ)(k:Nat):xD k xs flatten.length=k*xs.length:=by
 induction k with
 |zero=>simp
 |succ k a=>rw[List.replicate_succ,List.flatten_cons,List.length_append,a,Nat.succ_mul,Nat.add_comm]
def c9b:AQ0 rRep:=by
 rw[OX B C];obtain⟨l,k,xs,rfl,rfl,w,h1,h2,o,q⟩:=h;rw[ABB B C];rw[A9I A (I.lstM w)];have f:CK CDW:=by rw[lX A];exact o
 have c:¬CDW > CF3:=by
  have:DFH<=CF3:=AH
  omega
 have d:¬uL (Builtin.List.listFitsIndex k):=by
  rw[AB (A1O fitsIndex_both) Bool.false_ne_true]
 have b:¬EO Builtin.List.listTooLong CDW:=by
  rw[AB (b1i f) Bool.false_ne_true]
 have g:BYC DR6 (QO its.toArray.isEmpty 0 k.toNat) its.toArray=BWM k.toNat:=by
  have p:∀m:Nat,List.foldl DR6 #[] (C5N its.toArray)=BWM m:=λm=>by
   rw[T6 (a8l its m []) List.nil_append]
  rw[p];cases its with
  |nil=>simp
  |cons a r'=>rw[KJ]
 refine DC4 "list" iP k noFill_list_mul repeat_list
  (call_meets F.slot_int_rmul (AYU s k) F.entry_int_rmul D2N (int___rmul___int_list k t l its.toArray n)
   (HE e iP (call_meets F.slot_list_mul iP F.entry_list_mul (BZ F.args_list_mul_2) (CF0 AutoListH.list___mul___list_int_3 k t d c b) DJW)))
 rw[F8C g (r.rep k.toNat) (GU a9H Nat.mul_comm o)]
section
variable {prog:qG}{w:World}{A:Around}{E:qH}
#where
universe L2
namespace Att
open PySem PySem.W PySem.Calls PyProof.Rows
def a4W{P:Params}{h:Heap}:∀(ns:qI) (vs:AN),WellAll P h vs (ns.map WData.int)->ADS:=by
 intro ns;induction ns with
 |nil =>
  intro vs w;rw[CGU w w]
 |cons n ns c =>
  intro vs w;rw[B67 w];cases w with
  |cons a b =>
   cases a;exact AG .cons (c _ b)
def b6x{l:OpenLaw}{n:Nat}(o:CE7){P:Params}{h:Heap}{args:DDV}{c:AN}
  (b:EO l.row.toRowW.claim.pre args) (j:WellAll P h c args) :
  ∃a vs ns,c=[AYO]/\args=[WData.list (ns.map WData.int)]/\ZY B4I/\ADS/\BA1:=by
 have hsh:AY (WShape.hasAll [] args [.list .int]):=(pre_splitW b).1;have k:E66 l.pre.holds args:=(pre_splitW b).2;obtain⟨d,r,rfl,h1,h2⟩:=hasAllW_cons hsh;obtain rfl:=hasAllW_nil h2;rw[mU xs m hasW_list h1];rw[LN ns (items_int m)];have f:BA1:=by
  unfold OpenLaw.pre at k;have g:E66 (WTm.not (.lt (.lit (.int EV)) (.len (.arg 0)))).holds [.list (ns.map .int)]:=by
   rw[GJ g (holds_andW k).1 o g];exact g
  rw[C4K i (condW_of g (w_not (w_lt w_lit (w_len_list (w_arg rfl))))) i];rw[W0 Nat.le_of_not_lt q];have s:EV<EU ns.length:= ~~~c1a q
  first
   |(rw[decide_eq_true s]at i;rw[DT i AH])
   |(simp at i;omega)
 cases j with
 |cons w1 w2 =>
  cases w2;cases w1 with
  |list p e=>exact LC _ _ ns rfl p (a4W ns _ e) f
def b6J(l:OpenLaw)(args:DDV):AY (l.row.toRowW.claim.post args AQ3 args) :=
 postW_of (r:=l.row.toRowW) (X:=(true==true))
  (show AY (WShape.has [] AQ3 .bool) by first|rfl|decide|simp[WShape.has,WShape.arms,WShape.armsAll])
  (show(WTm.eq .res (.lit (.bool true))).value [] {args:=args,res:=BK .bool true,after:=args}=BK .bool (true==true)from w_eq_bool (w_res rfl) w_lit) rfl
def attach_call{l:OpenLaw}{n:Nat}{q:qG}{b:AA}{XP:CA6}{t:CA5}{d:DefRec}
  (F:CE7) (k:C4S)
  (call:∀(w:World) (s₀ s₁:qC) (mg s:BF) (fa:qE) (o:Obj) (pm cd c:qB) (a:qE) (vs:AN) (ns:qI),
   Ground q b [] XP w s₀ mg s s₁.heap->t w s₁.heap ->
   x8 s₁.heap.get? fa->o.data=.func (docDef d.name d.params d.body d.scope pm cd c)->s₁.heap.CodeRec cd d.name->CEW ->
   EGU->ADS->BA1->DWI ->
   DCK (BIE l.prog)) :
  EUM WalkO t:=by
 intro w s₀ s₁ mg s G Y fa o pm cd c z kV H hd j v m C u y as i x J p D;obtain rfl:z=.none:=Dflts.none v k;obtain rfl:kV=.none:=Dflts.noKw v;obtain⟨a,vs,ns,rfl,rfl,h,e,g⟩:=b6x F i p;refine enter_call (B5F (call w s₀ s₁ mg s fa o pm cd c a vs ns G Y H (fd_plain hd) j m h e g C) I);obtain⟨rfl,h2,A,B⟩:=I;rw[BW (ED (LC AQ3 AQ3 [] A73 AQ3 (b6J l _) (D2 ⟨List.Pairwise.nil,GF E (AJR E)⟩))) h2 A B]
section
variable {prog:qG}{w:World}{A:Around}{E:qH}{s:qC}{K:Frag}
#where
universe Att
namespace L2
open PySem PySem.Spec PyProof.Rows
section
def a7G:∀{vs:AN}{ns:qI},ADS->E7C vs
 |_,_,.nil=>.nil
 |_,_,.cons n t h=>.cons B3D (a7G h)
noncomputable def d0F(H:Hp):Prop:=∀b,MB∨∃o xs,A60 (CM1 o)
def c2T{P:qG}{w:World}{K:qF}{mg M:BF}{CX:CXT}{k:Nat}{fa a:qE}{fd:FuncData}{x:Str}{sp:Sp}{s₁:qC}{vs:AN}{ns:qI}
  (O:K.In s₁.heap) (y:BKC s₁.heap.Ns) (f:s₁.heap.Ns builtinsNs M) (I:EUB M) (t:s₁.heap.NoLimit) (hg:DWI)
  (E:EGU) (hi:ADS) (S:DER) (hr:C5I)
  (F:BYK C8X (CI5 AHJ CX fd US sp)) (j:BYQ u [u] x u)
  (L:∀H:Hp,C52->BFL->bJ (sp WI H EG0) _ False)
  (G:∀H e s',CX [] H s₁ BFE e s'->False) :
  EAQ:=by
 rw[AC T (a7G hi) C hi.length];have i:∀H:Hp,C52->BFL->xP H s₁.heap->(∀b,DWO->b=a)->(H a≠none->FD K.lookup a) ->
   EAQ:=by
  intro H R Z A Q X;have c:∀{b:qE}{o:Obj},DFP->MB->C1U s₁.heap:=λe n=>c3o e n;have N:∀{b:qE}{o:Obj}{es:A25}{ep:Nat},DFP->o.data=AS6->MB:=λ{b o es ep} e d=>by
   cases q:H b with
   |none=>rfl
   |some u =>
    rw[F5X];rw[GM E];have U:Data.seq vs.toArray _=Data.dict es ep:=d;cases U
  have g:∀{b:qE}{m:BF},s₁.heap.Ns b m->(a9Q s₁.heap H).Ns b m:=λ{b m} (FBX e)=>FBX (c e (N e d));have p:K.In (a9Q s₁.heap H):=IY o (c (RT O) (by
   cases q:H b with
   |none=>rfl
   |some u =>
    rw[F5X];rw[GM (X (by rw[L1 q]))]))
  have Y:Mod K mg EHX:=⟨p,g y,⟨M,g f,I⟩,mF mc h1 h2 t mc (g h1) h2⟩;have W:CU7 EHX callerA [] s₁ H:=⟨rfl,Y,IY o (c5O e),EAW b7t,trivial,λb f=>AP2 (CGK f),A,.of_eq hg⟩;refine JQ codeAny_mono ((F _ p (g y)).run callerA [] s₁ H CX3 WI WI _ _ hr W (j s₁ CM) EIR (L H R Z)) r s' h;cases r with
  |error e=>exact(G H e s' h).elim
  |ok fl =>
   cases fl with
   |next=>rw[PF h]
   |brk=>rw[PF h]
   |cont=>rw[PF h]
   |ret u =>
    obtain⟨v,H',os,l,un,B,r',q⟩:=h;have q':D91:=q;rw[AV4 q' (B90 true) r'];refine⟨rfl,EB OldK.of_keep b o e,os,l⟩;cases q:H b with
    |none=>exact un.keep b o e q (by intro z;rw[DT (CGK z) AF]) AF
    |some u =>
     rcases R b with z|⟨ob,xs,z⟩
     .rw[AW q z z]
     .have z2:=un.frzs b ob _ z;obtain⟨e1,_⟩:=A b _ z;obtain⟨e2,_⟩:=B b _ z2;rw[cG e1 e1];exact e2
 cases J:K.lookup a with
 |some o =>
  have e:=O a o J;rw[GM E];refine i B80 (D2 OP) (DC ⟨_,vs.toArray,_,J,rfl,rfl,rfl,BU3 C S,BQ T⟩) (λb u z=>by have D:BWG HO=some u:=z;cases D) (λb z=>BAE z) λz=>BAE z
 |none =>
  refine i (λb=>if b=a then AO (.frz B4I (OA ns.map))else none) (LR b) (xG .inr ⟨B4I,EK⟩) (EI b u z) (gQ z) λ_=>J
  .rw[CF2]
   rw[JM (ES _ C33)]
   .exact xG if_neg f
  .rw[CF2]
   .rw[F12 if_pos];subst f;rw[IO E (IL S) vs _ T E]
   .rw[F12 if_neg]
  .rw[CF2]
   .exact f
   rw[nS if_neg f z]
def walk_of{l:PySem.W.OpenLaw}{n k:Nat}{q:qG}{g:AA}{XP:CA6}{z:CA5}{d:DefRec}{K:EB7}{CX:World->CXT}{sp:World->Sp}{x:Str}
  (M:CE7) (r:C19) (m:C4S) (N:C5I)
  (E:FGR z)
  (F:FIB (CEW ->
   ∃fd:FuncData,F4Z x /\
    E3D (CI5 EA6 (CX w) fd US (sp w))))
  (t:∀(w:World) (H:Hp) (a:qE) (ns:qI),BA1->C52->SqL D6R H a zJ->bJ (sp w WI H EG0) _ False)
  (j:∀(w:World) (H:Hp) (s:qC) (e:qB) (s':qC),CX w [] H s BFE e s'->False) :
  D9U (PySem.W.WalkO q g XP z):=by
 refine Att.attach_call M m λw s₀ s₁ mg P fa o pm cd A a vs ns G Y O hd J p i c b L=>?_;have y:=E w _ Y;obtain⟨fd,I,B⟩:=F w mg fa _ y G.T.g p;exact c2T y G.T.g G.T.b G.T.builtins G.T.nolimit L i c (Nat.le_trans b r) N B I (λH C D=>t w H a ns b C D) λH e s'=>j w H s₁ e s'
#where
section
variable {A:Around}{E Q:qH}{H H1:Hp}{K:qF}{N ps:AA}{P prog:qG}{X:Cx}{a b f it l:qE}{env:Env}{es:BT}{g:TG}{h h':Heap}{i n:Nat}{items:CO}{k k1 k2:Bool}{qK:DL}{pos:Pos}{qual x:Str}{s:qC}{scope:Scope}{src:NQ}{st:Stmt}{te:TE}{w:World}{xs:A0}{α:Type}{σ:St}
noncomputable def E7(s:Stmt)(j:Nat):Stmt:=match s with
 |gH (oQ (JC .ClassDef body))=>body.getD j (.Pass CMY)
 |_=>.Pass CMY
noncomputable def S3(s:Stmt):Arguments:=match s with
 |bZ (.FunctionDef _ a _ _)=>a
 |_=>{posonlyargs:=[],args:=[],vararg:=none,kwonlyargs:=[],kw_defaults:=[],kwarg:=none,defaults:=[]}
noncomputable def F8(s:Stmt):ML:=match s with
 |bZ (AJ .FunctionDef b _)=>b
 |_=>[]
noncomputable def A4(s:Stmt):Scope:=match s with
 |oQ .FunctionDef _ _ sc _ _ _=>sc
 |_=>{kind:=.function,names:=[],isGenerator:=false,isCoroutine:=false}
noncomputable abbrev CX0:CXT:=λ_ _ _ _ _ _=>False
noncomputable abbrev E0:XK:=BFE
def b0X:a0T CX0 X E0:=CSX h h.elim
structure Fun(K:qF)(x qual:Str)(st:Stmt)(f:qE)(fd:FuncData):Prop where
 ex:∃(oc:qB) (od:IN) (kV doc pm:qB) (an:IN) (cdv ct:qB) (osl:aW),
  fd=CP0 D07 doc cdv/\BHH fd osl/\CIC cdv
 kp:B3N
section
variable {mg:BF}{base:Heap}
def Fun.ok{fd:FuncData}{k:Nat}{sp:Sp}(F:CFH)(S:A4C)(len:pE)
  (b:FME (fZ ->
   DU7 D8O)):F9D:=by
 rw[DCN i F.ex g (FH9 g d) h.nox]
def Fun.binds{fd:FuncData}(F:CFH)
  (h:BSK b a COS):v1:=by
 rw[D1W b d F.ex];exact .all (h kV b pm an a ct)
def a6K{oc:qB}{od an:IN}{d:aW}{kV b pm a ct:qB}(l:BHH COS d)
  (c:CIC a) (k:B3N):BRQ qual COS:=⟨⟨oc,od,kV,b,pm,an,a,ct,d,rfl,l,c⟩,k⟩
#where
def pv(i:Nat)(b:jF:=by rfl)(c:AQV:=by rw[EZP])(hd:KK:=by decide)
  (a:CHM:=by decide):E00:=F2A
def C1{A B:Prop}(h:B):QO false A B:=by
 rw[AB (BD Bool.false_ne_true) h]
def D6{A B:Prop}(h:A):QO true A B:=by
 rw[AB EK h]
def X5{c A B:Prop}[Decidable c](h1:c->A)(h2:¬c->B):if c then A else B:=by
 by_cases h:c
 .rw[AZ vH h1 h]
 .rw[AZ oJ h2 h]
noncomputable def Same(H H':Hp):Prop:=RW A6C DFN
def Same.refl(H:Hp):NZ H:=fY h h
def Same.trans{H2:Hp}(a:KS)(b:CRT):C1D:=λc o h=>b c o (a c o h)
def Same.free{H':Hp}(e:BL)(h:E4F H'):E4F H:=by
 cases q:H l with
 |none=>rfl
 |some o =>
  rw[AW (e l o q) h h]
def Same.seq{H':Hp}(e:BL)(h:jO):SqL K H' a xs:=by
 rcases h with(h|⟨o,h⟩)|h
 .exact A0U DZK
 .exact xG .inr (sT DZK)
 rw[JM h]
noncomputable def N2(env:Env)(cs:ZO)(x:E45):ZO :=
 if OQ==.free then(match env.cells.lookup ET with|AO a=>(ET,a)::cs|none=>cs)else cs
noncomputable def a5a(scope:Scope)(env:Env):ZO:=scope.names.foldl (N2 env) []
def a6Z{env:Env}(f:E45->ZO->Sem (ForInStep (qA (Str×qE))))
  (b:∀n k r,f B0C r=if YJ k NameKind.free then(do let a <-cellOf env n;pure (ForInStep.yield ((n,a)::r)))else BQ2 r) :
  CMI cs (RZ names (CIV EVI)) (forIn names cs f=pure (BE0 env cs))
 |[],cs,_=>rfl
 |fP n k,cs,h=>by
  rw[List.forIn_cons,List.foldl_cons,b];have e:=λy g=>h y BTK;rw[BI d k .free]
  .subst d;obtain⟨a,c⟩:=h DMZ List.mem_cons_self rfl;have e1:cellOf env n=pure a:=by rw[FY cellOf c]
   rw[EAB DMZ ((n,a)::cs) c]
   rw[FHD e1]
  .have hb:(k==NameKind.free)=false:=by simpa using d
   rw[EAB B0C cs hb]
   rw[FHD hb]
def c3L(h:BTL (CIV EVI)):DQS closureFor=pure (DQS a5a):=by
 simp only[closureFor];rw[a6Z (env:=env) _ (λn k r=>by cases b:k==NameKind.free<;>simp[b]) scope.names [] h];rfl
def a8q{env:Env}{x:Str}{c:qE}:CMI cs (WE (A5R (BE0 env cs))) (C4G∨WE cs.lookup)
 |[],cs,h=>DGA
 |kT,cs,h=>by
  rw[DJP];rw[BM (a8q r _ h)]
  rw[GX z]
  .rw[AZP N2 z z]
   .split at z
    .rename_i a ha;rw[DUI];cases b:DRR with
     |true =>
      rw[b]at z;rw[AB (beq_iff_eq.mp b) (.inl (ha.trans z))]
     |false =>
      rw[b]at z;rw[A18 z]
    rw[JM z]
   rw[JM z]
def a2g{c:qE}(h:WE F7K):C4G :=
 (a8q scope.names [] h).elim id λz=>AFC
def a2N{env:Env}{x:Str}{a:qE}(d:DTV):∀(names:A7I) (cs:ZO),(E7B∨HN cs.lookup a)->(∀c,WE cs.lookup->c=a)->HN (A5R (BE0 env cs)) a
 |[],cs,h,_=>EVY
 |kT,cs,h,i=>by
  rw[List.foldl_cons];by_cases b:y.2=.free/\dF=x
  .have e2:N2 env cs y=EPF:=by unfold N2;rw[b.2,d,LG];rfl
   rw[e2];have f:HN (A5R EPF) a:=by rw[L1 List.lookup_cons]
   exact a2N d r _ (DC f) λc z=>by rw[f]at z;exact AM2 z
  .have same:(N2 env cs y).lookup x=cs.lookup x:=by
    rw[dU N2]
    .rw[AL9];split
     .have hne:(x==dF)=false:=by
       cases g:DRR with
       |false=>rfl
       |true=>rw[DT ⟨BQ hk,DLB g⟩ b]
      rw[List.lookup_cons,hne]
     .rfl
    .rfl
   refine a2N d r _ ?_ (AE same i);rw[same];rw[BM h]
   .rw[CH8]
    rw[HL ⟨by rw[<-e],by rw[<-e]⟩ b]
    rw[GX z]
   rw[JM z]
def b2c(b:DTV)(d:D54 scope.names):HN F7K a :=
 a2N b _ _ (ED d) λc z=>AFC
def a0o{x:Str}{c:qE}:CPG CL7 ((n<=c/\BC4 names)∨ACL)
 |[],_,_,h=>DGA
 |CES,n,qP,h=>by
  rw[lP cellsFrom];split at h
  .rw[AL9];have b:k=.cell:=by simpa using hk
   rw[FIK]
   rw[GX ⟨DP6,AOF⟩]
   .rw[DUI];cases a:x==y with
    |true =>
     rw[AHV a];rw[WL .inl BV (GU b DET List.mem_cons_self)]
    |false =>
     rw[a]at z;rw[A18 z]
  .rw[FIK]
   rw[GX ⟨d,AOF⟩]
   rw[JM z]
def b4o:CPG ((∀x c,ACL->c<n)) ((CP6 ACL qP.lookup) ->
  CP6 CL7 (BL9 n names qP))
 |[],_,_,_,h2=>h2
 |fP z k,n,qP,h1,h2=>by
  rw[dU cellsFrom]
  .have lk:∀x c,List.lookup x ((z,n)::qP)=some c->(x=z/\c=n)∨ACL:=λx c e=>by
    rw[List.lookup_cons]at e;cases a:x==z with
    |true=>rw[GM a];rw[WL .inl DET rfl]
    |false=>rw[a]at e;exact .inr e
   refine b4o r CW _ BEA (DQ x y c e e')
   .rcases DOQ with⟨_,q⟩|q
    .rw[AZ q Nat.lt_succ_self _]
    rw[DGS EKK]
   .rcases DOQ with⟨q1,q2⟩|q<;>rcases lk y c e' with⟨p1,p2⟩|p
    .rw[q1,p1]
    rw[HL (h1 y c p) (BBJ q2)]
    rw[HL EKK (BBJ p2)]
    .exact h2 x y c q p
  .exact b4o r n qP h1 h2
def a9W{x:Str}:CPG ((BC4 names∨∃c,ACL)) (∃c,CL7)
 |[],_,_,h=>EVY
 |CES,n,qP,h=>by
  rw[dU cellsFrom]
  .rw[FAF];rw[BI a x y]
   rw[JM ⟨n,by rw[List.lookup_cons,a];simp⟩]
   .have hb:(x==y)=false:=beq_eq_false_iff_ne.mpr a;rcases h with z|⟨c,z⟩
    .rw[CH8]
     rw[HL (Prod.mk.inj e).1 a]
     rw[GX z]
    rw[JM ⟨c,GU List.lookup_cons hb z⟩]
  .rw[FAF];rw[BM h]
   .rw[CH8]
    rw[HL (BZH (Prod.mk.inj e).2) hk]
    rw[GX z]
   rw[JM z]
def a9d{x:Str}{c:qE}:∀(names:A7I) (h:Heap) (qP:ZO),(∀x c,ACL->CGD h.IsCell)->AYT h.objs.size names qP->CGD (pushCells h names).IsCell
 |[],h,qP,a,e=>mD a
 |CES,h,qP,a,e=>by
  unfold cellsFrom at e;unfold pushCells;split at e
  .rw[AL9];rw[EA hk];rw[show h.objs.size+1=(h.push (A4H "cell" (.cell none))).objs.size from(bS Heap.size_push ..)]at e;refine EXE (EFY e');rw[List.lookup_cons]at e';cases d:x'==y with
   |true=>rw[AW d e' e'];rw[BW _ _ KF rfl]
   |false =>
    rw[d]at e';rw[EUE (a x' c' e') rG]
  .rw[AL9];rw[AB (BD hk) (EXE a)]
section
variable {M:Model}
def b2n{a:ZO}{outer:Env}{Q:OH Env}
  (f:Q (newEnv scope s.heap.objs.size b (cellsFrom HK scope.names a) qual none .none DEJ builtinsNs) (JV (BGW s.heap.push))) :
  MV M (newFunctionEnv scope b a [] qual none .none DEJ) Q:=by
 simp only[newFunctionEnv,Option.isSome_some,if_true];rw[PY wpAny_alloc];rw[AX (AG (wpAny_layCells _ (λname c d=>by cases e:c==NameKind.cell<;>simp[e]) _ _) ?_)];rw[AZ (F01 (A5I AHX) HK) wpAny_bind (B3P f)]
#where
noncomputable abbrev NoX:qH:=AQ6
def toE{M:Model}{t:C6S}{Q b:C3H}(h:FU M A t Q NoX s)(c:F33):EPK :=
 (cT h c z z.elim)
def a9V{d a b:Expr}{e:BT}{it qP:qB}{R:vM}(I:C3G)
  (turn:∀n s,I n s->FU LM A (pyNext it) (λr s₁=>match r with
   |none=>R (.ok .next) s₁
   |UO=>jT (letOwnedTupleGo a it v) (GF s₂ (jT (assign a env v) (λ_ s₃ =>
     jT (FAI e (do let ok <-isTrue c env (eval c env);pure (ForInStep.yield ok))) (λok s₄ =>
      if AY ok then jT (eval d env) (λx s₅=>jT (AWK "list.append" [qP,x]) (GF s₆ (E2G s₆)) NoX s₅) NoX s₄
      else E2G s₄) NoX s₃) NoX s₂)) NoX s₁) NoX s)
  (n:Nat) (h:I n s):BWR (.compLoop E3L 0 it qP env):=by
 refine codeAny_loop rfl I (EI n s hI) n h;show KZ A ((compTurn E3L 0 it qP env).onRaise (λx=>do noteFrame x env;theTreesLotGoes x));rw[HI wpAny_noted];rw[compTurn_list];rw[AX (xZ wpAny_standAt (JQ toE (turn n s hI) r s₁ h₁))];cases r with
 |none=>rw[iN h₁]
 |some v =>
  rw[AX (toE h₁ λ_ s₂ h₂=>B5X (toE h₂ λ_ s₃ h₃=>B5X (JQ toE h₃ ok s₄ h₄)))];cases ok with
  |false=>rw[iN (DZ h₄)]
  |true=>exact C6X (toE h₄ λx s₅ h₅=>B5X (toE h₅ λ_ s₆ h₆=>B3P (DZ h₆)))
noncomputable def Cx.blk(X:Cx)(N:AA)(scope:Scope)(cells:ZO)(C:qE)(s:qC)(H:Hp)(ex:EW):Cx :=
 {X with N:=N,s₀:=s,H₀:=H,env:=EIX cells C,outer:=X.stack,stack:=X.stack,ex:=ex,fn:=λx=>scope.names.any λy=>dF==x && y.2==.cell,pn:=[],xe:=NoX}
noncomputable def C0(src:NQ)(σ:St):St:=src.map λo=>o.bind λj=>EDD
noncomputable def B9(sc out:Scope):Bool:=DLM (OQ != .free || (DU5 .cell || DU5 .free))
noncomputable def T9:AA->NQ->AA->Scope->Bool
 |[],[],_,_=>true
 |x::N,CG6,M,sc=>(match o with|none=>true|AO j=>M[j]? == ZH && sc.names.lookup x==AO .free) && T9 N src M sc
 |_,_,_,_=>false
noncomputable def a8S(sc:Scope):Bool:=sc.kind==.function && DLM (BNJ sc.names.lookup OQ)
def a8r:∀{N:AA}{src:NQ}{M:AA}{a:Scope},FDH->src.length=N.length
 |[],[],_,_,_=>rfl
 |_::N,_::src,M,a,h=>by
  rw[CJT];rw[DTM (a8r DK)]
 |[],EY,_,_,h=>BGE
 |EY,[],_,_,h=>BGE
def a8s:∀{N:AA}{src:NQ}{M:AA}{a:Scope}{i:Nat}{x:Str}{j:Nat},FDH->OE N->ELC->IZ M x/\B7X a.names.lookup
 |[],[],_,_,_,_,_,_,h,_=>eI
 |y::N,CG6,M,a,0,x,j,h,h1,h2=>by
  rw[CJT];simp at h1 h2;subst h1 h2;rw[GJ q CB Bool.and_eq_true q];rw[AQ (BZ6 CZ) (beq_iff_eq.mp CS)]
 |y::N,CG6,M,a,AM,x,j,h,h1,h2=>by
  rw[CJT];exact a8s DK A8P A8Q
 |[],EY,_,_,_,_,_,h,_,_=>BGE
 |EY,[],_,_,_,_,_,h,_,_=>BGE
def b8h{v:V}(h:xR (dI gL) v):∃j,ELC/\xR B35 v:=by
 rw[B0I C0 List.getElem?_map];cases e:src[i]? with
 |none=>rw[ASY]
 |some o =>
  rw[e]at h;cases o with
  |none=>cases h
  |some j =>
   refine AOJ j;have h':lQ EDD:=BTD;cases q:B35 with
   |none=>rw[AW q h' h']
   |some z=>rw[q]at h';rw[show lQ z from h']
def a1u{env:Env}:∀{names:A7I}{x:Str}{k:NameKind},
  FL5 ->
  D79 names.lookup (COF)
 |[],_,_,h=>XS
 |DY3,x,k,h=>by
  rw[List.map_cons,List.lookup_cons]at h;rw[BZP];dsimp only at h;split at h
  .rename_i h0;have a:x==n:=by
    rw[ED0]
   rw[a];refine AOJ k0;split at h
   .rename_i hc;cases h;rw[DDG hc];rw[WL .inr (BQ hc.1.1) rfl]
   .cases h;exact .inl rfl
  .rename_i h0;have a:(x==n)=false:=by
    rw[ED0]
   rw[AZ a a1u h]
def O2{env:Env}:∀{names:A7I}{x:Str}{k':NameKind},HN names.lookup k' ->
  ∃k,FL5/\COF
 |[],_,_,h=>XS
 |DY3,x,k',h=>by
  rw[List.lookup_cons]at h;rw[List.map_cons];by_cases b:kW (k0==NameKind.free && env.scope.kind==.function) (D36==AO .cell)
  .simp only[b,if_true];rw[BZP];cases a:x==n with
   |true =>
    rw[AW a h h];rw[DDG b];exact DJ (BTQ (BQ LG.1))
   |false=>rw[B8V a O2]
  .simp only[AO2];rw[BZP];cases a:x==n with
   |true=>rw[AW a h h];exact DJ OP
   |false=>rw[B8V a O2]
noncomputable def PIf(X:Cx)(ifs:BT)(t:TT):Prop :=
 BDM XY (AZG ->
  AFW (FAI ifs (do let ok <-isTrue c X.env (eval c X.env);pure (ForInStep.yield ok))) TP)
noncomputable def T8:TT:=CBJ true
def c5i:PIf X [] T8:=AMW Q (ZB wpAny_tests_nil H I h)
def c5h{c:Expr}{t:TT}(h:PT X c t):PIf X [c] t:=ATO Q q (wpAny_tests_one (BAB Q I q))
noncomputable def Sub(σ σ':St):Prop:=σ.length=σ'.length/\dQ v V BDO DVP
inductive CompW(src:NQ)(g:TG)(tt:TT)(te:TE)(σ:St)(Q:VK)(J:It)(H1:Hp):Prop
 |mk (W:AW3 A6M) (_:(∃m,W 0 m [] H1)) (_:∀i m ys H,W i m ys H->(J.stop i H/\oE/\A95)∨(ESF (∃N:A6M,(∀zs H',N zs H'->∃m',m'<m/\F2Y zs)/\BMC J.yld (AL1 (BMA gL) tt H3 H3 H4 (N A92 H4) (N ys H3))))):ASW tt J
noncomputable def a7J(src:NQ)(wi:TI)(g:TG)(tt:TT)(te:TE):TE:=kL (YY wi (CompW src g tt te σ Q))
def Inv.block{fp:EW}(I:AL)(M:C8O)(S:tR (∃o,RP))
  (F:A4D) (C:AEI) (B:A3Z) {lo:Obj} :
  Inv (CVI E93 HK s H fp) [] gL H
   (JV (BGW C76)):=by
 unfold a8S at B;rw[Bool.and_eq_true]at B;have D:scope.kind=.function:=by simpa using B.1
 have E:EPM:=λx t=>BQ (EGS B.2)
 have g:BTL (CIV (DUK .cell∨DUK .free)):=λx t f=>by
  rw[F9X (EGS F) f P]
  rw[iE Bool.or_eq_true P (EST P.imp)]
 have keep:RW RP (IC (BGW C76).get?):=λb o e =>
  TV pushCells_keeps AXZ
 have O:∀x c,WE (a5a scope X.env).lookup->xS c:=λx c e=>by
  rw[A9P z (I.cell x c (a2g e))];exact z.lt
 have d:∀x c,ELU A1D->(s.heap.objs.size+2<=c/\BC4 scope.names)∨A5W:=λx c e =>
  (E5S).imp id a2g
 have G:∀x k,HN (EIX E93 HK).kindOf k->E9G (COF):=λx k e =>
  EEC a1u e
 have mem:∀{x k},HN scope.names.lookup k->(x,k)∈scope.names:=λe=>mem_of_lookup e;refine⟨⟨I.ok.mod,?_,I.ok.glob,I.ok.blt,?_,?_,?_,?_,I.ok.hd,I.ok.frames,OP,?_,I.bs,E6I,?_,?_,I.stack,I.stkFree⟩,rfl,I.bare,Un.kept keep,?_,?_,?_,?_,?_,I.hok.kept keep,?_⟩
 .exact D
 .exact Nat.le_succ _
 .-- inj
  refine JC b4o BEA λx y c e e'=>I.ok.inj x y c (a2g e) (a2g e');exact Nat.lt_of_lt_of_le (mD O) B4X
 .-- has
  intro x t;refine JC a9W ?_;have f:E9G ((k'=.cell∨k'=.free)):=by
   rcases t with t|t
   rw[FB3 (z.elim (λz=>ED z.symm) λz=>DC cS)]
   rw[FB3 (z.elim (λz=>DC z.symm) λz=>by cases z.2)]
  obtain⟨k',e,rfl|rfl⟩:=f
  .exact xG mem e
  .obtain⟨a,ha⟩:=I.ok.has x (g _ (mem e) rfl);rw[WL .inr a (b2c ha (mem e))]
 .-- cab
  intro x c t e;rw[BM (mD d)]
  .exact Nat.le_trans B4X cS
  .-- x is the block's own cell, so it is not in the closure's part
   exfalso;rw[DI y U hyx List.any_eq_true.mp t];rw[DDB hyx];have e1:dF=x:=BZ6 hyx.1;have e2:y.2=.cell:=by simpa using hyx.2
   have W:AJY scope.names.lookup:=by rw[<-e1,<-e2];exact E y U
   rw[OZ E5S]
   .rw[A9P z' (I.cell x c z)];rw[DT (EPJ z'.lt CZ) nR]
   .-- the closure holds free names alone
    have fr:CMI J (WE (A5R (BE0 X.env J))) (E7B∨WE J.lookup):=by
     intro names;induction names with
     |nil=>intro J h;exact .inr h
     |cons n r V =>
      intro J h;rw[DJP];rw[ASG (V _ h)]
      rw[GX (IS w)]
      .rw[AZP N2 w w]
       .rename_i f;split at w
        .rw[List.lookup_cons]at w;cases A:x==n.1 with
         |true =>
          have:n=(x,NameKind.free):=Prod.ext (DLB A) (BQ f);rw[A9U (ABT this)]
         |false=>rw[A]at w;rw[A18 w]
        rw[JM w]
       rw[JM w]
    rw[ASG (AG fr q)]
    .rw[ABS (E _ w) W]
    .cases w
 .-- exf
  intro b A;rw[OY o (S b A)];have lt:=u6;rw[EC (AX1 lt) (EI x c L)];rw[BM (d x c L)]
  .exact Nat.ne_of_gt (EPJ lt cS)
  .exact ZD (sK BE4) x c z
 .-- noex
  intro b o e A;rcases UL ((BE4)) with z|z
  .exact cE I.ok.noex z
  rw[HL (yW C92 z) nR]
 .-- exfs
  intro b A z;rcases List.mem_cons.mp (I.stkSub b z)with q|q
  .exact hZ BE4 q
  .exact ZD ((BE4)) q
 .-- loc
  rw[FK B80 ?_ (F5Y Y)]
  .rw[T6 ((Heap.Ns.new (s.heap.push lo) (NY "dict")).keeps (pushCells_keeps scope.names _)) Heap.size_push]
  .rw[DI j e4 e5 b8h e2];obtain⟨Q,K⟩:=a8s C e1 e4;obtain⟨m,_,R⟩:=I.loc;have f:=g _ (mem K) rfl;have T:AQV:=.inr (f.imp id id);rw[XV r l (R j x v Q e5 T)];rw[FK u r (DC DJX)]
   .obtain⟨k,q,z⟩:=EEC O2 K;rw[BM z]
    rw[JM (OV z q)]
    rw[GX (OV z.2 q)]
   .rcases l with l|⟨_,c,L,z⟩
    .exfalso;rcases f with f|f<;>rw[l.1]at f<;>cases f
    .rw[FK c ?_ (z.keeps keep)];have own:¬BC4 scope.names:=λw=>by
      rw[ABS (E _ w) K]
     rw[SK c' (A9T (a9W (x:=x) scope.names A1D A96) ⟨c,b2c L (mem K)⟩)];rw[ASG (d x c' q)]
     rw[HL w.2 own]
     .rw[AW L w w];exact q
 .-- cell
  intro x c e;have e':ELU (C76 AHX).objs.size:=by
   rw[CG Heap.size_push Heap.size_push e]
  refine A4J a9d (EFY q) e';rw[EUE (I.cell x' c' (a2g q)) DH2]
 .exact EFD
 .intro x c e;rw[BM (mD d)]
  .exact I.hok.fresh (rV B4X cS)
  .exact I.freeC x c z
 .intro p hp;cases hp
 .show KQ C0 src σ=N.length;unfold C0;rw[AZ List.length_map a8r C]
def Inv.unblock{d:ZO}{C qP:qE}{fp:EW}{pins':DL}{σ':St}{H':Hp}{s':qC}{ys:A0}{us:AN}
  (I:AL) (y:C8O) (x:DD0 C) (v:DD0 qP) (m:qP≠C) (J:EYY (D0G s H fp) pins')
  (w:C10 qP) (A:CQ s'.heap.get? qP (AWZ us.toArray)) (B:AD4) (D:oE) (l:Heap.SameBut C s'.heap h') :
  JN EPI D4M:=by
 have base:BWA tE fp:=J.base;have kp:fC (IU C) DFQ WJ:=mP q l.extBut q;have a:RW RP (IU C/\IU qP):=IY o (by
  have:=u6;rw[AQ (EWM x) (EWM v)])
 have g:C10 C:=J.free;have h:EN qP:=I.hok.fresh v;have j:ARM:=J.hok;have p:AWY EPI h':=by
  intro b o e;rw[BI i b qP]
  .subst i;rw[GM A2];rw[EF D us n B (AJ kp m A)]
  .rw[A6 i]at e;refine EB ((j b o e).stay (λc u k q=>kp c u ?_ q) (BH c q)) c xs q
   .rw[ZE];rw[QI k k]
    .rw[GM g]
    .rw[AW g k k]
   .rw[AB (BNG w) q]
   .rw[AB (BNG w) q]
 have f:AQO (IU qP):=dM (by rw[ZE];rw[GM h])
 refine HU (I.call' (s':=D4M) (ch:=fp) (J.os) ⟨F0L,F0L,DQ b o e q t,AIL e t,DUX,DYG,CBI⟩ p J.bare) b l
 .exact kp b o C91 (EZ4 base.keep)
 .rw[XH sl z (EZ4 base.slot) sl (kp b _ C91 z)]
 .rw[AB (A6 (RT a).2) (base.free b o e q t)]
 .rw[XH o' z (cE base.there t) o' (kp b _ C91 z)]
 rw[CCZ (base.tups b xs e)]
 rw[CCZ (WK base.frzs u)]
 rw[CCZ (C3J base.tbls)]
 rw[CPY (y b l)]
set_option maxHeartbeats 4000000 in
def a8p{tg t E:Expr}{K:BT}{wi:TI}{tt:TT}{Q:VK}{RR:qB->qE->vM}(hc:DM)(hi:ARI t wi)
  (b7:A4D) (b6:AEI) (d3:A3Z)
  (hg:E2Z) (ht:zV PIf K tt) (he:E1C E)
  (I:AL) (h:vV (a7J src wi g tt) te)
  (b8:∀(s2 s4:qC) (H2 H4:Hp) (fp:EW) (a:ZO) (pl:DL) (σ4:St) (ys:A0) (us:AN) (k:Nat),EED->A7A (D0B H2) ->
   Inv F26 pl σ4 H4 s4->FD H4 s2.heap.objs.size->B6V s4.heap.get? AZH->AD4->oE ->
   IR s2.heap.objs.size (GO H4 s2.heap.objs.size ys)->RR B23 XL (.ok .next) s4) :
  fJ (RA t) (λx s₁=>A13 (pyIter x) (λit s₂=>A13 (newList []) (λqP s₃ =>
   A13 (newFunctionEnv scope X.env.globals A96 [] X.env.qual none .none (AO X.env)) (λP s₄ =>
    codeAny RE X.A (.compStart F2Q 0 it qP {P with scope:=BKI relabel}) (RR qP P.locals) s₄) s₃) s₂) s₁):=by
 refine FC6 d5;rw[FMB Y c3];have b9:tR (∃o,IC s2.heap.get?):=λb l=>(CJR c3 l).imp λ_ q=>CZ;rw[fE wpAny_newObj_type b2n];have hB:=Y.block (lo:=BX6) f2 b9 b7 b6 d3;rw[F01 (A5E s2 (s2.heap.push BX6)) XL];generalize G:BX1 (XL+1) A96=a at hB⊢;generalize B:BGW (s2.heap.push BX6).push=h4 at hB⊢;have a5:AIC s2.heap.get? (IC h4.get?):=lI o (by
  rw[EOB DH2])
 have a9:B6V h4.get? (AUJ (.seq CVE 0)):=by
  rw[EOB AOD]
 have c4:tn 0 h4:=JC T.keep c3 λb _ o q=>a5 b o q;generalize f:F26=j at hB;rw[oH eA j.A X.A]
 rw[oH eP j.prog X.prog]
 rw[oH ew j.w X.w]
 rw[oH eK j.K X.K]
 rw[dG ec (AY j.calm) f hc]
 rw[oH ee j.env (compEnvC scope a XL X.env)]
 rw[oH ex j.ex fp]
 rw[oH b0 j.pn []]
 rw[oH c8 j.s₀ s2]
 rw[oH a0 j.xe NoX]
 have eL:j.env.locals=XL:=by rw[ee];rfl
 have c7:j.fs=frs X.stack:=by rw[<-f];rfl
 have c2:=hB.ok;have cne:∀x c,WE j.env.cells.lookup->c≠s2.heap.objs.size:=λx c q=>by
  rw[ee]at q;have q':WE a.lookup:=q;rw[<-G]at q';rw[BM (JC a0o q')]
  .exact Nat.ne_of_gt (BJD Nat.lt_succ_self _ (DRS Nat.le_succ cS))
  .rw[A9P z' (Y.cell x c (a2g z))];exact Nat.ne_of_lt z'.lt
 have R:tR DHZ:=λb l=>by
  rw[SK o (b9 b l)];exact Nat.ne_of_lt (Heap.lt_size q)
 have A:s2.heap.objs.size∉j.fs:=by
  rw[c7];intro z;rcases AN0 (Y.stkSub _ z)with q|q
  rw[HL Y.lt (D21 q Nat.lt_irrefl)]
  .exact AKQ Y.nofs q
 have w:∀{H':Hp}{pl:DL},AQW->DF p pl (CU=s2.heap.objs.size)->tR (a4u j pl H' b):=λ{H' pl} hn D b l=>by
  obtain⟨x1,x2⟩:=EET c2.exf;refine⟨hn b l,x1,EET c2.exfs,UG .inl ex l,x2,AA0 c0⟩;rw[b0,List.nil_append]at c0;rw[D p c0];exact(R b l).symm
 have c1:∀s5:qC,s5=A5E s2 h4->codeAny RE X.A (.compLoop F2Q 0 A0I B23 j.env)
   (KB RR s2.heap.objs.size XL) s5:=by
  rintro s5 rfl;refine a9V (λn s'=>∃i H' ys us k,E2M H' s'/\DRY/\AQW/\C10 s2.heap.objs.size /\
   B6V s'.heap.get? (CS5 (us:AN).toArray)/\AD4/\W i n ys H') ?_ m0
   ⟨0,H2,[],[],0,hB,c4,λb l=>A7X f2 l,YM Y.hok.fresh,a9,.nil,w0⟩
  rintro n s3 ⟨i,S,ys,us,k,I3,a6,a4,L,a8,r3,w3⟩;rcases turn i n ys S w3 with⟨stop,hz,qn⟩|⟨go,hz,Nn,hN,step⟩
  .rw[DBV (DAH T.done ec i [] s3) I3 A0S stop];rw[FF5 (by
    rw[FDT])]
   rw[FIG T.done stop];refine FJ d r s4 ⟨hr,I4⟩;subst hr;have c6:=(EMO I4.pin List.mem_cons_self).1;rw[<-f]at I4;exact b8 s2 s4 H2 S fp a _ _ ys us k Y f2 I4 L c6 r3 hz (qn _ L)
  .rw[FF5 (by
    rw[FDT])]
   rw[FIG T.item go];refine FJ d r s4 O;rw[XV hr d0 O];subst hr;refine FJ d0 _ s5 O;obtain⟨x,H5,I5,r5,y5,a7,c9⟩:=O;have c5:=I5.pinned (w c9 D7Y) (AG T.obj a7);rw[dG d2 (PG j tg g) f (YU hg)]
   rw[dG d4 (PIf j K tt) f (YU ht)]
   rw[dG d1 (PE j E te) f (YU he)]
   have a1:=F5D (d2 _ s5 _ H5) c5 H5;rw[CNW a1];rw[v9 (FJ a1 _ s6 O) σ6 H6 I6 sb q6 O];have a2:=d4 _ s6 σ6 H6 _ I6 q6;rw[CNW a2];refine FJ a2 ok s7 O;obtain⟨H7,I7,q7⟩:=O;have back:∀{U:Hp}{M:qC}{pl:DL},Inv j (D7J++a6b fp s5.heap) σ6 U M ->
     E2M U M/\tn AM M.heap/\A7A (FD U b)/\FD U s2.heap.objs.size/\B6V M.heap.get? AZH:=λ{U M pl} I8=>by
    rw[JK p0 (EMO I8.pin (UX List.mem_cons_self)) ⟨(I8.pins_of (pins':=[]) λp D=>by cases D).weak sb.1 sb.2,CFJ a7 l (BG1 I8.pin EGC).1,gQ l,p0.2.1,p0.1⟩];obtain⟨o,e,_⟩:=CJR a7 l;exact hZ (BG1 I8.pin EGC)
   cases ok with
   |false =>
    rw[FI8 w7 q7 I7];exact⟨m',hm,AM,H7,ys,us,k,b1,b2,b3,b4,b5,r3,w7⟩
   |true =>
    have a3:=d1 _ s7 σ6 H7 _ I7 q7;rw[CNW a3];rw[v9 (FJ a3 y M O) vy U I8 ry n8 O];rw[FI8 w8 n8 I8];rw[F1J (MW b5) (PySem.list_append s2.heap.objs.size us.toArray k y (by rw[lX r3.length];exact a2I hz)) b5];rw[GJ q (PySem.IsL.update b5 (λxs=>DI6)) (show us.toArray.push y=DDT DUT by simp) q];have nb:AWD DHZ (IC M.heap.get?) (M.heap.update s2.heap.objs.size (EDM DI6)).get?:=λb o l e =>
     rS (Heap.get?_update_other M.heap _ (Ne.symm l)) e
    refine⟨m',hm,AM,U,AVD vy,DUT,_,?_,?_,b3,b4,q,E4Y r3.append ry,w8⟩
    .exact b1.turned nb b4 D76 (.inr (by rw[BOO c8])) cne λp D=>by rw[AW b0 D D]
    .exact CFJ b2 l (WK nb (R b l))
 rw[GJ m (c1 _ rfl) ee m];exact codeAny_compStart_list m (T.self _ 0 _ _ _ c4 m)
def a7R(a:A3Z):scope.kind=.function/\EPM:=by
 rw[A7S a8S];rw[Bool.and_eq_true]at a;rw[AQ (BQ QR) (λx b=>BQ (List.all_eq_true.mp a.2 x b))]
def Inv.clos(I:AL)(a:A4D):BKI closureFor=pure A96:=c3L λx d c=>by
 rw[F9X (List.all_eq_true.mp a x d) c b]
 rw[Bool.or_eq_true]at b;exact I.ok.has ET (EST b.imp)
def c5u{tg b e:Expr}{j:BT}{u:TI}{t:TT}(y:DM)(hi:ARI b u)
  (c:A4D) (f:AEI) (i:A3Z)
  (A:E2Z) (D:BJE a (PIf (BJK C s H ex) j t)) (z:E1C e)
  (hs:CN8:=by rw[jW]):DR (BSE e b j) (BH8 u t):=by
 rw[LU];obtain⟨d,n⟩:=a7R i;rw[eval_ListComp];refine wpAny_comprehension_free (use:=none) rfl hs (I.clos c) d (λx E B=>AYH B n x E) (a8p (RR:=D14 none B3F) y hi c f i A D z I h ?_);intro s2 L H2 J fp a K σ4 ys us k v f2 r p l G F q;rw[C01 o r.loc];rw[AU m o (λh' w=>A8Y s2.heap.objs.size (FC2 v A7O r p l G F w) q)]
def c4U{y:Str}{u r:Pos}{tg f j:Expr}{l:BT}{wi:TI}{tt:TT}
  (hN:X.N.Nodup) (hy:CA8) (Y:CJF)
  (hc:DM) (hi:ARI f wi) (n:A4D) (B:AEI) (F:A3Z)
  (hg:CIK PG tg g) (ht:CIK PIf l tt) (S:CIK PE j te)
  (W:F8F F2P AYW r.line:=by rfl) (hs:B17 (foldedSetIterable f X.env x):=by rw[jW])
  (hf:CNH:=by rw[pD]) :
  PS X (.Assign [AYW] F2P r) (BXQ (BH8 wi tt)):=by
 rw[XO];rw[fN t T a7R F];rw[TV exec_Assign_Name_used W];rw[AX (fA wpAny_standAt wpAny_bind)];show KZ X.A ((do let _ <-comprehension (.ListComp j [⟨tg,f,l,0⟩] scope pos) scope X.env _ (newList []) false (eval f X.env) (some (assign (.Name y u) X.env))));rw[AX (cT (wX wpAny_comprehension_free use CZD (Q:=CZY) hs (I.clos n) t (λx Y hk=>AYH hk T x Y)
  (a8p (RR:=D14 CZD CZY) hc hi n B F hg ht S I h ?_)) (λ_ s' hq=>B3P hq) e e)]
 intro s2 s4 H2 H4 fp d pl σ4 ys us k w f2 L Z M r4 hz q;rw[C01 V L.loc];have E:s4.heap.Ns XL m:=V;have O:FD H4 XL:=L.free;have J:=FC2 w A7O L Z M r4 hz (BZ Heap.SameBut.refl);have K:XL≠X.env.locals:=CR7 Nat.ne_of_gt w.lt;have G:CB2 XL:=λx c e=>by
  rw[A9P z (mD w.cell)];exact Nat.ne_of_lt (Nat.lt_succ_of_lt z.lt)
 rw[pL X.A (assign AYW X.env B23) s4];refine wpAny_assign_Name (a7M (v:=B23) J hN hy Y rfl (EI s' I' hb) hf);rw[ABC sb P hb];have A:XL≠a:=by
  rw[QI P P]
  .exact K
  .exact(cP P).symm
 rw[FK m (E.sameBut sb A) (λh' R=>cM _ (HU (BC I'.turned t' s'.toks it XL (mP U R.extBut U) ?_ K (DC (Nat.le_trans w.sz (Nat.le_succ _))) G) p hp) q)]
 .rw[AB (A6 D4C) O]
 .exact Nat.ne_of_lt (DDS Nat.lt_succ_of_lt (w.pin p hp).1)
noncomputable def SqAt(k:Bool)(h:Heap)(l:qE)(xs:CO):Prop:=CLT (h.IsTuple l xs) (h.IsList l xs)
noncomputable def ItAt(k:Bool)(h:Heap)(i l:qE)(n:Nat):Prop:=CLT (h.IsTupleIter i l n) (h.IsListIter i l n)
noncomputable def d0a:Bool->String|true => "tuple_iterator" | false => "list_iterator"
noncomputable def W8(k:Bool)(l:qE):Obj:=BIH (.type (d0a k)) (.fields BIY)
def ItAt.extBut{k:Bool}{h h':Heap}{i l b:qE}{n:Nat}(x:CDN)(hs:EYB)(a:i≠b):DYT:=by
 cases k
 rw[BGY Heap.IsListIter.extBut]
 rw[BGY Heap.IsTupleIter.extBut]
def ItAt.at{k:Bool}{h h':Heap}{i l:qE}{n:Nat}(x:CDN)(e:CIT i i):DYT:=by
 cases k
 .exact Heap.IsListIter.at x e
 .exact Heap.IsTupleIter.at x e
def ItAt.get{i:qE}(x:CDN):∃o,AK3 i/\CE6 #[IX,A4V n]:=by
 cases k<;>obtain⟨o,e,c,d⟩:=x<;>exact(WS e d)
def SqAt.extBut{k:Bool}{h h':Heap}{l b:qE}{xs:CO}(x:CBP)(hs:EYB)(a:l≠b):DVE:=by
 cases k
 rw[BGY Heap.IsList.extBut]
 rw[BGY Heap.IsTuple.extBut]
def SqAt.at{xs:CO}(x:CBP)(e:CIT l l):DVE:=by
 rw[FDA (WS (e o q) r)]
def SqAt.get{xs:CO}(x:CBP):∃o,AK3 l:=by
 rw[FDA (sT q)]
def a4V{t:qE}{x:qB}(a:ET2)(f:EFF)(g:C3E)
  (d:E1R (h'.IsTupleIter it t AM)):BEE:=by
 rw[F77 b e (id a) h c f (DVW a.typeIs
  (F5O a.typeIs))]
 rw[FHY (ATD hd KH) (ATD hd CWX) c g (wpAny_setField b hd AF (A1U (D4 x (A1U (d _ ?_ APB)))))];rw[BW _ (A19 b (EP7 hd)) (oD Obj.cls_mapFields .. e) (by
  rw[Obj.data_mapFields hd];simp[rawInt])]
def a6k{t:qE}(f:PH)(b:ET2)(h:EFF)(j:C3Z)
  (g:EAD) :
  BEE:=by
 rw[F77 c k (id b) l d h (DVW b.typeIs
  (F5O b.typeIs))]
 rw[FHY (F90 KH) (F90 CWX) d j (DN8 (wpAny_setField c hd AF ?_))];rw[AFY CMP];rw[DCO]
 first|rw[BVK f]|rw[f]
 rw[AX D69];exact AJ g DC5 ALR
def a2X{x:qB}(a:BGA)(c:A3O)(d:C3E)
  (b:E1R ENC):BEE:=by
 cases k
 .exact wpAny_nextOf_list_item a c d b
 .exact a4V a c d b
def a8G(c:PH)(a:BGA)(d:A3O)(f:C3Z)
  (b:EAD) :
  BEE:=by
 cases k
 .exact wpAny_nextOf_list_end c a d f b
 .exact a6k c a d f b
def N8(b:A3O)(a:zY (JV CNA)):C9Q l:=by
 cases k
 .exact wpAny_pyIter_list b a
 .exact wpAny_pyIter_tuple b a
def b8m{z TI TO g k:qE}{p:Nat}{xs ys:CO}{x y a b:qB}(D:ZipApart z TI TO f g k l)
  (hz:EL1) (u:E86 rA B6T) (B:E2V)
  (h1:AM0 s.heap f k n) (h2:ItAt k2 s.heap g l p) (C:SqAt k1 s.heap k xs) (F:SqAt k2 s.heap l ys) (H:gB xs n) (I:GD ys p y)
  (G:∀h',DBP h' s.heap.objs.size->BAA h' TO->E9W h'->E9N h'->BAA h' s.heap.objs.size->E3Z ->
   B51 B97 (CP4 f g B3E)->zY UE) :
  FEW Builtin.«zip.__next__» z:=by
 rw[FM4 u f];rw[FJU (a2X CJN (D5G C.extBut) H) B];rw[AX (C27 hTO₂ h₃ hTO₃ hs₃)];replace hTO₃:EXY h₃:=hTO₃;rw[sM BAH BVB];rw[BW6 g];rw[AX (a2X (F4G hs₃.extBut D.TOi2.symm)
  (FDC F.extBut) I λh₄ h2₄ hs₄=>AAE)]
 have hTO₄:EXY h₄:=AJ hs₄.extBut D.TOi2 hTO₃;rw[AJJ hTO₄];rw[AX (C27 hTO₄ h₅ hTO₅ hs₅)];replace hTO₅:BAA h₅ TO:=hTO₅;rw[PP wpAny_letGo AQ5];rw[AJJ hTO₅];rw[EFV i h₅.objs.size (by rw[hs₅.1,hs₄.1,hs₃.1,hs₂.1,hs₁.1])]
 have hz₅:B16 h₅:=bR hs₅.extBut D.TOz.symm hs₄.extBut D.i2z.symm (bR hs₃.extBut D.TOz.symm hs₂.extBut D.i1z.symm hz₁);have hk₅:∀c o,B97->CP4 f g DM0:=λc o h m r t e =>
  F0Q m hs₄.extBut t m r h e
 have h1₅:E9W h₅:=AH0 (AH0 h1₂.extBut hs₃.extBut D.TOi1.symm) hs₄.extBut D.i12 hs₅.extBut D.TOi1.symm;have h2₅:E9N h₅:=h2₄.extBut hs₅.extBut D.TOi2.symm;have d:z<h₅.objs.size:=Heap.lt_size hz₅;rw[AFY (KB Builtin.SmallTypes.ownedTupleHandOut z (AI h₅.objs.size))];rw[QQ];unfold Builtin.SmallTypes.ownedTupleHandOut;have hz₆:B16 (h₅.push (sF #[x,y])):=PQ hz₅;rw[AX (EB (AAF hz₆) h₇ hz₇ hs₇)];replace hz₇:EAK h₇:=hz₇;refine EB (AAF hz₇) h₈ hz₈ hs₈;replace hz₈:EAK h₈:=hz₈;have q:BYE B97 DM0 h₈.get?:=λc o h e=>EHE h h YZ;have hT₈:BAA h₈ h₅.objs.size:=EHE DJM DJM KF;have j:h₈.objs.size=h₅.objs.size+1:=by rw[hs₈.1,hs₇.1,Heap.size_push]
 rw[i]at hz₈ hT₈ j;rw[UQ sW];show IR h₅.objs.size _;rw[AB i (G h₈ hz₈ (AJ q D.TOz hTO₅) (EYL h1₅.at D.i1z) (EYL h2₅.at D.i2z) hT₈ j λc o h m r t e=>q c o h (hk₅ c o h m r t e))]
def c4i{z TI TO m v y:qE}{B C:Nat}{xs ys:CO}{a b:qB}{Q:C3I}(H:PH)(D:ZipApart z TI TO l m v y)
  (hz:EL1) (p:E86 IX (AI m)) (q:E2V)
  (h1:AM0 s.heap l v B) (h2:ItAt k2 s.heap m y C) (k:SqAt k1 s.heap v xs) (t:SqAt k2 s.heap y ys) (j:MY DRQ∨MY ECB)
  (G:DAT (B51 B97 (CP4 l m B3E))) :
  F1 (BVY Builtin.«zip.__next__» z):=by
 rw[FM4 p l];cases u:DRQ with
 |none =>
  rw[AX (a8G H CJN E7T u (BS h₂ e hs₂ r))];rw[FH2 hz₂ h₂ (AJ hs₂ D.i1z.symm hz₁) hz₂]
  refine AAF hz₂ λh₃ _ hs₃=>FEN h₃ _ _ (AJ hs₃.extBut i (bR hs₂ n hs₁.extBut i x)) hs₃.extBut
 |some x =>
  have K:ECB=none:=by rcases j with h|h;rw[AW u h h];exact h
  rw[FJU (a2X CJN E7T u) q];rw[sM (C27 hTO₂ h₃ hTO₃ hs₃) BAH];rw[AX BVB];rw[BW6 m];rw[AX (a8G H (F4G hs₃.extBut D.TOi2.symm)
   (FDC t.extBut) K (BS h₄ e hs₄ r))]
  rw[FH2 hz₄ h₄ (AJ hs₄ D.i2z.symm (bR hs₃.extBut D.TOz.symm hs₂.extBut D.i1z.symm hz₁)) hz₄]
  refine AAF hz₄ λh₅ _ hs₅=>FEN h₅ I J (F0Q i hs₄ J I n i x) hs₅.extBut
noncomputable abbrev zH1(k1:Bool)(h:Heap)(l1:qE):Heap:=h.push (W8 k1 l1)
noncomputable abbrev zH2(k1 k2:Bool)(h:Heap)(l1 l2:qE):Heap:=(zH1 k1 h l1).push (W8 k2 l2)
noncomputable abbrev zH3(k1 k2:Bool)(h:Heap)(l1 l2:qE):Heap:=CDR zH2 (sF #[AI h.objs.size,AI (D6N h l1)])
noncomputable abbrev zH4(k1 k2:Bool)(h:Heap)(l1 l2:qE):Heap:=CDR zH3 (sF #[.none,.none])
noncomputable abbrev zH5(k1 k2:Bool)(h:Heap)(l1 l2:qE):Heap:=CDR zH4 (pW "zip" #[.none,AXK,AXK,EDK zH2,EDK zH3])
def c4g(a b:qE)(xs ys:CO) :
  AB0 Builtin.«zip.__new__» (MZ [NY "zip",CM,GV]) (EA0/\EAA /\
   AMC DTA (JV (zH5 k1 k2 s.heap a b))) :=
 (wW (by
  rw[nN k];rw[v5 i j h];have l:=sub_zip;have c:D94 (CFY k):=i;have f:DAC (CFY (k.push (W8 k1 a))):=WW j.at YZ
  wp_walk using N8 c,N8 f
  rw[vW]))
def b8n{xs ys:CO}(e:EA0)(f:EAA)
  (h:∀h',IsZip h' CAO A1D CAN .none->IsPair h' A1D kR DE7 ->
   IsPair h' CAN .none .none->AM0 h' s.heap.objs.size a 0->ItAt k2 h' HK b 0->h'.objs.size=s.heap.objs.size+5 ->
   EOQ->C29 CAO) :
  F1 (rO call "zip" [CM,GV]):=by
 refine callType_new F.called_zip AH (BZ F.typeCall_zip_2) (BZ F.newCall_zip_2) (λg=>F.args_object_init_3 g _ _) F.entry_zip_new
  (c4g (k1:=k1) (k2:=k2) a b xs ys) (ABA e f)
 have i:EU3=HK:=BU7;rw[BFF j zH2 A1D i]
 rw[BFF k zH3 CAN j]
 rw[BFF l zH4 CAO k]
 rw[BFF q zH5 (BMP 5) l]
 have d:CQ B57 DTA _:=KF;have p:ESD zH3:=AOD;have n:ESD zH2:=C7R;have m:CQ B57 EU3 (W8 k2 b):=PQ C7R;have g1:A70 B57 (W8 k1 a):=sC C7R;show _/\_;rw[j,k,l]at d;rw[i,j]at n;rw[k]at p;rw[i]at m;rw[l];rw[EC (MW d) (h _ d n p ?_ ?_ q λc o x =>
  PQ (sC (sC x)))]
 .rw[C09 k1 g1]
 .rw[C09 k2 m]
noncomputable def SqK(k:Bool)(K:qF)(H:Hp)(a:qE)(xs:A0):Prop:=CLT eG jO
def Inv.sqk(I:AL)(h:CFU):D9G (SqAt k s.heap a its.toArray):=by
 cases k
 rw[F1R DGC p.isList]
 rw[F1R DGD p]
def Inv.sqk_inj{ys:A0}(I:AL)(h:CFU)(h':D0P ys):B9D:=by
 cases k
 .exact I.list_inj h h'
 .exact I.tuple_inj h h'
noncomputable def Itz(K:qF)(k1 k2:Bool)(a b:qE):It :=
 ⟨λi H=>∃xs ys x y,AR6/\CDM/\cH/\CA7,
  AMR v (∃p x y,BA6/\TZ/\H'=gU p BVJ/\(∀xs,AR6->cH)/\∀ys,CDM->CA7),
  λi H=>∃xs ys,AR6/\CDM/\(BQB∨AK6)⟩
structure ZTurn(k1 k2:Bool)(z TI TO i1 i2 a b:qE)(i:Nat)(f0:qB)(h:Heap):Prop where
 zz:BLF h f0
 ti:IsPair h TI (AI i1) (AI i2)
 to:∃u v,IsPair h TO u v
 t1:AM0 h i1 a i
 t2:ItAt k2 h i2 b i
structure ZNe(z TI TO i1 i2:qE):Prop where
 TIz:TI≠z
 TOz:TO≠z
 i1z:i1≠z
 i2z:i2≠z
 TITO:TI≠TO
 TIi1:TI≠i1
 TIi2:TI≠i2
 TOi1:TO≠i1
 TOi2:TO≠i2
 i12:i1≠i2
def Inv.turnedT{ch:EW}{p:qE}{o:HO}(I:AL)(h:DXU)(hp:s.heap.objs.size=p)(k:DPG)
  (new:BEI (rH p) h' p o):JN (rH p) UE:=by
 have l:TZ:=DDQ Nat.le_of_eq hp;have f:AQO A0T:=ERG h
 have a:AQO rQ:=E3E l
 have i:AW4 s.heap.get? rQ:=dM (by
  rw[JY hp B54])
 refine FC1 (AKS d _ (WK k d)) (AKS d _ (BSQ (WK k d))) (GI (A0Q i) n)
  (RX o d (sT (WK k d))) (ALS DXQ) (RX u v DXQ) (IY ps (CBS (A6 D5J) e)) (A7Z m) (dM ?_) I.bare
 rw[CPY (h b g)]
 .rw[A0F es ep ho r j];rw[COM (λz=>hZ (h _ z) rfl)]
 .rw[BI g b p]
  .rw[BZY g];exact new
  .rw[A6 g]at e;refine ETF d EZI EZI
   rw[BM d]
   .rw[AB z (A0Q f)]
   .exact f c _ z
def Inv.turnedL{ch:EW}(I:AL)(f:DXU)(k:DPG):B2H:=by
 have d:AQO A0T:=ERG f
 refine FC1 (E27 a) (E28 a) n
  (E68 a) (ALS e) (RX u v e) (IY ps (CBR e)) (ANN h) (dM ?_) I.bare
 rw[CPY (f b g)]
 .rw[QP o es ep ho r];rw[COM (E50 f)]
 .refine ETF a q q;rw[BM a]
  .rw[AB z (A0Q d)]
  .exact d c _ z
def Inv.apart{o:Obj}(I:AL)(hs:CFU)(h:AYG):AQR:=by
 rw[ZE];have c:∀{u:HO},CHS->False:=λr=>by
  rcases r with r|⟨o,r⟩<;>rw[CB]at r<;>cases r
 have d:∀{f:Obj},RO X.K.lookup f->False:=λe=>by
  have g:=I.mod.kin a _ e;rw[BM (UL h)]
  .exact AJ I.ok.noex g z
  rw[HL (yW (AG I.ok.bs g).1 z) nR]
 cases k
 .rw[F78]
  .exact c r
  .exact d e
 .rw[F78]
  .exact c r
  .exact d e
def b8v{kt:Nat}{tp:Pos}{z TI TO g j:qE}(D:ZNe z TI TO g j) :
  Turn P w K (BR9 kt tp) tW A8D z (A7H (ZTurn k1 k2 z TI TO g j a b i .none h)) where
 mem:=AF
 obj:=AS7 c (by
  rw[cL f];rw[COZ f]
  .exact ES st.zz AMB
  .exact ES st.ti AMB
  .rw[XV v q st.to];exact ES q AMB
  rw[COR st.t1.get]
  rw[COR st.t2.get])
 keep:=A1S k ⟨AQL z st.zz,AQL TI st.ti,mF u v q st.to u v (AQL TO q),BXD st.t1.at g,BXD st.t2.at j⟩
 item:=by
  rw[FHR];obtain⟨xs,ys,x,y,m,n,hx,hy⟩:=N;rw[FK8];rw[DI u hu Y W.get hx];rw[DI v hv Z B.get hy];rw[FMG (ENQ
   (DDO F.slot_zip_next C F.entry_zip_next
    (BC (b8m J st.zz st.ti p st.t1 st.t2 U V) x u y v DGI (BQ hv) λh' a1 a2 a3 a4 a5 a6 a7=>AAE) (F.args_zip_next_1 _)))]
  rw[A2F];refine EB (wpAny_letOwnedTupleGo_zip (s:=UE) a1) h2 R l;have ne:A0D A8D DKL:=λc f e=>by
   have:∃o,A7L:=by
    rw[cL f];rw[COZ f]
    .exact EM st.zz
    .exact EM st.ti
    .exact EM p
    rw[CFG st.t1.get]
    rw[CFG st.t2.get]
   rw[SK o this];exact rL Heap.lt_size q (BBJ e)
  have t:A2D:=cQ;have S:IsPair h2 s.heap.objs.size u v:=C13 (ne z AF).symm a5;have kk:F4K A8D:=λc o f e=>by
   rw[B5N f];exact AJ l.extBut hJ (FC4 a7)
  have I2:ETU BVJ :=
   I.turnedT (ch:=A8D) r rfl kk (F6U [u,v] Y Z S)
  refine cN kR _ I2 (LC _ x y t rfl E4U E4U) ⟨R,C13 D.TIz (AJ a7 D.TIz D.TITO D.TIi1 D.TIi2 st.ti),B63 v (C13 D.TOz a2),a3.extBut l.extBut D.i1z,a4.extBut l.extBut D.i2z⟩ CEE
  .rw[AB (I.sqk_inj O m) hx]
  .rw[AB (I.sqk_inj O n) hy]
  .rw[A6 (ne c f)];exact(CV6).1
 done:=by
  rw[FHR];obtain⟨xs,ys,m,n,G⟩:=N;rw[FK8];rw[AC l1 W.length l2 B.length];rw[FMG (ENQ
   (sG F.slot_zip_next C F.entry_zip_next (c4i DJQ J st.zz st.ti p st.t1 st.t2 U V ?_ (BS h' e hk he)) F.args_zip_next_1))]
  .rw[OZ G]
   rw[GX (EML l1)]
   rw[JM (EML l2)]
  .rw[FEG he (I.turnedL (ch:=A8D) r (BS c o f e))];exact FC4 hk
 self:=λA i s Q E st h=>wpAny_pyIter_zip st.zz h
def nne{a b:Nat}(h:AQR):@Ne qE a b:=h
def zne(n:Nat):ZNe (n+4) (n+2) (n+3) n CW :=
 ⟨jK 0x6834d53b5dd77a5,jK 0x6834d53b5ddcd65,jK 21378635573765,jK 598601796065141,jK 0x6834d50919fb7a5,jK 0x9d2ad3f27a5,jK 302412516722597,jK 0x9d2ad3f7d65,jK 302412516744549,jK 27269009349⟩
inductive iZipI(K:qF)(R:jA)(vs:A0)(H1:Hp):Prop
 |mk (k1 k2 a b:_) (_:DR9) (_:FBF k1) (_:(∃ys,SqK k2 K H1 b ys)) (_:R tW H1):E2F iZipI
noncomputable def d0f(K:qF)(ta:TA):TI:=ENT iZipI
def c8K{u:Nat}{A:Pos}{a b:Expr}{ta:TA}{p:Pos}(m:C3P)(n:C4N)(l:E8M)(i:EKV)
  (hs:CMB:=by rfl) (g:CK7:=by rfl) :
  CMQ PI u A (d0f X.K ta):=by
 rw[B2Y];refine Call_ (a2J I m n i (PyProof.Rows.callWith_type1 (CEO l (xQ vs H1 y x)) (GT hs g) (by rw[g];rfl)));obtain⟨k1,k2,G,J,e,⟨xs,o⟩,⟨ys,t⟩,q⟩:=x;rw[DB];cases y with
 |cons r rr =>
  cases rr with
  |cons r' rr =>
   rw[gM rr r];cases r';rw[EZ us K v N d.sqk o];rw[EZ L z w O d.sqk t];refine b8n v w λh' k B C D E M F=>?_;refine wpAny_pyIter_zip (s:=A5E s1 h') k ?_;refine⟨BZA 4,[BZA 4,s1.heap.objs.size+2,BZA 3,s1.heap.objs.size,C0G],_,_,H1,rfl,DQ9 s1.toks F,b8v (zne _),
    ⟨k,B,ES _ C,D,E⟩,A7Z c,q⟩
   have f:DNN:=by
    rw[cL j];rw[COZ j]
    rw[ANU]
    rw[ANU]
    rw[ANU]
    rw[DSZ]
    rw[ANU]
   exact d.fpOk f (d.hok.fresh f)
def a2S{I:qE}(b:PH)(a:l≠I) :
  eY Walks A I [I,l] [I] items.size (λi v=>CXG) (A7H (A66 h I i/\DNL h)):=by
 cases k
 .exact Walks.list b I l a items
 .exact Walks.tuple b I l a items
noncomputable def trV:BAP
 |dX=>b
 |dW=>DSV
 |.non=>false
 |_=>true
noncomputable def b1R:BAP
 |fX=>true
 |aD=>true
 |.non=>true
 |_=>false
def a4y{x:V}{v:qB}{Q:jG}(r:cU)(f:EO b1R x)(h:Q (trV x) s):F1 (truthy v):=by
 cases x with
 |non=>cases r;exact truthy_none h
 |bl b=>cases r;exact wpAny_truthy_bool h
 |int i=>rw[HQ r];exact PySem.P.truthy_int h
 |_=>cases f
def a7U(xs:CJ)(p:C7X)(d:α):FAT all xs.all:=by
 rw[Bool.eq_iff_iff,List.all_eq_true,List.all_eq_true];constructor
 .intro h x hx;rw[iK hx];have:=h i (List.mem_range.mpr hi);rw[BST hi this]
 .intro h i hi;have a:=List.mem_range.mp hi;rw[BST a (h AXF (List.getElem_mem a))]
def b6F(xs:CJ)(p:C7X)(d:α):FAT any xs.any:=by
 have:=a7U xs (λx=>! p x) d;rw[<-List.not_any_eq_all_not,<-List.not_any_eq_all_not]at this;rw[fQ]
def b5k(xs:qI):∀n,n<=xs.length->preSum (OS lV) n=(xs.take n).sum
 |0,_=>IF preSum
 |CW,h=>by
  have this:ANM n xs[n]:=KA (A9Z b3v);rw[A0J e (xs.take CW=xs.take n++[xs[n]]) List.take_add_one this]
  rw[preSum,b5k xs n (A9Z a3Y),e,List.sum_append];rw[AL7 this]
noncomputable abbrev RL:=AR7
inductive rAll(K:qF)(xs:A0)(H:Hp)(Q:VK):Prop
 |mk (k:Bool) (p:qE) (ys:A0) (_:jI) (_:E9M) (_:E02) (_:C5H ys.all trV):eO rAll
inductive rAny(K:qF)(xs:A0)(H:Hp)(Q:VK):Prop
 |mk (k:Bool) (p:qE) (ys:A0) (_:jI) (_:E9M) (_:E02) (_:C5H ys.any trV):eO rAny
inductive rSum(K:qF)(xs:A0)(H:Hp)(Q:VK):Prop
 |mk (k:Bool) (p:qE) (ns:qI) (_:jI) (_:CF8 p) (_:SI ns.sum):eO rSum
def a9M(h:A3O):EJC CNA/\DNL CNA:=by
 rw[EC ?_ (WW h.at YZ)];cases k<;>exact AXM
def a3i(h:A3O):DWN:=by
 rw[OY o h.get];exact B54
def a3k{c:Obj}(a:fC (b∉[s.heap.objs.size]) (IC (A4I c get?)) WJ):RW RP WJ:=λb o e =>
 a b o (λz=>by rw[KP u6 ZF];exact Nat.lt_irrefl _ this) YZ
def c3Q(g:DM):B9Z "all" rAll:=by
 rw[FM8 call_all_walk]
 .rw[FJR]
  rw[FF6]
  rw[FLW]
 .rw[F8V all ys.all (by
   rw[F9A a7U])]
  rw[F1A]
def c3P(g:DM):B9Z "any" rAny:=by
 rw[FM8 call_any_walk]
 .rw[FJR]
  rw[FF6]
  rw[FLW]
 .rw[F8V any ys.any (by
   rw[F9A b6F])]
  rw[F1A]
def c3N(n:DM):B9Z "sum" rSum:=by
 rw[kZ z];obtain⟨k,p,a,rfl,hs,q⟩:=h;rw[VA y z.one y];rw[RV m f A I.sqk hs];rw[GJ d m.length List.length_map d];rw[BVO r (I.ok.hd n)];refine call_sum_walkG (N8 f ?_);refine⟨s.heap.objs.size,_,_,_,_,_,OS C38,rfl,BZ0 r (a3i f),a9M f,gQ j,?_,BS h' tk t' w⟩
 .rw[AYJ];rw[OY o f.get];have g:=u6;rw[cL j];rw[QI j rfl]
  rw[DT0]
  .exact Nat.lt_succ_of_lt g
 .intro i v hv;rw[MD c AM3 hv]
  rw[BSP DJL];have x:dI (PV a.map)=DS a[i]:=by rw[B2Q (AOP d)]
  obtain⟨B,e1,t,e2⟩:=m.get x;rw[AKU c];rw[AQ t (by rw[e2];show _=DMB C38;rw[B83 (AOP d)])]
 .have e:preSum (OS C38) its.toArray.size=a.sum:=by
   rw[List.size_toArray,<-d,b5k a _ (Nat.le_refl _),List.take_length]
  rw[e];exact UA (BP a.sum) (I.kept (a3k w)) (UP t') q
inductive rIsi(K:qF)(xs:A0)(H:Hp)(Q:VK):Prop
 |mk (x n t b:_) (_:xs=[x,.ty n]) (_:BJV x t) (_:PySem.W.kitOne K t (.type n)=some b) (_:AIA b):eO rIsi
def c3O:B9Z "isinstance" rIsi:=by
 rw[kZ d];obtain⟨x,n,t,b,rfl,ty,e,q⟩:=h;obtain⟨u,v,rfl,c,a⟩:=d.two;cases a;exact b7r I c ty e λtk=>GZ dX H EAU q
def b0c:jP "len" "len":=boot_len
def d0t:EKV:=MC
def d0x:jP "all" "all":=MC
def d0w:jP "any" "any":=MC
def d0u:jP "sum" "sum":=MC
def b4v:jP "min" "min":=MC
def d0v:jP "max" "max":=MC
def d0y:jP "abs" "abs":=MC
def a7D:jP "isinstance" "isinstance":=MC
def a4q:jP "sorted" "sorted":=MC
def b2h:uU "tuple" "tuple":=MC
def c7b:uU "list" "list":=MC
def c3W:uU "int" "int":=MC
def c3U:uU "str" "str":=MC
def c3V:uU "set" "set":=MC
def a3v{f:TT}{Q:VK}{J:It}(n:Nat)(c:A2H)(h0:BDT)
  (hs:CDB A94 (ESF (BMC J.yld (AL1 (BMA gL) f d d h (c AM A92 h) (CIJ c)))))
  (hd:AKY c n (J.stop n H/\oE/\A95)):ASW f J:=by
 rw[B1U ys n B8Q A94 ⟨n,XW 0x1152889b3be69c205,GH,h0⟩ ys];rw[iM NB]
 .obtain⟨q1,q2,q3⟩:=hs i ys H a p;rw[A18 ⟨q1,q2,A03,λzs H' p'=>F41,q3⟩]
 .rw[EQX]
  rw[DB];rw[A9U B1I]
def a6Y{h:TT}{Q:VK}{lo:Int}(f:C19)(a:A2H)(h0:DW2)
  (d:CPD)
  (hs:CDB B0M (F40 C18 c c (a AM ys c)))
  (hd:E7Z):ASW h CBH :=
 a3v n a h0 (FHH d x (by rw[FF1 ys hi]))
  (F2N d n)
def R8{l:TT}{Q:VK}(j:ZR)(c:A2H)(h0:BDT)
  (k:F2K jO)
  (hs:FK7)
  (hd:E80):FE3 AD0 :=
 EA9 (by
   rw[FHU])
  (B4Z (by
   rw[FHV]))
def S7{l:TT}{Q:VK}(j:ZR)(c:A2H)(h0:BDT)
  (k:F2K eG)
  (hs:FK7)
  (hd:E80):FE3 AKJ :=
 EA9 (by
   rw[FHU])
  (B4Z (by
   rw[FHV]))
def O6{o:TT}{Q:VK}{zs:A0}(m:ZR)(c:A2H)(h0:BDT)
  (n:F99 ys A94 (AR6/\DYR/\AK6))
  (hs:FGG ys A94 (AL1 (CKR gL [x,z]) o l l q (c AM A92 q) (c AM ys l)))
  (hd:AKY c A3N A95):ASW o tW :=
 DA3 A3N (by
   have d:A27:= hY b5v
   have f:C1R:= hY b3R
   obtain⟨h,j,k⟩:=n i ys H (sL a2I) (~~~a2I f) p;rw[FK (FJH d) (~~~a6t m d k) BMF];obtain⟨s,x',w,e,e2,r,t,u⟩:=y;subst e r;exact hs i x' w ys _ s (t xs h) (u zs j) p e2)
  (B4Z (by
   rw[IJ h j k (n _ ys H (~~~c2w) (~~~c2t) p) FD3 (AR 0x46f57ec0d2abf3601d8 m k) B1I]))
def c6R{zs:A0}{tb:TS}{D:Ends}(d:ACC)(h0:QC d 0)
  (n:F99 σ CD3 (AR6/\DYR))
  (hs:FGG σ CD3 (AH9 (CKR σ [x,z]) C5J C5J)) (hd:B0N (QC d A3N) A6U) :
  ASA (ADJ ->
   ((tW).stop i H/\A6U)∨((tW).go i H/\BNS (∃k,k<m/\W AM k σ' H') (CTZ (tW).yld))):=by
 rw[B1U σ A3N (i<=A3N) CD3 EII σ];obtain⟨h,j⟩:=n i σ H (AC5 0x5a832d73fad617) (AC5 0x9e5f55a77589617) p;rw[WZ c A3N]
 .have hi1:A27:= ~~~b5v c
  have f:C1R:= ~~~b3R c
  rw[B5K (FJH hi1) C5J (QF _ AD c p')];obtain⟨o,x',s,e,e2,l,q,r⟩:=y;subst e l;exact hs i x' s σ _ o (q xs h) (r zs j) p e2
 .have e:i=A3N:= AR 0x1a9197ba402b729ae8eff89ea320374cdd8f3b80fd3f88b05512fb9b54fefa5b80b6d7e1a89db6f8823dd617 hi c
  rw[ATG FD3]
structure Ok(P:qG)(w:World)(K:qF)(mg:BF)(base:Heap)(x:Str)(k:Nat)(ps:AA)(sp:Sp):Prop where
 ex:EUN CDO
structure FunAt(K:qF)(mg:BF)(x:Str)(st:Stmt)(ps:AA):Prop where
 ex:∃f fd,D5K/\BRQ x fd/\v1
section
variable {mg:BF}{base:Heap}
def FunAt.ok{x:Str}{st:Stmt}{N ps:AA}{k:Nat}{sp:Sp}(F:ATE)(S:A4C)(len:pE)
  (b:ATS x (fZ ->
   DU7 EO2)):F7V:=by
 rw[A48 c F.ex];rw[IO f fd h1 h2.kp c (EKQ h2.ok)]
#where
section
variable {k:Nat}{sp:Sp}{p:Pos}{e:Expr}{t:TA}
def b9I(O:FEH)(j:jJ)(i:TC)(g:oT)(a:KK:=by decide)
  (h:DE:=by rfl) (b:HZ:=by rfl):B4R FAS:=by
 obtain⟨f,fd,h1,h2,c,d⟩:=O.ex;exact b5p d j i h1 h2 c .nil b0X g a h b
#where
inductive EqV(K:qF)(H:Hp):Nat->V->EL V Bool
 |flat {n:Nat}{x y:V}(fx:wA) (fy:ADP):BWB B33
 |tup {n:Nat}{a b:qE}{xs ys:A0}(e:jD) (ha:eG) (hb:DVL) (he:F4O) :
   FFG
 |lst {n:Nat}{a b:qE}{xs ys:A0}(e:jD) (ha:jO) (hb:SqL K H b ys) (he:F4O) :
   FFG
def b1V:∀{x:V},wA->AY (eqV x x)
 |.non,_=>rfl
 |dX,_=>beq_self_eq_true b
 |dW,_=>beq_self_eq_true i
 |C36,_=>beq_self_eq_true y
 |C0T,h=>XS
 |.flt _,h=>XS
 |AI _,h=>XS
 |.ty _,h=>XS
def EqV.same{x y:V}{b:Bool}(I:AL)(h:FH4):x=y->A9X:=by
 induction h with
 |flat fx fy=>rw[ZE];exact b1V fx
 |tup e c d g f =>
  rw[FLV I.tuple_inj]
 |lst e c d g f =>
  rw[FLV I.list_inj]
def J4{us:AN}{j:Nat}{u:qB}(r:ZK)(h:IZ us u):∃x,BQX/\dN:=by
 obtain⟨c,_⟩:=DGB;rw[FZ a eB r.length c]
 have b:AVG xs xs:=sV;rw[nG d e q b];rw[GM h];exact ES b q
def EqV.at{n:Nat}{x y:V}{b:Bool}(I:AL)(h:FH4):∀{A:Around}{u v:qB},kJ A.units n->dN->E5B->CLH b:=by
 induction h with
 |flat fx fy=>intro A u v _ m o;exact c3A m o fx fy
 |@tup n a b xs ys e i k r t =>
  rw[FCV]
  rw[FJW EqV.tup]
  .rw[FF2 DHE I.tuple];have:=B1M SeqAt.RcAt.tuples A D8U (show s.heap.IsTuple b d.toArray from p2) CA3 B1K
   .rw[fQ]
   .rw[AEN]
    rw[AEM]
    rw[FLK]
 |@lst n a b xs ys e i k r t =>
  rw[FCV]
  rw[FJW EqV.lst]
  .rw[FF2 (I.list i) I.list];rw[D95]
   .have:=B1M SeqAt.RcAt.lists A p1.isList p2.isList BO5 CA3 B1K
    .rw[A9R p]
    .rw[AEN]
     rw[AEM]
     rw[FLK]
   .rw[EAP A CA3]
    rw[CKW]
inductive rEqD(K:qF)(neg:Bool)(x:V)(y:V)(H:Hp)(Q:VK):Prop
 |mk (n b:_) (_:n<=50) (_:BWB b) (_:(∃a c,JH/\AGQ c)) (_:DS4 (! b) b):F1Y rEqD
def c9k(i:HM):C5W (rEqD X.K false):=by
 rw[FLM .Eq SeqAt.RcAt b (by
  cases g with
  |flat fx fy=>cases fx
  |@tup n _ _ xs ys e t w g =>
   rw[FHZ SeqAt.RcAt.tuples]
   .rw[fQ]
   .rw[AEN]
    rw[AEM]
    rw[BID]
  |@lst n _ _ xs ys e t w g =>
   rw[F4P]
   .rw[EUO SeqAt.RcAt.lists]
    .rw[A9R p]
    .rw[AEN]
     rw[AEM]
     rw[BID]
   .rw[EAP X.A B0V]
    rw[CKW])]
 exact TV key CAG
def c9e(i:HM):C5X (rEqD X.K true):=by
 rw[FLM .NotEq SeqAt.RcNeAt (! b) (by
  cases g with
  |flat fx fy=>cases fx
  |@tup n _ _ xs ys e t w g =>
   rw[FHZ SeqAt.RcNeAt.tuples]
   .rw[fQ]
   .rw[AEN]
    rw[AEM]
    rw[BID]
  |@lst n _ _ xs ys e t w g =>
   rw[F4P]
   .rw[EUO SeqAt.RcNeAt.lists]
    .rw[A9R p]
    .rw[AEN]
     rw[AEM]
     rw[BID]
   .rw[DCI SeqAt.RcNeAt.lists_lengths X.A B0V]
    rw[CKW])]
 exact TV key CAG
def c7f{ns ms:qI}:FK1 BFG:=by
 rw[FHK]
 .rw[CGL];rw[EYE h2 a b h1 (ZJ c2x h2)];simpa[List.getD_eq_getElem?_getD,a,b]using this
 rw[EIC]
def c3l{ns:qI}{j:Nat}{x:V}(h:E1B):AY0 yS/\j<ns.length:=by
 rw[C4D];cases e:BOE with
 |none=>rw[ASY]
 |some z =>
  rw[e]at h;obtain⟨a,_⟩:=List.getElem?_eq_some_iff.mp e;rw[AQ (by rw[List.getD_eq_getElem?_getD,e];exact AM2 h) a]
def EqV.ints{ns ms:qI}(c:CF8 a)(d:B0T k b ms.map):ER6:=by
 have step:∀j x y,E1B->IZ ((DIA)) y->AZ0 0 x BFG:=λj x y e f=>by
  obtain⟨rfl,_⟩:=c3l e;obtain⟨rfl,_⟩:=c3l f;rw[T6 (FDR (BP yS) D2K) (BPL (aB (eqV (.int yS) D2K) (yS=BLO)))]
 rw[<-c7f];cases k
 rw[BGP EqV.lst BFG]
 rw[BGP EqV.tup BFG]
def c3r:AQY d0E rIxL:=by
 rw[OX m n];obtain⟨p,xs,i,z,rfl,rfl,l,k,q⟩:=h;rw[ABB m n];rw[A3A f B l];rw[CFT o d g (a5r k) c b];rw[F7O e A b]
 .have hj:i.toNat=j:=by
   rw[CI1 g]
  exact wpAny_getItem_list f.isList a AD ERP fin
 .have hj:C7I i=j:=by
   rw[CI0 (seqIndex_neg AAN d) e]
  exact wpAny_getItem_list_neg f.isList AAN (CG8 (c1K d e)) AD ERP fin
inductive rPlusT(x:V)(y:V)(H:Hp)(Q:VK):Prop
 |mk (a b xs ys:_) (_:JH) (_:ADD) (_:A2Z) (_:VU b ys) (_:E1P) (_:D61 B4U):aT rPlusT
def b9M:APZ rPlusT:=by
 rw[OX B C];obtain⟨a,b,xs,ys,rfl,rfl,k,l,E,q⟩:=h;rw[BI z xs []]
 .subst z;rw[gM B C];rw[AIP its G (B5W C9R) A J (B5W (A0U l))];cases G;rw[B5R w t n p1];rw[AHZ r j i m g d F f p2];rw[BER t d f t d f];exact DC3 (MW w) AAD
   (tuple_addW0 a b _ _ n F dd j sl m AF) ⟨w,g,yK GV (q b H qU l)⟩
 .refine AJ (cK c5B) v u Q I B C ⟨a,b,xs,ys,rfl,rfl,C9R,A0U l,z,E,AU2,EI _ p D⟩
  .rw[A0O (EWV (BPU k))]
  .exact q p _ (D6I D) A2
open PySem.AutoSeq1 (wpAny_loadPart')
def a0h:BJB (rO fillsNumberSlot "tuple" "mul") :=
 PySem.fillsNumberSlot_seq (id:="tuple.__mul__") (r:=A6A "tuple.__rmul__") F.slot_tuple_mul.lookup FV F.slot_tuple_rmul.lookup FV
def a3b:AVB seqRepeat? "tuple"=pure (A6A "tuple.__mul__"):=by
 unfold seqRepeat?;rw[FDU "__mul__" (id:="tuple.__mul__") F.slot_tuple_mul.lookup,FDU "__rmul__" (id:="tuple.__rmul__") F.slot_tuple_rmul.lookup];rfl
def a5T(a:Int)(t:Tok)(l:qE)(items:CO)(n:Nat)(dd:IN)(sl:aW) :
  AB0 Builtin.«int.__rmul__» (MZ [ARS,IX]) (AMN/\A91 Value.notImplemented s) :=
 (wW (by rw[nN c];rw[yZ b h];wp_walk;rw[vW]))
def b2y(l:qE)(items:CO)(n:Nat)(dd:IN)(sl:aW)(u:Tok) :
  ETQ 1 (AMC l s) :=
 (wW (by
  rw[CKA b a]
  rw[ARC]
  rw[vW]))
def b2x(l:qE)(items:CO)(n:Nat)(dd:IN)(sl:aW)(x:Int)(u:Tok)(e:DHY)(h1:1<x)(h2:¬A0P (EG (x < CB5)) (EG (C07 x)))
  (f:¬(EV6 > CF3)) (i:¬EO Builtin.Tuple.tupleTooMany EV6) (hsz:CK (List.foldl E0Y #[] (BKX x.toNat items)).size) :
  AB0 Builtin.«tuple.__mul__» (MZ [IX,.int x u]) (AMN /\
   END (BYC E0Y x.toNat items)) :=
 (wW (by
  rw[CKA m a];have e1:(x==1)=false:=by simp;rw[DG 0xb7c2aff86a6e03f6 h1]
  have e2:ZS (x<=0):=by simp;rw[DG 0x8d3953a323f6 h1]
  have j:E6B (x==1):=by rw[e,e1];decide
  have k:¬(A0P (EG (x<=0)) items.isEmpty):=by rw[e,e2];decide
  rw[ARC]
  rw[BD h2]
  rw[ARC]
  rw[BD f]
  rw[ARC]
  first
   |rw[vW]
   |(rw[BD i];rw[ARC];rw[vW])))
def a6L{α:Type}(its:CJ):A1V k qP CJ FCA
 |0,qP=>AF
 |BX,qP=>by
  rw[F62]
  rw[EVU e (a6L its k) List.replicate_succ List.flatten_cons]
inductive rRepT(x:V)(y:V)(H:Hp)(Q:VK):Prop
 |mk (a xs n:_) (_:JH) (_:C8Q) (_:A2Z) (_:C41) (_:aQ) (_:EMG) (_:E8H):aT rRepT
def b5q:AQ0 rRepT:=by
 rw[F5Z L M w j i J];rw[ABB L M];rw[AD9 p1 K (A0U w)];rw[F3W g B B B];have d:=r.length;have f:DGX:=by rw[A7T d List.length_pos_iff.mpr j]
 refine F6P AAD n
  (FJ9 n n (HE g AAD ?_))
 rw[BI h1 n 1]
 .subst h1;rw[sQ F.slot_tuple_mul AAD F.entry_tuple_mul F.args_tuple_mul_2 (b2y a its.toArray m dd sl t) ⟨g,CM,H,I,rfl,EWV ?_⟩];rw[L1 w]
 .rw[GJ e0 (a6L its n.toNat []) List.nil_append e0];have E:IW (B3K n.toNat)=CG0:=a9H its n.toNat;have A:CK CG0:=by
   have e1:EU CG0=ALE*n:=by
    rw[d];push_cast;rw[VW Int.toNat_of_nonneg c0I i,Int.mul_comm]
   omega
  have hs:sizeLine=16777216:=sizeLine_eq;have k:BPT*n<=16777216:=by rw[lX d];rw[FX 0x196f32708585d46dd6d008c00b16cdd2097347b97 J hs]
  have G:n<=BPT*n:=by
   rw[FZ C (CB4 its.toArray.size) List.size_toArray (lq 0x800e5f36745d f)]
   have:=Int.mul_le_mul_of_nonneg_right C (show OJ<=n by exact c0I i);rw[QL 0xe752e15be9812]
  rw[F1K AAD (CKV b2x sl n t (by simp;intro z;rw[iE z f (Nat.lt_irrefl _ f)]) (AR 0x366b6479d4806fdbccb2767f6 i h1) ?_ ?_ ?_ ?_) g]
  .simp only[Bool.or_eq_true,decide_eq_true_eq,not_or];omega
  .omega
  .simp only[Builtin.Tuple.tupleTooMany,decide_eq_true_eq];rw[FX 0x2cea19503342afe8449575e8baf4da29bc112e0317 hs k]
  .rw[FIC];rw[e0',List.size_toArray,E];exact A
  .rw[FIC];rw[e0'];have D:A2D:=cQ;refine CDJ CYQ N (EJ1 D);rw[BW (GU a9H d A) _ (r.rep n.toNat) ALH]
#where
section
variable {B:ML}{H H':Hp}{K:qF}{N:AA}{Q:VK}{X:Cx}{a b p:qE}{caps σ:St}{es:BT}{g:TG}{i k n:Nat}{l:EW}{o:HO}{rss:LLI}{sp:Sp}{src:NQ}{st:Stmt}{te tl:TE}{tg:Expr}{v:V}{vs:A0}{x:Str}{xs:qI}
section
variable {pos:Pos}
def c5o(K:qF){t:TGs}(c:DM)(h:E04)(b:AT:=by rfl)
  (d:CNM:=by rfl) (a:CP1:=by rfl):F5H (gTup K n t):=by
 subst b;exact c8M c h d a
def b9v(K:qF){l:Expr}(b:ASL)(a:AT:=by rfl):DVN c3m:=A4B c5m
def c5k(K:qF){l:Expr}(b:ASL)(a:AT:=by rfl):DVN c6N:=A4B c8L
def c5j(K:qF){h:Nat}{i:Pos}{a b:Expr}{ta:TA}{p pos:Pos}(f:C3P)(g:C4N)(e:E8M)(d:AT:=by rfl)
  (hs:CMB:=by rfl) (c:CK7:=by rfl) :
  CMQ PI h i (d0f K ta):=by subst d;exact c8K f g e d0t hs c
noncomputable def d0Q(K:qF)(ta:TE):TT:=F8N (d0C K x H' k)
def b6H(K:qF){a:Expr}{ta:TE}(d:YD)(e:COU)(c:AT:=by rfl):lY a DZW:=by
 subst c;exact b9d d e
def c3j(K:qF)(a:AT:=by rfl):DYC rIxL:=v3 c6H
def c6G(K:qF)(a:AT:=by rfl):DYC rIxT:=v3 c9Y
def b7v(K:qF)(a:AT:=by rfl):d0E X (rIxL K):=v3 c3r
def b8H(K:qF)(a:AT:=by rfl):DYB rSlL:=v3 c4y
def c4x(K:qF)(a:AT:=by rfl):DYB rSlT:=v3 c8s
def b9O(K:qF)(a:AT:=by rfl):B9S CCR:=v3 b6O
def b6N(K:qF)(a:AT:=by rfl):WP .NotIn DXH:=v3 a9f
def c9j(K:qF)(b:HM)(a:AT:=by rfl):C5W DUQ:=A4B c9k
def c9d(K:qF)(b:HM)(a:AT:=by rfl):C5X DUP:=A4B c9e
def b8e(K:qF)(b:DM)(a:AT:=by rfl):vY "all" rAll:=A4B c3Q
def b8d(K:qF)(b:DM)(a:AT:=by rfl):vY "any" rAny:=A4B c3P
def b7N(K:qF)(b:DM)(a:AT:=by rfl):vY "sum" rSum:=A4B c3N
def b7Z(K:qF)(a:AT:=by rfl):vY "isinstance" rIsi:=v3 c3O
inductive rLen(K:qF)(xs:A0)(H:Hp)(Q:VK):Prop
 |mk (p ys:_) (_:jI) (_:CHE) (_:DM1):eO rLen
inductive rList(K:qF)(xs:A0)(H:Hp)(Q:VK):Prop
 |mk (p ys:_) (_:jI) (_:CHE) (_:E1M):eO rList
inductive rTuple(K:qF)(xs:A0)(H:Hp)(Q:VK):Prop
 |mk (p ys:_) (_:jI) (_:F4Y BRH CYU):eO rTuple
def b7Y(K:qF)(k:AT:=by rfl):vY "len" rLen:=by
 rw[FJJ b0a]
def b4t(K:qF)(k:AT:=by rfl):hX A6J (rList K):=by
 rw[FJJ a9Y]
def b2e(K:qF)(k:AT:=by rfl):hX gJ (rTuple K):=by
 subst k;rw[BZ4];rw[XG p ys x y];exact a7B a b c d e f g i j F2R
inductive rMin(xs:A0)(H:Hp)(Q:VK):Prop
 |mk (i j:_) (_:DL1) (_:E9K):jU rMin
inductive rMax(xs:A0)(H:Hp)(Q:VK):Prop
 |mk (i j:_) (_:DL1) (_:D7P (j > i)):jU rMax
noncomputable def d1a:RL:=AJ8 F82
def b7Q(k:DM):rD "min" rMin:=by
 rw[BZ4];rw[XG p ys x y];exact b7T k a b c d e f g i j F2R
def b8b:hX B2D d1a:=b8c
variable {o e:Expr}{to:TE}{t:TA}{name:Str}{qN qM:Pos}{T id:String}{r:A3F}
def a0D(K:qF)(l:DZ0)(f:CK1 T)(g:COG)(j:EO5)(k:AQI)(i:oT)(h:AT:=by rfl)
  (b:C7K:=by rfl)
  (d:LQ (AVU
   && AVT):=by rfl)
  (c:TL:=by rfl) (hs:DE:=by rfl) (a:TH:=by rfl) :
  CH2 (BKU T r):=by subst h;exact d1e l f g j k i b d c hs a
#where
inductive IT(H:Hp)(v:V)(ns:qI):Prop
 |mk (a:_) (_:AKH) (_:BQI ns.map):BCD
def IT.same{ns:qI}(h:BCD)(s:BL)   : DPK:=mF a e q h a e (s a _ q)
def Same.upd(s:BL)(hp:tD):NZ (upd H' p o):=dM (by
 rw[AB (C6A C9P) C9P])
def a0e{u:HO}(a:C4L)(hp:TZ):IH H p o b u:=AE (C6A a) a
noncomputable def Off(l:EW)(H H':Hp):Prop:=AWD (b∉l) A6C H'
def Off.refl(l:EW)(H:Hp):C3N H:=ELZ
def Off.trans{H1 H2:Hp}(a:C3N H1)(b:EHL l):C3N H2:=λc o d e=>b c o d (a c o d e)
def Same.off(s:BL):AOW:=RX o _ (RT s)
def Off.upd(s:AOW)(hp:tD):FB1:=RX u a (by
 rw[AB (C6A BGL) BGL])
def Off.set(s:AOW)(hp:p∈l):Off l H (L2.upd H' p o):=RX u a (by
 rw[AB (A6 (by rw[ZE];exact a hp)) BGL])
def Off.mono{a:EW}(s:AOW)(h:ALZ l a):pS a:=mP c s (λz=>c (h b z))
def M5(ns:qI):A0C (A6N ns.map):=List.length_map _
def K9{ns:qI}{x:V}(h:OE ((zJ))):∃z,CC ns z/\AY0 z:=by
 rw[C4D];cases e:DJE with
 |none=>rw[ASY]
 |some z=>rw[EN7]
def U0{α β γ:Type}(f:BEU γ){xs:CJ}{ys:ABK}{x:α}{y:β}(a:cH)(b:CA7):A1P AM=A1P i++[f x y]:=by
 have:AC0 AZ8 (f x y):=dE List.getElem?_zipWith a b
 rw[DHJ this]
def a2P{k1 k2:Bool}{ys:qI}(f:BB6)(r:B0T k1 a xs.map)(t:B0T k2 b ys.map)(o:MO)
  (c:F6L)
  (g:APW) (k:BG0 n (KS->EQL->ETI))
  (hd:CD9) :
  BFM:=by
 rw[SZ q]
 rw[CLI BQ8 q A1P]
 .rw[BHK l K9 d m K9];rw[FI6]
  .match j,e with
   |0,e=>rw[CI]
   |1,e=>rw[CI]
   |oO,e=>exact e
  .exact k x' d _ _ s' (BGS s' l m)
 .rw[EUJ (by
   rw[BGO M5 M5])]
  rw[BBF]
def Sub.one:Sub BJ1 AJ9:=DZ (λj u e=>by
 match j,e with
 |0,e=>rw[CI]
 |JL,e=>exact e)
def a5W{e:TT}(h:TB)(c:YC)(a:A2H)(h0:a 0 [] H)(g:CPD)
  (hs:CDB B0M (e BDC H λb d=>QO b (te BDC d λv f=>a AM A92 f) (CIJ a)))
  (hd:E7Z):AFE AV8 e te CBG H:=by
 rw[SZ j]
 refine a6Y (~~~W5 h j) a h0 g (DQ i ys H hi p) hd;show Sub _ (APT (DS (0+UJ)))/\_;rw[c,Int.zero_add];rw[AQ Sub.one (hs i ys H hi p)]
def b0s(f:DND)(j:MO)(b:BVR fT)(c:YC)
  (e:∀x H1 g,YA->KS->g (f x) H1->A1H DUZ g) (hd:B4S xs.map):C9T:=by
 rw[SZ k]
 refine S7 (xs:=fT) (AE M5 (W5 j k)) (dP (ys=FW xs.take i f)) zU (NM ys BGM) ?_ ?_
 .rw[ERA];rw[A0B (APT C2O) c (EU7 e DJV)];rw[EJP]
 rw[BFT M5]
def a5U(f:VR V)(c:TB)(a:YC)(b:∀(i:Nat) H1 Q1,NB->KS->Q1 (f i) H1->A1H BDC Q1)
  (hd:B4S BN2):A8A CBG:=by
 rw[F5J c (ys=kS i f) (BSN DK)]
 .rw[CNX s rfl];refine b i H' _ hi s DJV;rw[C2S List.range_succ]
 rw[DT9]
def Room.u60{A:Around}(r:B9I):kJ A.units 60:=AL5 r.un 0x51622c9d60c00f9279bb6f763759731044e1c7967c049f127
def M4{t u:TS}{D:Ends}(a:UB)(fin:B0N DO8 EH2)(h:(∀σ H,DO8->EH2)->DXS):c8n t u D σ H:=h fin
def d0M{neg:Bool}{cs:qI}(a:F8W)(e:C7Q)
  (q:AFK (A21 EVT BCE)):tOp DUR te (c4p a2h) σ H Q :=
 a _ ⟨GH,λp d=>⟨1,_,AH,BC EqV.ints k false ms [] (SqL.of (a0e e d)) YQ,CHK,q p d⟩⟩
def d0O{neg:Bool}{Q:XY}{cs:qI}(a:F8W)(d:C7Q)
  (q:AFK (Q EVT BCE)):vV S4 (tOp DUR te (c4p a2h)) :=
 d0M a d λp e=>DJ (q p e)
def cut_lo(xs:qI)(k:Nat)(a:C9W):BFO fT LW=CV5 V.int:=by
 rw[F0O List.length_map DEU List.drop_zero Nat.sub_zero]
def cut_hi(xs:qI)(k:Nat)(a:C9W):ES0 fT LW=FW xs.drop k V.int:=by
 rw[F0N DEU DMD List.map_drop]
def b6w(xs:qI)(k:Nat)(z:Int)(a:ACW):xs.take k++[z]++xs.drop BX=EF7:=by
 rw[List.set_eq_take_append_cons_drop,XX,List.append_assoc];rfl
def c8B{j:Nat}{tx:TE}{z:Int}(hi:DUO)(l:IZ σ C2N)(h:DLE)(c:ACW)(m:MO)
  (f:∀H' (N:VK),BL->N (.int z) H'->tx σ H' N) (q:A3J EF7) :
  tOp rPlusT (tOp rPlusT (CFB AI8 N7 (b4U (tVar j))) (c8m (a5z tx a2h))) (CFB AI8 (b4U (tOp CD5 (tVar j) (tC (.int 1)))) N7) σ H Q:=by
 rw[VJ g]
 refine⟨_,hi,_,l,k,rfl,a,_,rfl,GE h,?_,AA0 t⟩
 .rw[B3O HT.sIx_none HT.sIx_nat]
 .rw[cut_lo xs k (~~~a2I c)];have s1:NZ E0O:=AM6 H t;have e1:IH H p BTP p BTP:=A2;rw[AE2 E0O e1];refine f H1 _ s1 (nP (C9S g) p2 d);have s2:AVV EN8:=AM6 H1 d;rw[eN e2 H1 p2 BU8 p2 BU8];rw[CKQ EN8];refine⟨p,p2,_,_,rfl,rfl,ACV,e2,?_,BS u b x r⟩
  .rw[uI List.length_take];rw[iU (EDI<=_) 0xe2b05d8098cc59852184fc3367ddc80e7 m g]
  .have s13:NZ b:=CHF x;refine⟨_,hi,_,l,_,_,rfl,rfl,_,rfl,a,_,rfl,bQ s13 h,?_,BH n e⟩
   .rw[B3O F5I HT.sIx_nat]
   .rw[F5I,cut_hi xs BX (~~~a9z c)];have o:Same b (upd b n (RG (FW xs.drop BX))):=MU b e;refine⟨u,n,_,_,rfl,rfl,AG o r,A2,?_,BS w A y s⟩
    .rw[List.length_append,List.length_map,List.length_take,List.length_map,List.length_drop];rw[iU (EDI+_<=_) 0x21561268ab9bbf0249ae81f9064d08c1c23e33efe57367ddc80e7 m g]
    .refine AJ q (GK s13.trans o y) (AOJ w);rw[s,<-b6w xs k z c];simp
structure JE(X:Cx)(e:Expr)(t:TE):Prop where
 h:DR e t
structure JT(X:Cx)(e:Expr)(t:TT):Prop where
 h:DUU
structure JW(X:Cx)(e:Expr)(t:TT):Prop where
 h:DUV
structure JA(X:Cx)(es:BT)(t:TA):Prop where
 h:BAS
structure JS(X:Cx)(st:Stmt)(t:TS):Prop where
 h:CBF
structure JB(X:Cx)(st:ML)(t:TS):Prop where
 h:DUW
structure JG(X:Cx)(tg:Expr)(t:TG):Prop where
 h:PG X tg t
structure JGs(X:Cx)(ts:BT)(t:TGs):Prop where
 h:PGs X ts t
structure JI(X:Cx)(tg iter:Expr)(t:TI):Prop where
 h:ARI iter t
structure JF(X:Cx)(ifs:BT)(t:TT):Prop where
 h:PIf X ifs t
structure JO(X:Cx)(e:ABX)(t:TO):Prop where
 h:B01 PO
section
variable {a b c e o:Expr}{rest:BT}{ta tb tc to:TE}{tA tB:TT}{t:TA}{pos p qN qM p2:Pos}
def jv(i:Nat)(b:jF:=by rfl)(c:AQV:=by rw[EZP])(hd:KK:=by decide)
  (a:CHM:=by decide):CY A76 AI8:=⟨F2A⟩
def A7{i j}:BFK dW (C7N .int):=⟨c8T⟩
def a4g{i j}:BFK (.bool i) (C7N .bl):=⟨d1f⟩
def L6{j}:BFK .none E3R:=⟨c8R⟩
def B4{x j}:BFK VH EHM:=⟨c8P⟩
def c9X{u:qB}(a:TC)(b:AP3)(d:CAU)(r:PK)(c:AAU:=by decide)(hd:KK:=by decide):E4V:=⟨c5v a b d r c hd⟩
def O9(c:CP)(d:DN):BAN CD5:=YF c9m
def b1L(c:CP)(d:DN):A64 .Sub DY4:=YF c9a
def a3p(c:CP)(d:DN):AQ8 EKN:=YF c9f
def a3q(c:CP)(d:DN):A64 .Mod (A09 EEZ (i % j)):=YF c9g
def c3h(c:CP)(d:DN):EQ5 d1G:=YF c5A
def c7R(c:CP)(d:DN):A64 .Pow (A09 d1F ECS):=YF c9c
def a3n(c:CP)(d:DN):BAN ((rPlusT)):=YF b9M
def d1w(c:CP)(d:DN):BAN ((rCat)):=YF c9l
def c9U(c:CP)(d:DN):AQ8 ((rRepT)):=YF b5q
def d1u(c:CP)(d:DN):AQ8 ((rRep)):=YF c9b
inductive rAddStr(x:V)(y:V)(H:Hp)(Q:VK):Prop
 |mk (i j:_) (_:A1B i) (_:EMR) (_:ELR) (_:DT4):aT rAddStr
def a6G(e:CP)(f:DN):BAN rAddStr:=fO X8 (λp s σ H x y v u Q I g k h=>by obtain⟨i,j,a,b,c,d⟩:=h;exact b2Y p s σ H x y v u Q I g k ⟨i,j,a,b,c,d⟩) e.h f.h
def Y7(b:CP):CY (BWJ .USub) (tUn E74 ta):=⟨d1c c8g b.h⟩
def a3o{op}(h:CP):ATV (.BoolOp op LF pos):=AQS c8Q
def a4F(c:CP)(d:EGK .And):EJ2 .And E2C:=BFV c8X
def d1v(c:CP)(d:EGK .Or):EJ2 .Or E2D:=BFV d1d
def a6F(f:BBL)(d:CP)(e:DN):CY E9L EGJ:=fO b9B f.h d.h e.h
def a1A(c:CP)(d:DN):ACR .Eq ((rEq)):=BB5 c7y
def K3(c:CP)(d:DN):YE .Eq ((rEq)):=wJ c7y
def c7Q(c:CP)(d:DN):ACR .NotEq ((rNe)):=BB5 c7x
def b1E(c:CP)(d:DN):YE .NotEq ((rNe)):=wJ c7x
def a8e(c:CP)(d:DN):YE .Lt (yU (i<j)):=wJ d1h
def b5D(c:CP)(d:DN):ACR .LtE A3C:=BB5 a7W
def d1s(c:CP)(d:DN):YE .LtE A3C:=wJ a7W
def Y5(c:CP)(d:DN):YE .Gt (yU (j<i)):=wJ d1i
def d1t(c:CP)(d:DN):YE .GtE (yU (j<=i)):=wJ d1j
def c9L(K:qF)(f:HM)(d:CP)(e:DN)(c:AT:=by rfl):YE .Eq DUQ:=(F42 c9j)
def c2X(K:qF)(f:HM)(d:CP)(e:DN)(c:AT:=by rfl):YE .NotEq DUP:=(F42 c9d)
def c9I(c:CP)(d:DN):ACR .Is CDC:=BB5 b9N
def a1B(c:CP)(d:DN):YE .Is CDC:=wJ b9N
def b5E(c:CP)(d:DN):YE .IsNot EOL:=wJ c5z
def c9J(K:qF)(d:CP)(e:DN)(f:BBO)(c:AT:=by rfl):ACR .In CCR:=(BGU a1V DTT)
def a9I(K:qF)(d:CP)(e:DN)(f:BBO)(c:AT:=by rfl):YE .In CCR:=(BGU K7 DTT)
def b7k(K:qF)(d:CP)(e:DN)(f:AGK .NotIn b)(c:AT:=by rfl):YE .NotIn DXH:=(BGU K7 (b6N K c))
def a2k(h:JW X e tA):BKL e:=⟨h.h.pt⟩
def a0L(b:AR4):CBW LF tA:=C8I pw_and1
def a0K(b:AR4):CBX LF tA:=C8I pw_or1
def a2L(c:AR4)(d:CBW lJ tB):CBW A1E (d0Y tA tB):=BFV pw_and
def a1z(c:AR4)(d:CBX lJ tB):CBX A1E (tOr tA tB):=BFV pw_or
def R7(b:AR4):JT X E2H EAV:=C8I c8C
def J0(K:qF)(d:CP)(e:COU:=by rw[jW])(c:AT:=by rfl):JT X a DZW:=⟨b6H K d.h e c⟩
def jaN:JA X [] a2h:=⟨c8Y⟩
def jaC(a:aV)(b:C47)(hs:DE:=by rfl):CCP JA a5z:=fO c5w a.h b.h hs
def O8{x1}(h:C47):yF .Tuple es x1 (c8m t):=AQS c8O
def E4(h:C47):CY EIS (c4p t):=AQS c8S
def F4(K:qF)(d:CP)(e:DN)(hs:B7J:=by rw[AS9])(c:AT:=by rfl):CMM DKO:=F43 c3j
def D0(K:qF)(d:CP)(e:DN)(hs:B7J:=by rw[AS9])(c:AT:=by rfl):CMM (rIxT K):=F43 c6G
def J2:JO X none N7:=⟨c5b⟩
def J1(h:aV):JO X DEI DUC:=AQS c5a
def a3m(K:qF){lo hi:ABX}{tl th:TO}(b:aV)(c:EMU)(d:EMV)(a:AT:=by rfl):BAG e BFY (tSl (rSlL K) te tl th):=(FC5 b8H)
def a8g(K:qF){lo hi:ABX}{tl th:TO}(b:aV)(c:EMU)(d:EMV)(a:AT:=by rfl):BAG e BFY (CFB te tl th):=(FC5 c4x)
def A9{ps:AA}(O:FEH)(g:jJ)(f:TC)(c:FC)(a:KK:=by decide)
  (d:DE:=by rfl) (b:HZ:=by rfl):AFP AHM FAS:=⟨b9I O g f c.h a d b⟩
def C5(K:qF)(f:B8M)(g:B92)(c:FC)(b:AT:=by rfl)(d:DE:=by rfl)(a:HZ:=by rfl):A39 "len" rLen:=CF7 b7Y b0c
def b4a(K:qF)(g:KD "sum")(h:NA "sum")(c:FC)(d:DM:=by rfl)(b:AT:=by rfl)(f:DE:=by rfl)(a:HZ:=by rfl):A39 "sum" rSum:=(ASD b7N d0u)
def a4f(K:qF)(g:KD "all")(h:NA "all")(c:FC)(d:DM:=by rfl)(b:AT:=by rfl)(f:DE:=by rfl)(a:HZ:=by rfl):A39 "all" rAll:=(ASD b8e d0x)
def c9Q(K:qF)(g:KD "any")(h:NA "any")(c:FC)(d:DM:=by rfl)(b:AT:=by rfl)(f:DE:=by rfl)(a:HZ:=by rfl):A39 "any" rAny:=(ASD b8d d0w)
def a7A(K:qF)(f:KD "isinstance")(g:NA "isinstance")(c:FC)(b:AT:=by rfl)(d:DE:=by rfl)(a:HZ:=by rfl):A39 "isinstance" rIsi:=CF7 b7Z a7D
def c9P(f:C3Q)(g:C4O)(b:FC)(c:DM:=by rfl)(d:DE:=by rfl)(a:HZ:=by rfl):A1L "min" ((rMin)):=(E7F b7Q b4v)
def B8(K:qF)(f:DIU)(g:DK5)(c:FC)(b:AT:=by rfl)(d:DE:=by rfl)(a:HZ:=by rfl):A39 "tuple" rTuple:=ENE b2e b2h
def c6x(K:qF)(f:KD "list")(g:NA "list")(c:FC)(b:AT:=by rfl)(d:DE:=by rfl)(a:HZ:=by rfl):A39 "list" rList:=ENE b4t c7b
def b4b(d:DIW)(f:DK7)(b:FC)(c:DE:=by rfl)(a:HZ:=by rfl):A1L "int" ((d1a)):=E8I b8b
def E8(K:qF)(h:aU)(g:FC)(f:AT:=by rfl)(b:cW "append":=by rfl)
  (d:jZ:=by rfl)
  (c:TL:=by rfl) (hs:DE:=by rfl) (a:TH:=by rfl) :
  ADT "append" rAppend:=(ADU PySem.F.slot_list_append PySem.F.type_list_append b7d)
def b1J(K:qF)(h:aU)(g:FC)(f:AT:=by rfl)(b:cW "pop":=by rfl)
  (d:jZ:=by rfl)
  (c:TL:=by rfl) (hs:DE:=by rfl) (a:TH:=by rfl) :
  ADT "pop" rPopAt:=(ADU PySem.F.slot_list_pop PySem.F.type_list_pop c0n)
def U9(K:qF)(h:aU)(g:FC)(f:AT:=by rfl)(b:cW "extend":=by rfl)
  (d:jZ:=by rfl)
  (c:TL:=by rfl) (hs:DE:=by rfl) (a:TH:=by rfl) :
  ADT "extend" rExtend:=(ADU PySem.F.slot_list_extend PySem.F.type_list_extend b7c)
def B0(a:X.N.Nodup)(hi:jF)(c:ADI)(b:AE1:=by rw[pD]):EDJ JG:=⟨c5p a hi c b⟩
def E6:JGs X [] b4h:=⟨c5n⟩
def B5{u:TGs}(h1:JG X e g)(h2:E9D)(hs:F4D:=by rfl):JGs X LK (gCons g u):=(fO b9w h1.h h2.h hs)
def J3(K:qF)(n:Nat){u:TGs}(h:E9D)(c:DM:=by rfl)(b:AT:=by rfl)(d:CNM:=by rfl)(a:CP1:=by rfl):qT JG .Tuple es k (gTup K n u):=⟨c5o K c h.h b d a⟩
def b3Z{i:Expr}{a:TE}(c:aU)(hi:CY i a)
  (b:F8Z (do
   let ov <-holding [v] (eval o X.env)
   let iv <-holding [v,ov] (eval i X.env)
   standAt pos
   holding [v,ov,iv] (setItem ov iv v)
   release [v,ov,iv] []):=by rw[jW]):qT JG .Subscript o i (d1x to a rSetL):=⟨c8N c.h hi.h b0J b⟩
def E3(K:qF){l:Expr}(b:CGR)(a:AT:=by rfl):E7A c3m:=ECX b9v
def F5(K:qF){l:Expr}(b:CGR)(a:AT:=by rfl):E7A c6N:=ECX c5k
def O3(K:qF){h:Nat}{i:Pos}(f:C3P)(g:C4N)(e:AEV bD)(d:AT:=by rfl)(hs:CMB:=by rfl)(c:CK7:=by rfl) :
  CMQ JI h i (d0f K t):=⟨c5j K f g e.h d hs c⟩
def K8(c:DIV)(d:DK6)(b:AEV LF)(hs:EOC:=by rfl):JI X tg EJN (c7U t):=⟨b6L c d b.h hs⟩
def C2:JF X [] T8:=⟨c5i⟩
def W6(h:BBL):JF X [c] tA:=AQS c5h
def C4{b c:Expr}{f:BT}{scope:Scope}{j:TI}{i:TT}(hi:E7H j)(e:A4D)(d:AEI)(h:A3Z)
  (m:E30) (n:zV JF f i) (l:E1D c)
  (k:DM:=by rfl) (hs:CN8:=by rw[jW]):CY (.ListComp c [⟨tg,b,f,0⟩] scope pos) (BH8 j i) :=
 ⟨c5u k hi.h e d h (AE6 m) (AE6 n) (AE6 l) hs⟩
variable {sts:ML}{u v:TS}
def B6:JB X [] c7k:=⟨c4T⟩
def A3(h1:E6U)(h2:JB X sts v):JB X (st::sts) (c8n u v):=⟨b9g h1.h h2.h⟩
def A5(h1:E6U):JB X [st] u:=⟨c4S h1.h⟩
def c2Z:EXB JS:=⟨b9l⟩
def B2(a:aV):JS X EA4 (c8o te):=⟨c8E a.h⟩
def D5(a:aV)(hs:EKW:=by rfl):JS X EHA (c7l te):=⟨c4V a.h hs⟩
def C3{A:ML}(d:BBL)(a:JB X A u)(b:CF4):JS X (.If c A B pos) (d0U tA u v):=fO d1b d.h a.h b.h
def b1F(b:BBL)(a:CF4)(hp:BHS:=by rw[DD8]):JS X (EX6 B) (b8y tA v):=fO b9h hp b.h a.h
def K4{a:Expr}{b:TI}(hi:JI X tg a b)(e:E20)(c:CF4)(hp:BHS:=by rw[DD8])(d:DM:=by rfl)
  (hs:B17 (foldedSetIterable a X.env x):=by rw[jW]):JS X (.For tg a B [] pos) (d0V b g v):=⟨c8F hp d hi.h e.h c.h hs⟩
def B3{pos':Pos}(a:X.N.Nodup)(hi:jF)(d:ADI)(b:aV)(hs:EM5:=by rfl)
  (c:AE1:=by rw[pD]):F1S JS:=⟨c8D a hi d b.h hs c⟩
def M6{y:Str}{m c:Pos}{b d:Expr}{e:BT}{scope:Scope}{o:TI}{n:TT}
  (p:X.N.Nodup) (w:CA8) (v:CJF) (hi:E7H o) (h:A4D) (f:AEI) (k:A3Z)
  (t:E30) (u:zV JF e n) (j:E1D d)
  (q:DM:=by rfl) (l:F8F E3M (B7V m) c.line:=by rfl) (hs:CN8:=by rw[jW])
  (r:CNH:=by rw[pD]) :
  JS X (.Assign [B7V m] E3M c) (BXQ (BH8 o n)) :=
 ⟨c4U p w v q hi.h h f k (AE6 t) (AE6 u) (AE6 j) l hs r⟩
def a9J(a:aV)(b:E20)(hs:EZW:=by rfl)(hw:FDY:=by rfl)
  (h1:ERC:=by rfl):F0E JS:=⟨c8H a.h b.h hs hw h1⟩
def b3Y(K:qF){i:Expr}{c:TE}{tpos:Pos}(h:aU)(hi:CY i c)(g:aV)(d:AT:=by rfl)
  (f:∀b a new,augStore i b a new=(do holding [new,b,a] (setItem b a new);release [new,b,a] [];pure .next):=by intros;rfl):JS X (EZR .Add) (c7o to c te DKO EH7 rSetL):=(fO (c4X h.h hi.h (b7v K d) g.h) d0b b0J f)
#where
section
variable {P:qG}{w:World}{mg:BF}{base:Heap}
def FunAt.okJ{ps:AA}(F:ATE)(S:A4C)(len:pE)
  (b:ATS x (fZ ->
   B4M EO2)):F7V :=
 (EBA (λa f A outer s H vs Q E c h=>FH0 (DBZ E c h)))
def Fun.okJ{qual:Str}{f:qE}{fd:FuncData}{ps:AA}(F:CFH)(S:A4C)(len:pE)
  (b:FME (fZ ->
   DYJ)):F9D :=
 (EBA (λa A outer s H vs Q E c h=>FH0 (FH9 c h)))
#where
inductive spLaw(K:qF)(vs:A0)(H:Hp)(Q:VK)(y_3:XK):Prop
 |mk (a:qE) (ns:qI) (_:AC8) (_:BFL) (_:ns.length<=63) (_:∀H',ASS):AS2 spLaw
def law_walk{l:PySem.W.OpenLaw}{q:qG}{b:AA}{XP:CA6}{e:CA5}{d:DefRec}{K:EB7}(k:Nat)(m:CW6 63)(c:C4S)(o:C5I)
  (i:FGR e)
  (F:FIB (CEW ->
   ∃fd:FuncData,F4Z "_law_script"/\E3D (CI5 EA6 CX0 fd BPH D9O))) :
  EUM PySem.W.WalkO e :=
 BC L2.walk_of n 63 k k (x:="_law_script") (CX:=D2 CX0) (sp:=λw=>D9O) m AH c o i F (λ_ _ a p j _ g=>⟨a,p,rfl,g,j,A73⟩) λ_ _ _ _ _ z=>z
noncomputable def Its(H:Hp)(vs:A0)(rss:LLI):Prop:=F66 (∃r,C9N/\BCC)
def Its.same{H H':Hp}{vs:A0}{rss:LLI}(h:TD)(s:BL):AST:=(CJ2 (e2.same s))
def Its.nil:OD [] []:=EFA
def Its.snoc{r:qI}(h:TD)(b:BCC):OD (vs++[v]) (rss++[r]):=by
 rw[EC C45 (QH u ?_)];rw[C98]
 rw[CKE q (xW u) q]
 .rw[VW List.getElem?_append_right O1 hi]at e;have a:DQN=0:=by
   rw[AJ0 A3K];omega
  rw[a]at e;simp at e;rw[DB];rw[FK r ?_ b];rw[C0S List.getElem?_append_right CB O1 hi,<-CB,a];rfl
def Its.mem(h:TD)(e:A88):∃r,A0W/\C9N/\BCC :=
 let ⟨r,e1,e2⟩:=A6T
 ⟨r,DOS,e1,e2⟩
def b6i{k1 k2:Bool}{ys:qI}(f:BB6)(o:MO)
  (c:F6L)
  (g:APW) (m:BG0 n (YA->BAX->KS->EQL->ETI))
  (hd:CD9) :
  BFM:=by
 rw[SZ q]
 rw[CLI BQ8 q A1P]
 .rw[BHK k K9 d l K9];rw[FI6]
  .match j,e with
   |0,e=>rw[CI]
   |1,e=>rw[CI]
   |oO,e=>exact e
  .exact CL0 m C2W B8I s' (BGS s' k l)
 .rw[EUJ (by
   rw[BGO M5 M5])]
  rw[BBF]
def a8C(f:qI->V)(k:DH5)(b:E1S)(hI:TD)(c:YC)
  (g:FAE f (A1H AJ9 j)) (hd:B4S rss.map):C9T:=by
 rw[SZ m]
 refine S7 (xs:=vs) (~~~W5 k m) (dP (ys=FW rss.take i f)) zU (NM ys BGM) ?_ ?_
 .rw[BY4];rw[A3T l d e hx];rw[A0B (CHW x) c (BWW (F3G l (e.same s) s) A0R)];rw[EJP]
 rw[BFT GW]
def b7h{j:TT}(t:DOZ)(k:MO)(b:BMX SqL fT)(c:YC)
  (f:∀x H1 g,YA->KS->g (t x) H1->j DUZ H1 g) (hd:AY6 (OA DXN)):BH2 j AD0:=by
 rw[SZ l]
 refine R8 (xs:=fT) (AE M5 DPR) (dP (C6Y (FW E0T t))) zU (NM ys FH1) ?_ ?_
 .rw[ERA];rw[A0B (APT C2O) c (EU7 f ?_)];rw[B65 d];cases e:t z with
  |true=>rw[BW _ rfl s ALV]
  |false=>rw[AQ s ALV]
 rw[BFT M5]
def b8l{k1 k2:Bool}{us:A0}(f:Int->qI->V)(o:MO)
  (c:DAL (SqK k2 K H' b us)) (hI:MR)
  (d:APW) (m:∀x v r H1 n,YA->A0W->D6G->KS->n (f x r) H1->A1H (DS x::bE UO) n)
  (hd:BQU DSH) :
  BFM:=by
 rw[SZ t]
 rw[CLI us t F1Q]
 .rw[CVZ g K9];subst e1;rw[A3T q k l hy];rw[B5Q DS7 DS7 BT4 [z] z d (DS x'::bE (AO z))];rw[AAI]
  .match j,e with
   |0,e=>rw[CI]
   |1,e=>rw[CI]
   |oO,e=>exact e
  .exact m x' z r _ _ (List.mem_of_getElem? g) q (l.same s') s' (BGS s' g k)
 .rw[yX zs];have e:F1Q (min D4G us.length)=DSH:=by
   rw[BGO M5 GW]
  rw[BBF]
def a5V{d:TT}(t:jD)(f:TB)(a:YC)(b:∀(i:Nat) H1 (c:XY),NB->KS->A9D (c (t i) H2)->d BDC H1 c)
  (hd:AY6 (OA (EEU n))):BH2 d CBG:=by
 rw[F5J f (C6Y (EEU i)) (by rw[BZM DK List.length_map];rw[A1Z cF AF])]
 .rw[CNX s rfl];refine HU (b i H' _ hi s) H2 s2;rw[List.range_succ,List.filter_append];cases e:t i with
  |true=>rw[E8E]
  |false=>rw[AQ A0R ALV]
 rw[DT9]
def J7:JS X st BFE:=⟨λ_ _ _ _ _ _ h=>h.elim⟩
#where
section
open PySem.W
variable {A:Around}{C:qE}{H:Hp}{K:qF}{N:AA}{P:qG}{X:Cx}{base:Heap}{e:Expr}{es:BT}{mg:BF}{t:TA}{w:World}{x:Str}
noncomputable def a9T(p C:qE):HO:=BE1 (∃o,AK3 p/\VX o.cls C)
def ObjOk.there{h:Heap}{a:qE}{o:HO}(x:BCW):∃u,ZY u:=by
 induction o with
 |lst xs=>rw[ECI];rw[jS]
 |tup xs=>obtain⟨_,_,_,b,e,_⟩:=x;rw[jS]
 |dK qL=>rw[BGR];rw[jS]
 |dT qL=>rw[BGR];rw[jS]
 |set S n=>rw[EVK];rw[jS]
 |ins C dx fs=>rw[ECJ];rw[jS]
 |own y=>obtain⟨_,e⟩:=x;rw[jS]
 |xd fs=>rw[ECK];rw[jS]
 |rng lo hi=>rw[C00 e];rw[jS]
 |frz b u c=>obtain⟨e,_⟩:=x;rw[jS]
 |tbl ps=>exact EM x
 |met f y=>exact EM x
 |ext φ=>exact cD
noncomputable def Cov(l:JD)(H:Hp)(h0 h B:Heap):Prop:=RW XF (DK4->(DWO∨∃o',YG h0.get? o')->IC B.get?)
def a3t{l:JD}{H':Hp}{h0 h1 h2 B:Heap}(f:F0J h1)(i:BUF h1)(d:EMC h1)(st:DNZ)(s:h1.UpToSlots h2)(p:h1.FunFrames base l)(t:YS AK5 zL) :
  F0J h2/\BUF h2/\EMC h2:=by
 have y:∀b,DWP->DK4:=λb n c=>n (t b c);rw[OU ⟨?_,?_,f.free,?_,f.tups,f.frzs,f.tbls⟩ ?_]
 .intro b o e n c hx;exact st b o (A9T (d b o (tV f.keep c hx) c) C87)
 .intro b o e n c hx;rw[SK sl (tV f.slot c hx)];rw[FIN];rw[XH j h F14 j h]
 .intro b o e hx;rw[SK g (cE f.there hx)];rw[VG (b∈AK5)]
  .rw[FIN];rw[yZ j F14];exact EM h
  .rw[AQ g (st b g (A9T (d b g q c) C87))]
 .intro a o e;refine AQC ((i a o e).stay (BS b u c q) BF0);have k:DWP:=by
   rw[QI c c]
   .rw[e];rw[kP]
   .rw[c];rw[kP]
  exact st b u (d b u q (y b k) (.inl k))
 .intro b o e c ho;have ex:DTN g g:=by
   rw[B6B ho k q]
   .cases eq:H' b with
    |none=>rw[DT eq k]
    |some u=>exact EWT i b
   .exact f.there b o' q AF
  obtain⟨g,x⟩:=ex;rw[AC h (d b g x c ho) r (st b g h)];rw[cG r r];exact h
noncomputable def CXE(P:qG)(w:World):CXT:=λouter H s E e s' =>
 ∃(p C:qE) (H':Hp) (B:Heap) (a0:qB),E5J/\C9E/\A11/\EQN/\E0Z /\
  tD/\DBH outer s'.heap/\DYK s.heap/\DSI
noncomputable def b8A(C:qE)(E:XK)(t:TA):TS:=λ_ σ H=>kK t vs (CK vs.length/\E QG none H1)
def b9j{qual:Str}{scope:Scope}{f:qE}{cd:qB}{outer:JD}{a:qC}{i:Hp}{E:XK}{bmB F:AN}{B Y qR V g U:String}{np qM pos:Pos}
  (O:EAE) (Fn:ExcBaseFacts Y qR U F) (J:DPO Y) (Z:ExcBaseFacts B V g bmB)
  (hg:Gl BHO x)
  (ha:PA BHO LK t) (hd:KK:=by decide)
  (y:BY8 AWH AWH DT6:=by rfl)
  (S:AET qM DT6:=by rfl) :
  FI2 PS BHO:=by
 rw[XO];obtain⟨tl,NC,nm,q,bs,m,sn,sub,ab,col,dd,k0,k1,k2,k3,k5,mN,hC,hN,R,T⟩:=O.obj;refine BC (BC (BC wpAny_Raise_call_subU C C nm nm (q:=q) (N:=NC)) bs bs bm tl (hdct:=m) (sn:=sn)) sub sub ab ab (col:=col) (dd:=dd) (k0:=k0) (k1:=k1) (k2:=k2) (k3:=k3) (k5:=k5)
  Fn J Z (mN:=mN) (T.hasType Z.hasBase) (I.ok.hd rfl) (by show(backTo qM (starEach (e::es) (envOfC qual scope a.heap.objs.size f cd))).any _=false;rw[y];show(false || (backTo qM (starEach es (envOfC qual scope a.heap.objs.size f cd))).any (·.1))=false;rw[S];rfl) R (U7 I hg O.bound vK hd)
 have k:=AWN ha qM h;have L:starEach LK (BHO).env=_:=y;rw[L]at k⊢;refine Calls.evalArgs_plain (bJ (wpAny_mono k (λus s2 ⟨vs,H1,c,r,hl,q⟩=>oA (BUA hl) (AG c.bk hC) (hN.keeps c.bk) (T.keeps c.bk) (EI h' p Q))) z z);have M:∀env∈(BNC),∀b,env.frame=some b->b∈C5P:=λenv y b d=>ZB List.mem_filterMap.mpr env y d;refine BC wpAny_leaves_madeW base DAX h s2.heap c.ok.frames rfl (lI o (of_hideAll _ q)) (funFrames_hide c.stack M) Q (EE h2 t x1 x2 x3 x4);have v:ALZ AKE C5P:=λb d=>by
  rw[DI env h1 h2 List.mem_filterMap.mp d];rw[F9V]
 have n:F88 a.heap.objs.size C5P:=λb h1 h2 h3=>by
  rw[EEF X q2 h3];rw[QI (AN0 X) X]
  .exact h2 (AM2 q2)
  rw[F56 X q2]
 have G:Cov outer H1 a.heap s2.heap DAX:=λb o eb nb d=>by
  refine hideAll_get _ eb (E58 n);subst z;rw[B6B d d d]
  .exact d c.free
  rw[EKJ d]
 have hp:AUY:=by
  cases eq:H1 p with
  |none=>rfl
  |some u =>
   obtain⟨o,eo⟩:=EWT c.hok p;rw[AW Q.new eo eo]
 obtain⟨U2,W,j⟩:=FJV i H1 a.heap s2.heap h2 c.base c.hok G x1.1 (GK Heap.UpToSlots.of_keeps Q.keeps x4) c.funs λb d=>c.stkFree b (v b d);exact⟨p,C,H1,_,KH,rfl,c.os,c.bare,U2,W,hp,x1,j,q⟩
inductive XP(X:Cx)(qK:DL)(R:CAM)(e:qB)(s':qC):Prop
 |mk (σ1:St) (H1:Hp) (s1:qC) (p C:qE) (H':Hp) (B:Heap) (a0:qB) (_:E5J) (_:pG σ1 H1 s1) (_:C9F) (_:A11) (_:CLM) (_:ARM) (_:tD) (_:EAI s'.heap) (_:CKG) (_:R σ1 C H'):XP X qK R e s'
noncomputable abbrev TX:=Ends->(CAM)->UB
noncomputable def PSx(X:Cx)(sts:ML)(t:TX):Prop :=
 FJK D Ends R CAM (t D R σ H) (FU RE X.A (kE execs sts) D93 (XP X qK R) s)
structure OkE(P:qG)(w:World)(K:qF)(mg:BF)(base:Heap)(x:Str)(k:Nat)(ps:AA)(sp:Sp):Prop where
 ex:EUN DYU
def FunAt.okE{st:Stmt}{ps:AA}{k:Nat}{sp:Sp}(F:ATE)(S:A4C)(len:pE)
  (b:ATS x (fZ ->
   B4M (D84 AF1))):F7U BX:=by
 rw[A48 g F.ex];refine⟨f,fd,h1,h2.kp,g,?_⟩;rw[FG9]
section
variable {M:Model}{E:qH}
structure ClsX(K:qF)(C:qE)(above:AN):Prop where
 ex:FMI (FP above (EO bm.contains v))
#where
section
variable {qK:DL}{σ:St}{H1 H':Hp}{s1 s':qC}{p:qE}{B:Heap}{a0:qB}{h2:Heap}
def Inv.land(a:CGV)(e:C9F)(k:A11)(g:CLM)(d:ARM)(i:EP1)(c:CKG)(st:DNZ)(m:DO0) :
  AGA DRE:=by
 have j:E5Z:=λb h=>by
  rw[B6D l (a.stack.mem h)];exact g.free b o l (a.stkFree b h) AF
 obtain⟨U2,f,_⟩:=a3t g d c st m i j;exact a.call' (ch:=[]) e U2 f k CBO
def Inv.landX(i:CGV)(v:C9F)(I:A11)(D:CLM)(t:ARM)(hp:tD)(G:EP1)(j:CKG)(c:EAI h2)(O:DO0) :
  JN BDR DRE:=by
 have H:E5Z:=λb h=>by
  rw[B6D s (i.stack.mem h)];exact D.free b o s (i.stkFree b h) AF
 rw[A7R U2 y (a3t D t j FN O G H)];obtain⟨x,d,l⟩:=c.there;have w:p∉tE:=λh=>by
  obtain⟨_,o,s,K⟩:=(fH).mem h;obtain⟨L,vs,_,_,_,g,_,m,_⟩:=RD.2;rw[AW s g g];exact K vs m
 have r:∀o,s1.heap.get? p≠AO o:=λo e=>by
  rw[ABS (f p x d w (.inr C87)) MX]
 have F:D1J BDR h2:=by
  refine⟨U2.keep,U2.slot,DQ b o e n J,U2.there,DUX,DYG,CBI⟩
  .rw[AB (A6 (by rw[ZE];exact r o e)) (U2.free b o e n J)]
  .have q:=U2.tups b xs e;rw[AB ARZ q]
  .have q:=WK U2.frzs u;rw[AB ARZ q]
  .rw[SK more (C3J U2.tbls)];rw[AQ more (AE ARZ q)]
 have A:AWY BDR h2:=λa o e=>by
  rw[BI E a p]
  .rw[BZY E];rw[AU ⟨x,d,l⟩ ⟨x,d⟩ (λg1 P (WS M N) k=>WS (k o M) N)]
  .rw[A6 E]at e;refine EB ((y a o e).stay (AR1 _ q) D46) b xs q
   .rw[AB ARZ q]
   .rw[AB ARZ q]
 exact i.call' (ch:=[]) v F A I CBO
#where
section
variable {qK:DL}{σ:St}{s:qC}
noncomputable abbrev Cx.held(X:Cx)(p:qE):Cx:={X with A:=X.A.mark cA,calm:=false,xe:=AQ6}
def Inv.held(I:AL)(p:qE):E3G :=
 BEJ ⟨I.ok.mod,I.ok.kind,I.ok.glob,I.ok.blt,I.ok.above,I.ok.inj,I.ok.has,I.ok.cab,B6L,I.ok.frames,I.ok.stk,I.ok.exf,I.ok.bs,I.ok.bsz,I.ok.noex,I.ok.exfs,I.ok.funs,I.ok.frf⟩
def Inv.unheld{p:qE}(J:X.Ok)(I:E3G):AL :=
 BEJ J
#where
structure JX(X:Cx)(sts:ML)(t:TX):Prop where
 h:PSx X sts t
section
variable {k:Nat}{ps:AA}{sp:Sp}{y:Str}{p pos qM pos':Pos}{i:Nat}
#where
def a1C{qual:Str}{scope:Scope}{f:qE}{cd:qB}{outer:JD}{b:qC}{c:Hp}{E:XK}{bmB d:AN}{B k qR j a i:String}{np qM pos:Pos}
  (O:EAE) (m:ExcBaseFacts k qR i d) (g:DPO k) (l:ExcBaseFacts B j a bmB)
  (p:Gl CO8 x)
  (n:JA CO8 LK t) (hd:KK:=by decide)
  (o:BY8 BUI BUI DT7:=by rfl)
  (h:AET qM DT7:=by rfl) :
  FI2 JS CO8:=⟨b9j O m g l p n.h hd o h⟩
#where
section
open PySem.W Builtin Builtin.ObjectAttr Builtin.Getset_descriptor
section
variable {K:qF}{prog:qG}{w:World}{A:Around}{E:qH}{h:Heap}{g:A0M}{d:Drawn}{t:Nat}{os:OsState}{a:qE}{o:Obj}{nm q:Str}{C N:qE}{bs bm:AN}{hdct:Bool}{sn:AA}{sub:AN}{ab:Bool}{col:sU}{dd:IN}{k0 k1 k2 k3 k5:TR}{qR:String}
#where
section
variable {X:Cx}{es:BT}{e:Expr}{t:TA}{pos p:Pos}
def a0a{x:Str}{v:V}{u:qB}(a:TC)(b:CAV)(r:PK)(hd:KK:=by decide):E4V:=⟨c5r a b r hd⟩
#where
#where
section
variable {A:Around}{H:Hp}{K:qF}{w:World}{α:Type}
def a0l{ca:A37}{xs:CJ}{i:Nat}{x:V}(h:OE ((AJF))):∃z,B7C z/\x=ca z:=by
 rw[C4D];cases e:DJF with
 |none=>rw[ASY]
 |some z=>rw[EN7]
def c4h{β:Type}{src:NQ}{σ caps:St}{Q:VK}{k1 k2:Bool}{a b:qE}(ca:A37)(d:β->V){xs:CJ}{ys:ABK}{te:TE}(f:BEU V)(q:MO)
  (c:FHF d)
  (k:APW) (n:BG0 o (YA->BAX->KS->A9D (E1Y o)->A1H (CKJ d) o))
  (hd:CD9) :
  BFM:=by
 rw[SZ r]
 rw[BSH AJF (ys.map d) (IL (W5 q r)) (zs=A1P i) (BNZ DK)]
 .rw[BHK l a0l g m a0l];rw[B5Q DZ8 DZ8 B1B [d g] (d g) k (BS4 x' d g)];rw[AAI]
  .match j,e with
   |0,e=>rw[CI]
   |1,e=>rw[CI]
   |oO,e=>exact e
  .exact n x' g _ _ B8I (List.mem_of_getElem? m) s' λH2 s2=>BGS AOZ l m
 .rw[yX zs];have e:A1P (min (EH xs.map ca) (EH ys.map d))=AZ8:=by
   rw[BGO List.length_map List.length_map]
  rw[BBF]
def b6q{src:NQ}{σ caps:St}{Q:VK}{a:qE}(ca:A37){xs:CJ}{j:TT}(t:C7X)(k:MO)(b:BVR AJF)(c:YC)
  (f:∀x H1 (g:XY),YA->KS->A9D (g (t x) H2)->j (bE (BK ca x)) H1 g) (hd:AY6 (kF DXN ca)):BH2 j AKJ:=by
 rw[SZ l]
 refine S7 (xs:=AJF) (IL DPR) (dP (ys=FW E0T t ca)) zU (NM ys FH1) ?_ ?_
 .rw[BY4];rw[bC z d a0l hx];rw[A0B (APT (BK ca z)) c (HU (f z H' _ D3F s) H2 s2)];rw[B65 d];cases e:t z with
  |true=>rw[E8E]
  |false=>rw[AQ A0R ALV]
 rw[BFT List.length_map]
def c7w{P:qG}{mg:BF}{base:Heap}{N:AA}{qual:Str}{scope:Scope}{f:qE}{cd:qB}{outer:JD}{d:qC}{v:Hp}{E:XK} :
  a0T AF1 (AUA outer d v E) E:=by
 intro qK σ H1 s1 e s' I h;obtain⟨p,C,H',B,a0,rfl,s,x,J,n,L,c,i,q⟩:=h;have g:=I.land s x J n fH i FN (λb o e _=>BSQ e);refine EB (wX wpAny_leaves_onW base B I.ok.frames c) h' D M;have r:ALZ AKE EHO:=λb a=>by
  rw[BEO env (List.mem_filterMap.mp a)];rw[F9V]
 have m:F88 d.heap.objs.size EHO:=λb h1 h2 G=>by
  rw[EEF u y G];rw[QI (List.mem_cons.mp u) u]
  .exact h2 (AM2 y)
  rw[F56 u y]
 have j:DYK d.heap:=λb o F nb a=>by
  refine i b o F (E58 m) ?_
  .subst z;rw[B6B a a a]
   .exact a g.free
   rw[EKJ a]
  .rw[B6B a a a]
   rw[GX a]
   rw[JM (I.base.there b o' a QJ)]
 obtain⟨U2,t,k⟩:=FJV v H' d.heap s'.heap h' g.base n j D.1 M g.funs λb a=>g.stkFree b (r b a);exact⟨p,C,H',B,a0,rfl,g.os,x,U2,t,L,D,k,q⟩
def Y8{P:qG}{mg:BF}{base:Heap}{N:AA}{qual:Str}{scope:Scope}{f:qE}{cd:qB}{outer:JD}{b:qC}{a:Hp}{E:XK}
  {k:Nat}{ps:AA}{sp:Sp}{x:Str}{e:Expr}{es:BT}{t:TA}{p pos:Pos}(O:F7U k) (m:EHF) (l:Gl xU x)
  (i:E8R) (c:KK:=by decide)
  (j:F4H:=by rfl)
  (d:DPC:=by rfl) :
  JE xU (AF3 AHM) (EXP []):=by
 obtain⟨n,fd,h1,h2,g,h⟩:=O.ex;exact⟨b5p h m l h1 h2 g .nil c7w i.h c j d⟩
def Its.put{vs:A0}{rss:LLI}{c:qE}{xs:A0}{o:HO}(h:TD)(b:B9V):CEZ:=DYW
open _root_.HT
section
variable {prog:qG}{E:qH}{s:qC}
def b1Q{α β:Type}{f g:DWE}:∀(l:CJ),DF m l (f m=g m)->l.filterMap f=l.filterMap g
 |[],_=>rfl
 |eE,h=>by
  rw[List.filterMap_cons,List.filterMap_cons,BNQ a,b1Q l λm b=>h m y0]
def b9t(xs:CO):(BD3 xs.size λ(PN m)=>xs[B1A (A1F) (AZR)]?).toArray=xs.toList.reverse.toArray:=by
 congr 1;rw[XJ e m (AN1 xs.size) (ANM ENK BS1) m b (by
  have a:DK0:=DFX;have e1:ENK=xs.size-1-m:=by omega
  rw[e1,List.getD_eq_getElem?_getD,ALF List.getElem?_reverse a,Array.length_toList,Array.getElem?_toList,BNT (aM 0x2aab2beeb2076ab01b2cec00b92e96)];rfl)]
 rw[b1Q _ e];rw[show A82 xs.size filterMap (λm=>AO BS1)=DLP D4Z from congrFun (List.filterMap_eq_map (f:=D4Z)) _];rw[E3C];simp only[List.getElem_map,List.getElem_range];rw[B83 C3A]
#where
section
variable {X:Cx}{e:Expr}{te:TE}{lo hi:ABX}{tl th:TO}{pos p2:Pos}
def b2z(l:qE)(items:CO)(n:Nat)(dd:IN)(sl:aW)(u:Tok)(a:DHY) :
  ETQ 0 (END #[]) :=
 (wW (by
  rw[CKA e b];have c:E6B (OJ==1):=by rw[bA a]
  wp_walk using PySem.AutoSeq1.wpAny_loadPart' b
  rw[vW]))
inductive rRep0(x:V)(y:V)(H:Hp)(Q:VK):Prop
 |mk (a xs n:_) (_:JH) (_:C8Q) (_:A2Z) (_:C41) (_:0<=n) (_:EMG) (_:E8H):aT rRep0
def c5y:AQ0 rRep0:=by
 rw[F5Z p w k g B C];rw[BI j n 0]
 .subst j;rw[ABB p w];rw[AD9 p1 D C9R];rw[F3W i l l l];have f:=r.length;have d:DGX:=by rw[A7T f List.length_pos_iff.mpr g]
  refine F6P B2Z 0
   (FJ9 0 0 (HE i B2Z ?_))
  rw[F1K B2Z (CKV b2z sl t (by simp;intro z;rw[iE z d (Nat.lt_irrefl _ d)])) i];have A:A2D:=cQ;refine mM (A9K I.laid s.toks CWO E ?_) (EJ1 A);rw[BW GH [] .nil ALH]
 .exact cK b5q CM C17 v u Q I p w ⟨a,xs,n,rfl,rfl,k,g,AR 0x366b647936973107fc4661236 B j,C,q⟩
def c9V{a b:Expr}{ta tb:TE}(c:CP)(d:DN):AQ8 rRep0:=YF c5y
#where
#where
section
variable {A:Around}{C a:qE}{E Q:qH}{H H':Hp}{P prog:qG}{X:Cx}{e:Expr}{es:BT}{h h':Heap}{qL:aO}{o:aJ}{p pos:Pos}{qK:DL}{ps:AA}{s:qC}{sp:Sp}{ta te:TE}{u:qB}{v y:V}{w:World}{x:Str}{xs:ARD}{σ:St}
inductive rMinL(K:qF)(xs:A0)(H:Hp)(Q:VK):Prop
 |mk (p:qE) (ns:qI) (_:jI) (_:SqL K H p zJ) (_:DGW) (_:F89 (M<=a)):eO rMinL
inductive rAbs(xs:A0)(H:Hp)(Q:VK):Prop
 |mk (i:Int) (_:D6A) (_:SI BS8):jU rAbs
def b8f:rD "abs" rAbs:=by
 rw[kZ b];rw[HG i q h];rw[HG u a b.one];rw[HQ a];exact call_abs_int λu tk=>UA aD EAU (UP u) q
def c9R{t:TA}(d:KD "abs")(f:NA "abs")(b:FC)(c:DE:=by rfl)(a:HZ:=by rfl):A1L "abs" rAbs:=(B5D F3 b8f d0y)
inductive rMaxQ(K:qF)(xs:A0)(H:Hp)(Q:VK):Prop
 |mk (k:Bool) (p:qE) (ns:qI) (_:jI) (_:CF8 p) (_:DGW) (_:F89 (a<=M)):eO rMaxQ
def b7V(K:qF)(E:DM)(C:AT:=by rfl):vY "max" rMaxQ:=by
 subst C;rw[kZ M];rw[SO k p c rfl hs y q];rw[VA L M.one L];rw[RV z r N I.sqk hs];rw[C4K g z.length g];rw[BVO F DRM];have d:∀i v,C5U->∃t,v=DMB vL:=λi v x=>by
  rw[MD n AM3 x]
  rw[BSP (List.getElem?_eq_some_iff.mp n)];have J:E6R=DS c[i]:=by rw[B2Q (AOP g)]
  rw[EZ O e1 t e2 z.get J];rw[AKU n];rw[AQ t (AGY e2 List.getD_eq_getElem?_getD (AOP g))]
 refine call_max_walk (N8 r ?_);refine⟨s.heap.objs.size,_,_,_,_,_,_,rfl,BZ0 F (a3i r),a9M r,gQ f,?_,CmpOf.ints_gt (OS vL) d,CJ0 x G⟩
 .rw[AYJ];rw[OY o r.get];have w:=u6;rw[BG9]
  rw[DT0]
  rw[DGS w]
 .rw[AB List.size_toArray (lq 0x4657974ca1d04865c5e y g)]
 .rw[HQ (AG d x)];obtain⟨A,B⟩:=argBest_gt (OS vL) DFE;rw[EK4 m c.length g.symm]
  have f:argBest (λi j=>EG (vL > DGL)) DFE<c.length:= VD 0x3f709f857b0d021007e55fb1eec85f y A m
  rw[F6V (I.kept (t':=tk) (a3k G)) D]
  .rw[F2 List.getD_eq_getElem?_getD BTS List.getElem_mem f]
  .rw[iK D];have:=B i (bV c1A m);have e:vL=c[i]:=by rw[B83 UY]
   rw[JY e this]
def c6w(K:qF){t:TA}(g:KD "max")(h:NA "max")(c:oP)(d:DM:=by rfl)(b:AT:=by rfl)(f:wR:=by rfl)(a:wH:=by rfl):CAL "max" rMaxQ:=(ASD b7V d0v)
section
variable {k:Bool}
def c8d{α:Type}{M:Model}{c:Bool}{t u:C6S}{Q:C3H}(h1:DR4)(h2:MV M u Q):MV M (QO c t u) Q:=by
 cases c
 .exact h2
 .exact h1
#where
def b0d:uU "enumerate" "enumerate":=MC
section
variable {M:Model}
def T5{nm q:Str}{N:qE}{bs bm:AN}{hdct:Bool}{sn:AA}{sub:AN}{ab:Bool}{col:sU}{dd:IN}{k0 k1 k2 k3 k5:TR}{qR:String}{g:A0M}{d:Drawn}{t:Nat}{os:OsState}{e:qE}{k:Obj}{Q:jG}
  (j:EJX) (l:nB e k) (b:VX k.cls C)
  (a:BVD) (m:Q true BXF):EUS QG:=by
 have c:A07 (AMO BU1 bm):=by rw[EBV a]
 have i:AY (RH (AMO BU1 bm) C):=by rw[L1 List.contains_cons]
 rw[EL4]
 repeat (first | rw[DWR l b]|with_reducible rw[LV wpAny_loadPart_at j] | (with_reducible rw[LV wpAny_isSubtype_exc j];first|rw[c]|rw[i])|wp_step)
 exact m
#where
noncomputable def b8z(K:qF)(D:qE)(tx:TX)(ts:TS):TS:=EJD (λσ1 C H'=>C=D/\CO5 ts C)
def b9i{body:ML}{tx:TX}{ts:TS}{n:Str}{np m:Pos}{M:Stmt}{b:ML}{D:qE}(j:CDY)(x:BEV)(hx:PSx X body tx)
  (hg:KD n) (hm:AAK n D) (Z:ClsX X.K D [])
  (A:∀p,PSs A62 E42 ts) (hd:AFA n:=by decide) :
  PS X (COD [CA0 (AO (.Name n np)) E42 m]) (b8z X.K D tx ts):=by
 rw[pO J h];rw[FGM hx J]
 .cases f with
  |next=>rw[CE8]
  |brk=>exact q
  |cont=>exact q
  |ret v=>exact q
 .obtain⟨σ1,H1,s1,p,C,H',B,a0,rfl,I1,hos,hbare,hU,hok,hp,fl,cov,hC,k⟩:=q;subst hC;rw[AC O (ZD fl) l fl];rw[j]at l;refine EB (F7M j x l) h4 i F;refine JQ wpAny_landsW i W c d;rw[<-j]at c;have d:=F.trans d;have K:EK3 W:=DYY O cov FN d;refine D1A;refine U7 (X:=A62) (K.held p) hg hm ?_ hd;obtain⟨oe,y,u⟩:=c.there;obtain⟨a1,q',R,U,T,w,a2,P,S,N,V,j0,j1,j2,j3,j5,o,E,t,_⟩:=Z.ex;refine T5 (AG K.kIn E) y u t ?_;rw[DA0 c Y r G];have Q:pG σ1 BDR (AHO Y):=DB1 O r d.trans G;refine BRM (A p qK _ _ _ J (Q.held p) D68) D8R;cases f with
  |next=>rw[CJ5]
  |brk=>rw[CJ5]
  |cont=>rw[CJ5]
  |ret v=>rw[CQ4 g g.unheld]
section
variable {k:Nat}{qM:Pos}{t:TA}
def c2Y(K:qF){body:ML}{tx:TX}{ts:TS}{c:Str}{np b:Pos}{g:Stmt}{a:ML}{D:qE}(l:EP6)(j:KD c)(k:AAK c D)(h:CGP D)
  (f:E92 DTJ) (i:AT:=by rfl) (e:CDY:=by rfl) (d:BEV:=by rfl) (hd:AFA c:=by decide) :
  JS X (COD [.ExceptHandler (AO (.Name c np)) none DTJ b]) (b8z K D tx ts):=by
 subst i;exact⟨b9i e d l.h j k h (λp=>(f p).h) hd⟩
#where
section
variable (P:qG)(w:World)
#where
section
variable {o:HO}
#where
section
variable {x e:qE}{o':HO}
#where
section
variable {fs fs' ex ex':EW}{H1 H2:Hp}{h1 h2:Heap}{x e:qE}{o:HO}
#where
section
variable {σ:AOA}
#where
section
variable {a b:Expr}{tb:TE}
variable {tA tB':TT}{rest:BT}
#where
section
variable {xs ys:A0}
#where
section
variable {st:Stmt}{rest:ML}{t u:TS}
#where
section
variable {tg:Expr}
#where
section
variable {a b c:Expr}{tb tc:TE}
#where
section
variable {K:qF}{x dx f:qE}{mA:BF}{name:Str}{v:qB}
#where
section
variable {dx:qE}{fs fs':QW}
#where
section
variable {dx:qE}{fs:QW}{f:Str}
#where
section
variable {o value:Expr}{f:Str}{pos' tpos:Pos}{tv:TE}
#where
section
variable {c:qB}{b:Bool}
#where
section
variable {t:TA}
#where
section
variable {s':qC}
#where
section
variable {CX:CXT}{k:Nat}{f:qE}{fd:FuncData}{dvs:A0}{ds:AN}{E:XK}{m:Str}{qN:Pos}{o:Expr}{t:TA}
#where
section
variable {CX:CXT}{k:Nat}{f:qE}{fd:FuncData}{ks:AA}{E:XK}{m:Str}{qN kpos:Pos}{o:Expr}{kws:AF0}{t tk:TA}{nm:vF}
variable {g:EWB}{gV:EP4}
#where
section
variable {t:TA}{id T:String}{r:AR7}
#where
section
variable {κ:Type}[ARN]
noncomputable def G7(qL:LJ)(k:κ):aJ:=FE (WF qL.find? kv (AB9=k)) (·.2)
noncomputable def putK(qL:LJ)(k:κ)(v:V):LJ :=
 if LQ (AKO kv AB9) then qL.map (λkv=>if AB9=k then(AB9,v)else kv)else F2B
def J5{p:CE0}{r:LJ}{k:κ}(e:C5B):G7 ACH k=some HS:=EV9
def J6{p:CE0}{r:LJ}{k:κ}(e:¬C5B):G7 ACH k=G7 r k:=EV9
def V1(k:κ):∀qL:LJ,(AKO a QR)=(G7 qL k).isSome
 |[]=>rfl
 |ACH=>by
  rw[List.any_cons];rw[ARF]
  .simp only[A23,A22,Bool.true_or,Option.isSome_some]
  .rw[A24,ANW,Bool.false_or];exact V1 k r
def b0p(k j:κ)(y:V):∀qL:LJ,G7 CLJ j=zX G7 qL j λx=>EC0 (j=k)
 |[]=>rfl
 |ACH=>by
  have b:=b0p k j y r;rw[List.map_cons];rw[BI h CU k]
  .rw[AB8 vH CU]
   .rw[CC3 CXV,A23,Option.map_some,B6M e.symm.trans h]
   .rw[CC4 CXV,A24,b]
  .rw[AB8 oJ CU]
   .rw[CC3 p,A23,Option.map_some,EF2 h]
   .rw[CC4 p,A24,b]
def a7H(k j:κ)(y:V):∀qL:LJ,ATC->F5P (qL++[BQV])
 |[],_=>by
  rw[FO k j]
  .rw[AB DI4 (CC3 BQV)]
  .rw[AB (BD (λz=>e z.symm)) (CC4 BQV)]
 |ACH,a=>by
  rw[List.cons_append];rw[SH b C5B (by rw[AW (J5 z) a a])]
  rw[J6 b]at a;have c:=a7H k j y r a;rw[FO CU j]
  .rw[A23,A23,EF2 b]
  .rw[A24,A24,c]
def b8u(qL:LJ)(k j:κ)(y:V):F5P C99:=by
 unfold putK;rw[iM CKY]
 .rw[XX,b0p];rw[V1]at a;rw[FO j k]
  .obtain⟨x,hx⟩:=Option.isSome_iff_exists.mp a;rw[IP,e,hx,Option.map_some,EK]
  .rw[GA];cases D7I with
   |none=>rfl
   |some x=>rw[Option.map_some,GA]
 .rw[aK];refine a7H k j y qL ?_;rw[V1]at a;cases q:mZ with
  |none=>rfl
  |some x=>rw[q]at a;exact(a rfl).elim
def Y0(qL:LJ)(k:κ)(v:V):tN putK qL k v<=qL.length+1:=by
 rw[dU putK]
 .rw[AB List.length_map c1j]
 .rw[AYI List.length_append List.length_nil];rw[PD 4030111308581]
def a5X{qL:LJ}{k:κ}(v:V)(h:ATC):B41=F2B:=by
 unfold putK;rw[F2 V1 h if_neg AH]
def RelO.isSome_eq{u:TR}(r:DS8):o.isSome=u.isSome:=by
 cases o with
 |none=>cases u with
  |none=>rfl
  |some _=>rw[A3U r]
 |some _=>cases u with
  |none=>rw[A3U r]
  |some _=>rfl
def RelO.getD{u:TR}{d:V}{d':qB}(r:DS8)(a:RelV d d'):CB7 d (u.getD d'):=by
 cases o with
 |none=>cases u with
  |none=>exact a
  |some _=>rw[A3U r]
 |some _=>cases u with
  |none=>rw[A3U r]
  |some _=>exact r
def KV.val{qL:LJ}{vs:A3D}(r:iJ)(k:κ):RelO mZ (valueAt vs k):=by
 rw[CGH];induction r with
 |nil=>exact True.intro
 |@cons p q ps qs h t a =>
  rw[IM h];rw[ARF]
  .rw[FEQ (BTX ADV) (by rw[ALA valueAt e'])]
   rw[CG A23 b h2]
  .rw[SH e' (CZ=k) BUG];have b:valueAt ADV k=BTX qs:=by rw[ALA valueAt e']
   rw[CG A24 b a]
def KV.any{qL:LJ}{vs:A3D}(r:iJ)(k:κ):(AKO a QR)=DRA a QR:=by
 rw[CGH];induction r with
 |nil=>rfl
 |cons h t b=>rw[EC9 b CB]
def KV.repl{qL:LJ}{vs:A3D}(r:iJ)(k:κ)(c:NL) :
  KV CLJ (D0W vs.map (QR,u)):=by
 unfold KV at r⊢;induction r with
 |nil=>rw[A0E]
 |@cons p q ps qs h t b =>
  rw[ENX b];rw[IM h];rw[ARF]
  .rw[DZB];rw[AQ h1 c]
  .rw[ELK];rw[AQ h1 h2]
def KV.put{qL:LJ}{vs:A3D}(r:iJ)(k:κ)(a:NL):KV C99 (stored vs k u):=by
 unfold putK stored;rw[r.any k];rw[nZ (LQ (DRA b LG))]
 .rw[IP,IP];exact r.repl k a
 .rw[GA,GA];exact Paired.snoc r (DZ a)
def KV.length{qL:LJ}{vs:A3D}(r:iJ):BZD qL.length:=C4A
#where
def a4E{k:Key}(r:RelV (kV k) u):AY ((D9 P w).is k u):=by
 cases k with
 |inl i=>rw[OY t (AXI AAO r)];rw[A0O (b1o P w i t)]
 |inr x=>rw[OY t (AXI BAR r)];rw[A0O (b1n P w x t)]
def a8h{P:qG}{w:World}:∀{ks:YT}{us:AN},AIV ks.map kV us->ItemsAre A86 ks us
 |[],_,r=>by rw[CGU r r]
 |k::ks,_,r=>by
  rw[B67 r];cases r with
  |cons h t=>exact .cons (a4E h) (a8h t)
noncomputable abbrev KT(H:Hp):EL aO ARD:=CJ8 (CM6 EF5)
def KT.val(r:AB6)(k:YT):RelO mZ ((atKey xs k).map (·.2)):=by
 induction r with
 |nil=>exact True.intro
 |@cons p q ps qs h t a =>
  rw[CGB h];rw[ARF]
  .rw[FEQ (atKey ADV k) (by rw[ALA atKey e'])]
   rw[CG A23 b h2]
  .rw[SH e' (CZ=k) BUG];have b:atKey ADV k=atKey qs k:=by rw[ALA atKey e']
   rw[CG A24 b a]
def KT.repl(r:AB6)(k:YT)(d:NL) :
  KT H CLJ (xs.map (putAt k u)):=by
 induction r with
 |nil=>rw[A0E]
 |@cons p q ps qs h t c =>
  rw[ENX c];rw[v5 h1 h2 b];unfold putAt;rw[ARF]
  .rw[DZB];rw[AU h1 h2 d]
  .rw[ELK];rw[AU h1 h2 b]
def KT.put(r:AB6)(k:YT){b:qE}(c:AD8)(a:NL) :
  KT H C99 (storedH xs k b u):=by
 have e:(AKO d XT)=ETT:=by
  rw[V1,(r.val k).isSome_eq,Option.isSome_map]
 unfold putK storedH;rw[e];by_cases q:AY ETT
 .rw[B8D,B8D];exact r.repl k a
 .rw[AC9,AC9];exact Paired.snoc r (eX c a)
def KT.keeps(r:AB6)(a:CZG ys ys ys):KT H' qL xs :=
 F7S _ _ (AND z.2.1)
def c7u{u:HO}(ok:VM)(e:CHS):AZL u:=e.ok ok
def a4H{qL:MQ}(ok:VM)(e:CC9):CLC :=
 show AZL BC0 from EGD
def c7X{qL:MQ}(ok:VM)(e:AQE):CLC:=ESH a4H
def a1y{ks:YT}(ok:VM)(e:ZA DQB):EO3 h ks a:=by
 obtain⟨_,its,r,o,h1,h2,n,b⟩:=(CMV DQB (ok a _ e));exact⟨o,its.toArray,n,h1,DVA,b,BQ (a8h r)⟩
def a4G(ok:VM)(e:CCA):DSP (A93 /\
  FAV):=by
 obtain⟨z,y,xs,r,o,es,ep,h1,h2,d,f,g⟩:=CMV BC1 EGD;refine⟨z,y,xs,r,o,es,ep,h1,h2,d,f,AQT,g⟩;have all:∀{l:aO}{m:ARD},KT H l m->GP m (EO3 h ET cD):=by
  intro l m q;induction q with
  |nil=>intro x b;exact nomatch b
  |@cons p q ps qs c t i =>
   intro x b;rcases AC3 with e|b
   .rw[DB];exact a1y ok (OV FN MX)
   .exact i x b
 exact all r x b
def c7W(ok:VM)(e:A46):DSP (A93 /\
  FAV):=ESH a4G
noncomputable def DGet(H:Hp)(a:qE)(y:V)(r:aJ):Prop :=
 (∃qL k,CC9/\EMQ/\r=mZ)∨∃qL k b,CCA/\ADD/\AD8/\r=mZ
noncomputable def DPut(H:Hp)(a:qE)(y v:V)(H':Hp):Prop :=
 (∃qL k,AQE/\EMQ/\AD7/\H'=BRG B41) ∨
 ∃qL k b,A46/\ADD/\AD8/\AD7/\H'=E7I
def DGet.k{H:Hp}{a:qE}{qL:MQ}{k:Key}(e:AQE):DPX DHU:=ED (GZ qL k C1F rfl)
def DGet.t{b:qE}{k:YT}(e:A46)(c:AD8):DPX GV:=DC ⟨qL,k,b,C1F,rfl,c,rfl⟩
def DPut.k{H:Hp}{a:qE}{qL:MQ}{k:Key}{v:V}(e:AQE)(b:AD7):DPut H a DHU v (BRG B41):=ED (BCO qL k e b)
def DPut.t{b:qE}{k:YT}(e:A46)(c:AD8)(d:AD7) :
  DPut H a GV v E7I:=DC (tM qL k b e c d rfl)
section
variable {r:qB}
def Inv.big(I:AL):xS sysModules:=by
 have h:xS mainGlobals:=(I.mod.glob.keeps I.bk).lt;exact Nat.lt_trans AH h
def b7H(r:wC)(I:AL)(g:CTC UO)(m:NL)(h:∀f s',AA5->AFI f->rZ f) :
  sZ (KB getItem a u):=by
 rw[ATR i i n]
 .subst i;rw[B5B];rw[F97 (BTX vs)];exact wpAny_getItem_of (a4E m) dd.mapOf hw E9Q
 .subst i;rw[B5G m];rw[F97 (BRF atKey xs k)];rw[DI p q j Option.map_eq_some_iff.mp hw];refine wpAny_getItem_heap (tupleKind_room_in1 r) EFR dd q ?_;rw[AB j E9Q]
def d1T(j:wC)(I:AL)(g:AS8)(f:NL)(h:EO8 o.isSome) :
  EZD .In:=by
 rw[ATR d d i]
 rw[FFV wpAny_in_of]
 rw[FKI wpAny_in_heap]
def c6V(j:wC)(I:AL)(g:AS8)(f:NL)(h:EO8 DDA) :
  EZD .NotIn:=by
 rw[ATR d d i]
 rw[FFV wpAny_notIn_of]
 rw[FKI wpAny_notIn_heap]
def a5q{t':Nat}{c:HO}(I:AL)(g:Mut (H a))(hs:CFK)(f:E48)(new:BEI (A2O c) h' a c) :
  JN (A2O c) AM9 :=
 F19 a g OP (EXJ d AWQ d) f new
def c3E{qL:MQ}{vs:C89}(z:CK qL.length)(hd:A93)(b:iJ)(dd:h'.DictOf A86 a vs) :
  BH4 H' a BC0:=⟨z,hd,vs,b,dd⟩
def b7G{Q:ACF}(G:wC)(I:AL)(g:DPut H a y v H')(x:NL)(w:AFI r)(h:CCQ wE) :
  sZ (setItem CM u r):=by
 rcases g with⟨qL,k,e,m,l,j⟩|⟨qL,k,b,e,m,p,l,j⟩
 .subst m j;rw[F9J vs c7X vs.length d.length]
  rw[CP3 n v v l]
  refine wpAny_setItem_pairs (hsz:=o) (a4E x) dd λh' f hs=>B3I;have F:E48:=CLS q i f (ABF i)
  exact a5q I B44 hs F (c3E n hd (d.put k w) f)
 .subst m j;cases(pZ (BIT b) x);rw[F9J xs c7W xs.length (Paired.length d)]
  rw[CP3 n v v l]
  refine wpAny_setItem_heap (hsz:=o) (tupleKind_room_in1 G) (a1y I.hok p) dd λh' f hs=>B3I;obtain⟨q,es,ep,i,h2,B,C,_,D⟩:=f;rw[FE2 (ABF i) ⟨n,hd,_,(F39 d.put p w t),q,es,ep,i,h2,B,C,D⟩ t t]
#where
section
variable {qL:MQ}{k:Key}
#where
noncomputable def d0G(i:Expr):Prop:=∀ov iv,subscripted i false ov iv=operate [ov,iv] (getItem ov iv)
def c4t{env:Env}{value a:Expr}{T id:String}
  (c:EUH) (hs:d0G a)
  (h:EN0 (C90 value) (jT (eval a env) (λi s₂=>s₂.TypeIs o T/\jT (getItem o i) Q E s₂) E s₁)) :
  F1 (C90 (.Subscript value a pos)):=by
 refine Subscript_ (cT h (λo s₁ h₁=>cT h₁ (sO s₂ h₂) x x) x x);obtain⟨b,h₂⟩:=h₂;unfold subscriptTail;rw[QQ];rw[getitemInPython_of_ne b.not_modules];rw[C60 b c];have fin:jT (subscripted a false o i) (λr s₃=>jT (letTemporaryGo value o r>>=D2 vQ) Q E s₃) E s₂:=by
  rw[AZ (hs o i) wpAny_operating (cT h₂ (λr s₃ h₃=>B5X (sI wpAny_letTemporaryGo h₃)) x x)]
 first
  |exact DSC
  |rw[ABO DSC]
  |rw[ABO fin]
def b1Z(I:AL)(g:AS8):E19:=by
 rcases g with⟨qL,k,e,_,_⟩|⟨qL,k,b,e,_,_,_⟩
 rw[ECV vs DMR]
 rw[ECV xs DMS]
inductive tDGetI(Q:VK)(x:V)(y:V)(H2:Hp):Prop
 |mk (a v:_) (_:JH) (_:CZ1 UO) (_:Q v H2):tDGetI Q x y H2
noncomputable def c7n(td ty:TE):TE:=NG td x (ty σ H1 (tDGetI Q x))
inductive tDInI(Q:VK)(y:V)(x:V)(H2:Hp):Prop
 |mk (a o:_) (_:JH) (_:CFE) (_:A21 o.isSome H2):tDInI Q y x H2
noncomputable def c8p(ty td:TE):TE:=EYC tDInI
inductive tDNotInI(Q:VK)(y:V)(x:V)(H2:Hp):Prop
 |mk (a o:_) (_:JH) (_:CFE) (_:A21 DDA H2):tDNotInI Q y x H2
noncomputable def b4W(ty td:TE):TE:=EYC tDNotInI
inductive sDPutI(D:Ends)(σ:St)(v:V)(x:V)(y:V)(H3:Hp):Prop
 |mk (a H4:_) (_:JH) (_:DPut H3 a y v H4) (_:B4Q H4):sDPutI D σ v x y H3
noncomputable def c7t(td ty tv:TE):TS:=A3G tv v (VB td x (ty σ H2 (sDPutI D σ v x)))
section
variable {o i value:Expr}{pos' tpos:Pos}{td ty tv:TE}
def c5t(j:A38)(f:A3E)(hi:BD8)(hs:d0G i):C73 o i E2Q:=by
 rw[LU];refine c4t PySem.F.slot_dict_getitem.lookup hs (thn (WA f) λu s1 (xQ x H1 m k)=>AAX hi d k q p);rw[DC1 y n v];rw[AQ (b1Z c g) (b7H j c g n λt r e b=>aA v e b l)]
def b9J(f:A38)(hi:BD8)(e:A3E):PC X .In i o E9A:=by
 rw[FLN d1T j.isSome]
def b6M(f:A38)(hi:BD8)(e:A3E):PC X .NotIn i o (b4W ty td):=by
 rw[FLN c6V (! j.isSome)]
def c4W(k:A38)(j:A3E)(hi:BD8)(l:E55)(hs:E1V) :
  BDN PS BW9 ENR:=by
 rw[XO];refine wpAny_Assign_Subscript (thn (WA l) λr s1 (gA v c q m)=>thn (A5N j c m) λu s2 (xQ x H2 t n)=>FJ (B4Y hi d n) B C z) hs;obtain⟨y,A,e,w,a,b,ex,g,p⟩:=z;rw[AGU t];exact b7G k e g w q λE f=>A8G b f p
#where
def b1Y(h:Heap)(a:E3W):F6E AIH :=
 ⟨GH,EV0,[],.nil,Heap.DictOf.new h⟩
def c3B(h:Heap)(a:E3W):F6E AII :=
 ⟨GH,EV0,[],.nil,_,#[],0,KF,C81,rfl,rfl,List.nodup_nil⟩
noncomputable def b8D:TE:=x9 _ (APO E8W)
noncomputable def b8C:TE:=x9 _ (APO (D6F .dT))
def b9E:ET5 b8D:=λqK s σ H Q I h =>
 FGC AIH E6N
def b9D:ET5 b8C:=λqK s σ H Q I h =>
 FGC AII (D48 c3B)
noncomputable def b2B:A3Y->St->AIB DHD
 |[],_,H,Q=>Q [] H
 |fP tk tv,σ,H,Q=>(kK tk x (VB tv y (b2B r σ H2 λps H3=>Q EPG H3)))
noncomputable abbrev VV:EL (wZ V) DPP:=CJ8 (RelV CU CZ/\EIW)
noncomputable def PPs(X:Cx)(pos:Pos)(keys:AO9)(values:BT)(trs:A3Y):Prop :=
 BDM DHD (vV b2B trs ->
  fJ (evalPairs (pairTrees keys values X.env pos)) (λvs s'=>∃ps H',wE/\VV ps vs/\VY ps))
def c4Z:AR8 [] [] []:=AMW Q (EV1 pairTrees_nil_walk)
def b9n{k v:Expr}{ks:AO9}{vs:BT}{tk tv:TE}{trs:A3Y}(f:DR k tk)(i:DR v tv)(g:AR8 ks vs trs) :
  AR8 AAY AAP EX1:=λqK s σ H Q I h =>
 pairTrees_cons_walk (thn (WA f) λu s1 (gA x c n j)=>ADZ i c j (λq s2 (xQ y H2 o l) =>
  thn (B4Y g d l) λr p ⟨ps,b,e,a,m⟩=>⟨EPG,b,e,.cons ⟨n,o⟩ a,m⟩))
noncomputable def a3T(qL more:MQ):MQ:=more.foldl (λqP kv=>putK qP AB9 kv.2) qL
def KV.merge:∀{more:MQ}{rs:C89}{qL:MQ}{vs:C89},KV more rs->iJ->KV (a3T qL more) (merged vs rs):=by
 intro more rs qL vs r;rw[CGH];induction r generalizing qL vs with
 |nil=>intro q;exact q
 |@cons p q ps qs h t a =>
  intro b;have e:KV (putK qL CU HS) (stored vs CZ CS):=by
   have:=b.put CU DK;rw[JY CB this]
  exact a e
def a2o:∀(more qL:MQ),KQ a3T qL more<=qL.length+more.length
 |[],qL=>YL (qL.length<=qL.length+0) lq 4870571525
 |ACH,qL=>by
  rw[SQ (a2o r E9Z) (D90 Y0)];show KQ a3T E9Z r<=_;rw[CBA 0xaefac0b1f143c834318 h1 h2]
def a7a{P:qG}{w:World}:∀{qL:MQ}{e:DPP},VV (qL.map λd=>(kV XT,iV)) e->∃rs,Carries A86 e rs/\KV qL rs
 |[],_,r=>by rw[AW List.map_nil r r];rw[AU [] True.intro .nil]
 |p::qL,_,r=>by
  rw[B67 r];cases r with
  |@cons a b as bs h t =>
   obtain⟨rs,c,q⟩:=a7a (P:=P) (w:=w) t;obtain⟨g,f⟩:=b;rw[AU ((CU,f)::rs) (D4 (a4E CB) c) (.cons (DZ DK) q)]
noncomputable def c7m(trs:A3Y):TE:=kL (AFK (b2B trs σ E8W λps H2=>H2 p=BK .dK []/\∃qL:MQ,ps=qL.map (λkv=>(kV AB9,kv.2))/\qL.length<=15/\IR p (TM H2 p .dK (a3T [] qL))))
def c5s{b:AO9}{d:BT}{trs:A3Y}(h:AR8 b d trs)(g:EO b.all ((·.isSome)))(n:b.length=d.length)(h0:B8B)
  (i:b.length<=15):y4 .Dict b d EAZ:=by
 rw[pO Q q];rw[AC p (DDQ Nat.le_refl s.heap.objs.size) l (FFL AIH (AF7 AHX) BVI BV E6N)];refine wpAny_Dict_walk (knd:=B4N) g n h0 i (FJ (EKR _ _ l (q _ p)) A s2 y);obtain⟨ps,H2,k,j,e,qL,ep,lk,t⟩:=y;subst ep;obtain⟨rs,c,v⟩:=a7a (P:=X.prog) (w:=X.w) j;obtain⟨z,hd,x,u,dd⟩:=c7X k.hok e;cases u;refine⟨rs,c,dd,λh' f hs=>mM ?_ t⟩;have r:CK (KQ a3T [] qL):=by
  rw[GJ h1 (a2o qL []) List.length_nil h1];rw[AB sizeLine_eq (lq 0x22e45cc7d9b978485a3ff7e71566 lk h1)]
 have m:∃q,C8K q:=CLS q hq f (ABF hq)
 exact a5q k B44 hs m (c3E r hd (v.merge .nil) f)
structure M1(X:Cx)(o:Expr)(m:Str)(qN:Pos)(e:Expr)(qM:Pos):Prop where
 base:cW m
 few:LQ (BJF fD
  && EJ4 fD)
 line:TL
 trees:backTo qM C1L=BOB pM
structure M2(X:Cx)(o:Expr)(m:Str)(qN:Pos)(e f:Expr)(qM:Pos):Prop where
 base:cW m
 few:LQ (BJF A0Y
  && EJ4 A0Y)
 line:TL
 trees:backTo qM (YH A0Y)=D01 pM (RA f)
noncomputable def IsD(H:Hp)(a:qE):Prop:=(∃qL,CC9)∨∃qL,CCA
def b4e(I:AL)(d:IsD H a) :
  E19/\(∀b,VX AYO b->∃c,B78 c/\MY c.dict)/\A93:=by
 rw[EC7 d e e]
 rw[FLC vs DMR]
 rw[FLC xs DMS]
section
variable {d:V}{r:qB}
def d0r(m:wC)(I:AL)(g:AS8)(f:NL)(h:∀i s',AA5->CB7 .non i->rZ i) :
  E17 [CM,u]:=by
 rw[ATR d d j]
 .subst d;rw[B5B];rw[FIW (meets_dict_get B4N a D3I hd) EDT]
 .subst d;rw[B5G f];rw[FIW (meetsH_dict_get D8V a b hd) ⟨tupleKind_room_in1 m,k,xs,a1y I.hok j,dd,BYD⟩]
def d0q(p:wC)(I:AL)(g:AS8)(j:NL)(i:RelV d r)(h:∀m s',AA5->CB7 d m->rZ m) :
  E17 [CM,u,r]:=by
 rw[ATR f f n]
 .subst f;rw[B5B];rw[FID (meets_dict_get_default B4N a (a4E j) hd r) EDT]
 .subst f;rw[B5G j];rw[FID (F3A meetsH_dict_get_default) ⟨tupleKind_room_in1 p,k,xs,EFR,dd,BYD⟩]
#where
noncomputable def b8F(td ty:TE):TE:=DAQ (∃o,CFE/\Q (o.getD .non) H2)
noncomputable def b8E(td ty tx:TE):TE:=EUP (∃o,DGet H3 a y o/\Q (o.getD z) H3)
section
variable {o f:Expr}{qN qM:Pos}{td ty tx:TE}
def b9G(l:A38)(k:A3E)(j:C8A)(m:FIR):DR (BDS fD) E2R:=by
 rw[FCX k w q n w];rw[COY q t v (b4e c d) t v (thn (A5N j c n) λz s2 ⟨y,H2,f,r,A,g,p⟩=>D3K)];exact d0r l f g r λC B i b=>aA _ i b p
def b9F(r:A38)(q:A3E)(n:C8A)(p:EER)(m:E3N):DR (BDS A0Y) E29:=by
 rw[FCX q F A t F];rw[COY A D E (b4e c d) D E (ADZ n c t (λJ s2 (aA y j B v) =>
  EAX p j v G L ⟨z,i,k,C,K,g,w⟩))]
 exact d0q r k g B C λN M l b=>⟨_,i,l,b,w⟩
#where
section
variable {qL:MQ}
#where
#where
universe L2
namespace Att
open PySem PySem.W PySem.Calls PyProof.Rows
section
variable {prog:qG}{w:World}{A:Around}{E:qH}{s:qC}{K:Frag}
#where
universe Att
namespace L2
open PySem PySem.Spec PyProof.Rows
section
#where
section
section
variable {P:qG}{w:World}{K:qF}{mg:BF}{base:Heap}
#where
section
variable {X:Cx}
#where
section
variable {κ:Type}[ARN]
def b0o{qL:LJ}{k:κ}(h:ATC):¬EOY:=by
 intro m;rw[DI p a e List.mem_map.mp m];have q:CKY:=ZB List.any_eq_true.mpr p a A22;rw[V1,h]at q;rw[DT q AF]
def b4Q{qL:LJ}{k:κ}{v:V}(h:C7D):EOY:=by
 have q:CKY:=by
  rw[V1,h]
  all_goals rfl
 rw[DI p a e List.any_eq_true.mp q];exact List.mem_map.mpr ⟨p,a,oF⟩
def a9m:∀{l:qA κ}{k:κ},l.Nodup->¬k∈l->(l++[k]).Nodup
 |[],k,_,_=>AF
 |a::r,k,h,b=>by
  rw[BCS];show(a::(r++[k])).Nodup;rw[DE9 ⟨LR m,a9m h2 λm=>b (DDR Or.inr m)⟩];rw[OZ B9G]
  .exact h1 q
  .exact b (DDR Or.inl (bS List.mem_singleton.mp q))
#where
#where
section
open PySem.W
variable {A:Around}{D:AOV}{E:qH}{O:KeyOrd}{Q:bW qJ}{X:Cx}{a ep i j k lo n:Nat}{a0 qQ:AS}{d:qE}{es:A25}{h:Heap}{key x:Keyed}{l rest:NK}{left:Bool}{prog:qG}{rss:LLI}{runs:uO}{s:qC}{st st':SortSt}{vs:AN}{w:World}{α:Type}{κ:SortKind}
section
variable {key:DHR}{N:Nat}{p:vG}
noncomputable def kk(key:DHR)(p:vG)(i:Nat):O.α:=key (p[i]?.getD 0)
noncomputable def PB(N:Nat)(p:vG):Prop:=p.Perm (List.toArray (List.range N))
#where
def I9:∀a:qI,t8 a a
 |[]=>rfl
 |EX=>by rw[F2 HT.lexLt_cons EK I9 xs]
def a1Y:∀a b c:qI,E4L->E4M->E4N
 |[],[],_,h,_=>XS
 |EY,[],_,h,_=>XS
 |_,EY,[],_,h=>XS
 |[],EY,EY,_,_=>rfl
 |EX,HX,z::zs,h1,h2=>by
  rw[HT.lexLt_cons]at h1 h2⊢;rw[BI e1 x y]
  .rw[EA e1]at h1;rw[BI e2 y z]
   .rw[EA e2]at h2;rw[AB (B6M e1.trans e2) (a1Y xs ys zs h1 h2)]
   .rw[BD e2]at h2;rw[CG (PU (by rw[AB e1 e2])) e1 h2]
  .rw[BD e1]at h1;have h1:=of_decide_eq_true h1;rw[BI e2 y z]
   .rw[PU (by rw[JY e2 e1]),<-e2];rw[DPN]
   .rw[BD e2]at h2;have h2:=of_decide_eq_true h2;rw[AZ (BD (AAV 0x4657a03a9eed92c3b8e)) decide_eq_true (AAV 0xf8c34121c3b8e)]
def R6:∀a b:qI,t8 a b->E6W->iR
 |[],[],_,_=>rfl
 |[],EY,h,_=>XS
 |EY,[],_,h=>XS
 |EX,HX,h1,h2=>by
  rw[HT.lexLt_cons]at h1 h2;rw[FO x y]
  .rw[DB];rw[EK]at h1 h2;rw[R6 xs ys h1 h2]
  .rw[GA]at h1;rw[CER]at h2;rw[AC h1 (of_decide_eq_false h1) h2 (of_decide_eq_false h2)];omega
def c6f(a b c:qI)(h:E4N):E4L∨E4M:=by
 cases h1:HT.lexLt a b with
 |true=>exact .inl rfl
 |false =>
  rw[HI .inr];cases h2:HT.lexLt b a with
  |true=>exact a1Y b a c h2 h
  |false=>rw[JY (R6 a b h1 h2) h]
noncomputable def OL:KeyOrd:=⟨qI,HT.lexLt,I9,a1Y,c6f,R6⟩
noncomputable def G6(qO:LLI):Prop:=qO.Pairwise λa b=>E6W
noncomputable def c6g(fin:Bool):EL6
 |[],_=>fin
 |EY,[]=>fin
 |EX,HX=>BWX (c6g fin xs ys)
def b1y:∀(xs ys:qI),c6g (bX xs.length ys.length) xs ys=xN HT.lexLt
 |[],[]=>rfl
 |[],HX=>by
  show EO decide (0<ys.length+1);exact decide_eq_true DDI
 |EX,[]=>by
  show ZS (B6R<0);exact decide_eq_false (XW 21542613500661)
 |EX,HX=>by
  rw[HT.lexLt_cons];show OK (x=y) _ _=_;split
  .rw[<-xN b1y];congr 1;simp only[List.length_cons];exact decide_eq_decide.mpr AD
  .rfl
def b6P{c:Bool}{a b:Int}{t u:Tok}{Q:jG}(h:Q (decide (a<b)) s):F1 (oneLt' c ARS (.int b u)):=by
 cases c with
 |true=>exact oneLt_int h
 |false=>exact AG kat_one (lt_int h)
def b1D{b fin:Bool}{Q:jG}{a:AN}{ns ms:qI}(i:Nat)(h1:ADS)(h2:IntsAre a ms)(h:Q (c6g fin ns ms) s):eY KatLex A b fin Q (vs.zip a) i s:=by
 induction h1 generalizing a ms i with
 |nil=>exact h
 |cons x t f d=>cases h2 with
  |nil=>exact h
  |cons y u c =>
   rw[List.zip_cons_cons];rw[fE kat_cons wpAny_eqBool_int];have h:Q (BWX (c6g fin _ _)) s:=h;rw[FO x y]
   .rw[IP]at h;rw[AZ (show YJ x y from beq_iff_eq.mpr e) kat_yes (d AM c h)]
   .rw[GA]at h;rw[AB (show ATZ x y from beq_eq_false_iff_ne.mpr e) (kat_no (b6P h))]
noncomputable def TupsAre(h:Heap)(vs:AN)(rss:LLI):Prop:=vs.length=rss.length/\dQ v qB A88 (∃(r:qI) (b:qE) (its:CO),C9N/\C8J v/\BBD/\CHV)
def TupsAre.keeps{h':Heap}(t:AZ3 h)(k:∀b its,BBD->AWL h'):AZ3 h' :=
 ⟨t.1,QH v (CNY r b its (t.2 i v e) ⟨r,b,its,e1,e2,ALD e3,e4⟩)⟩
def b0r{h:Heap}:∀{vs:AN}{rss:LLI},AZ3 h->C7U->∃fs,KatTups h vs fs/\BZD fs.length/\∀f∈fs,∃n t,f=DXO
 |[],_,_,_=>JZ [] trivial ND
 |AAP,[],T,_=>by cases T.1
 |AAP,jN,T,hw=>by
  rw[ASF fs j (b0r (vs:=vs) (rss:=rss) ⟨by rw[A7W T.1],QH u (T.2 AM u e)⟩ λr c=>hw r B7Y)];obtain⟨q,b,its,e1,e2,⟨o,k,m,n,p⟩,d⟩:=T.2 0 v rfl;cases e1;have c:=AZZ hw;obtain⟨x,t,us,g⟩:∃x t us,its.toList=Value.int x t::us:=by
   generalize its.toList=l at d;cases d with
   |nil=>simp at c
   |cons x t h=>rw[BW x t _ rfl]
  refine⟨DP8::fs,⟨⟨b,o,its,n,e2,k,m,p,?_⟩,h1⟩,IF h2,ZX f⟩
  .rw[DDK g];rfl
  .rw[oW]
   .rw[AU x t rfl]
   .exact j f a
def b6p{Q:OH SortKind}(T:BCU)(hw:BAI)(a:C2A)(h:Q (tuples' true) s):F1 (DCZ keyKind'):=by
 rw[ASF fs b (b0r T hw)];refine kat_kind (T:=B2D) h1 (~~~c1c a h2) C7P rfl ?_
 .rw[dJ n t (b v a)];exact .now
 .rw[AB (ABJ (LQ (AX5 "int" != C9B))) h]
def a0U{a:qE}{out:CO}:AWD C2Y XF F50:=RX o c (by
 unfold sortedHeap;rw[AB (C3X c) (sC (u0 (C3X c)))])
def a2m{a:qE}{out:CO}(e:ZY (xE vs.toArray n)):∃c,RO F50 (xE out c):=by
 unfold sortedHeap;have f:BAV:=u6;obtain⟨e1,b⟩:∃e1,BY1 (EIL get?):=(EM (get?_update_seq e C2K));rw[FE5 (EIL push) (sC b)];exact EM (get?_update_seq d (D2 out))
def a6H{qK:DL}{σ:St}{H:Hp}(I:AL){ys:A0}{us:AN}(h:C4J)(r:AD4):TupsAre s.heap us rss:=by
 rw[EC (BUA CB) C72];have hi:i<ys.length:=by rw[r.length];exact A3K
 rw[XV e1 e2 (B6P r.get hi)];rw[cG e1 e1];obtain⟨b,c,a,d,f⟩:=B0S DK i hi;rw[AW d e2 e2];rw[B6E g j (EWO f)];exact⟨b,a,its.toArray,c,rfl,j,BQ (a2M g)⟩
noncomputable def Y9:Bool->Keyed->AS->Nat->Nat->Nat->AQ2:=sortPriv% PySem.Builtin.gallop
noncomputable def Z0(left:Bool)(key:Keyed)(qQ:AS)(base:Nat)(i:Nat):BJJ qD Bool:=do
 let x <-elem' qQ (base+i)
 if left then lt' x key else return (<-lt' key x).map (!·)
noncomputable def c6Z(left:Bool)(key:Keyed)(qQ:AS)(base n lo₀ hi₀:Nat):AQ2:=do
 let mut lo:=lo₀
 let mut hi:=hi₀
 for _ in [0:n] do
  if lo ≥ hi then break
  let m:=lo+(hi-lo) / 2
  let some more <-Z0 left key qQ base m|return none
  if more then lo:=m+1 else hi:=m
 return some hi
def b4g(left:Bool)(key:Keyed)(qQ:AS)(base n a:Nat):FIS=(Z0 left key qQ base a>>=λr=>match r with
 |AO right=>(if AY right then
   (FG0 AZ4 (a+RD) (match r with
     |AO more=>(A7U (uL more) BS0 (lU EH8))
     |_=>BH1) (match FN with
    |iX=>vQ
    |none=>CP5 (a+MX+1) (D3R RD)))
  else
   (FG0 lR (a-RD) (match r with
     |AO found=>(E8K found EH8)
     |_=>BH1) (match FN with
    |iX=>vQ
    |none=>CP5 (D8X RD) (a-MX))))
 |_=>DOX):=by
 rw[BYA r];cases r with
 |none=>rfl
 |some right =>
  dsimp only;refine ite_congr rfl mJ mJ
  .rw[lK (A9C c) c]
   .rfl
   rw[BCH]
  .rw[lK (A9C c) c]
   .rfl
   rw[BCH]
section
noncomputable def Cmp(prog:qG)(w:World)(A:Around)(s:qC)(κ:SortKind)(D:AOV)(lt:CJ7):Prop :=
 ∀x y (C:jG),D x->D y->C (lt x y) s->FU LM A (keyLt' κ ET dF) C AQ6 s
variable {lt:CJ7}
def a2Q{y:Keyed}{Q:B3C}(a:CN7)(c:KL)(d:D x)(e:D y)(h:B3Y DK9):HV (lt' x y):=by
 rw[lt'_eq];rw[uT];rw[gF c (wpS_lift (wpAny_attempt (cT (a x y (λb s'=>s'=s/\b=DK9) d e B04) (EI b s' ⟨e1,e2⟩) z z.elim)))];rw[AAZ];rw[AQ rfl (wpS_pure h)]
noncomputable def c4c(lt:CJ7)(left:Bool)(key x:Keyed):Bool:=if left then lt x key else !(lt key x)
def b2p{base:Nat}{Q:B3C}(b:CN7)(c:KL)(a:D key)(d:D x)(e:EIO)(h:B3Y FDD) :
  HV D62:=by
 unfold Z0;rw[elem'_eq,e];rw[rJ wpS_pure];rw[lP c4c];cases left with
 |true=>exact a2Q b c d a h
 |false=>exact wpS_bind (B6Q (a2Q b c a d) h)
def b5N(n:Nat):∃m,n / 2=m/\2*m<=n/\n<2*m+2:=HE _ AD AD
def b4M{base hi:Nat}(a:jD)
  (p:FBG a) (mono:BHI (EO a j) AZE) (neg:BHI AZD (KN a j))
  (h1:DWG) (h2:hi<=n) (z:uX lo AZE) (B:y8 hi NB AZD)
  (h:FBA AZE AZD):HV (CP5 lo hi):=by
 rw[B69 c6Z];rw[KC (AKZ (AMM (st'=st/\BP5 (l<=r/\r<=n/\r-l<=n-x/\CY9/\CZN r))
  (Q:=yP (st'=st/\∃l,c=bL l l/\l<=n/\CY9/\CZN l))) ⟨rfl,lo,hi,rfl,h1,h2,iZ 0x48cb712f83535be31e50b51a678d7d7,z,B⟩)]
 case fin =>
  rintro c st' ⟨rfl,l,r,rfl,o,d,t,f,g⟩;have e:l=r:= ~~~d1p o t
  rw[DB];rw[IO rfl l rfl d f g]
 case step =>
  rintro x c st' _ C ⟨rfl,l,r,rfl,o,d,t,f,g⟩;rw[BSR ECY]
  .rw[if_pos b];have e:l=r:= ~~~c2i o b
   rw[DB];rw[A0H (oA l rfl d f g)]
  .rw[if_neg b];rw[EZ m u y D b5N (r-l)];rw[u];clear u;have q:l+m<n:= ~~~lq 0x3944b8820e7d4842c3ebc41bd6e2f317037d8 d b y
   rw[ACI (p _ q ?_)];cases v:a (l+m)with
   |true =>
    rw[uK EK ⟨rfl,_,r,rfl,AR 0x40c104bd28b015d12ca3cb801d3c24d7 b y,d,AD,cJ (mono i _ DP7 q v),g⟩]
   |false =>
    rw[uK KJ ⟨rfl,l,_,rfl,C03,~~~c1P q,AD,f,EMA _ v⟩]
 case post =>
  rintro c st' ⟨rfl,l,rfl,d,f,g⟩;rw[A0H (h l d f g)]
def P0{base:Nat}(C:CN7)(G:KL)(y:D key)(d:jD)
  (t:BUS (∃x,EIO/\D x/\FDD=d i)) (mono:BHI (AI7 j) (AI7 i)) (u:a<n)
  (h:FBA (AI7 i) (KN d i)):HV FIS:=by
 have p:FBG d:=λi hi R hR=>by
  obtain⟨x,e1,e2,B⟩:=mH t;exact b2p C G y e2 e1 (AE B hR)
 have neg:BHI (KN d i) (KN d j):=λi j z F e=>by
  cases e2:d j with
  |false=>rfl
  |true=>rw[GM (mono i j z F e2)]
 rw[AD2 b4g (p a u ?_)];cases v:d a with
 |true =>
  rw[FFS EK (DVU (a+l<n) CY4
   (Q:=yP (BMN (a+l<n/\CY4/\(o ≥ AZ4∨KN d BU5))))) AD]
  case fin =>
   rw[FFI (BJ 0xe2a2d1d26169fd227c090346ae87cbc5f r)]
  case step =>
   rw[FM6 AZ4]
   rw[EPT]
   .rw[AD2 AO2 (p _ DQV ?_)];cases t:d BU5 with
    |true =>
     rw[FFW DQV]
    |false =>
     rw[uK (lL (by rfl)) DW8]
  case post =>
   rw[FJF (a+l+1) (D3R o) (AR 0x1fe90b5b81c42cadd04f6cf8200cb94aa32c72798 f g) 0xc14f121463995e29557949276d97 (cJ (mono i (a+l) DP7 g m)) CIM]
   .omega
   .exact neg BU5 i (AAV 0x4c991291fb9ffe4837e90c31cc8d0d8b18b18) h2 q
 |false =>
  rw[FFS KJ (DVU (l<=a) CY3
   (Q:=yP (BMN (l<=a/\CY3/\(o ≥ lR∨AI7 BUJ))))) C04]
  case fin =>
   rw[FFI (AR 0x17c4bb3a3078b24baf0cf97 u r)]
  case step =>
   rw[FM6 lR]
   rw[EPT]
   .rw[AD2 AO2 (p _ DXB ?_)];cases t:d BUJ with
    |true =>
     rw[uK EK DW8]
    |false =>
     rw[FFW (AO8 4044305397302)]
  case post =>
   rw[FJF (D8X o) (a-l) (BJ 0xa7913af410859b2f3fddb2bcda36c21cc55aeaffdb97 f) 0x5836850d16cd7d22d97 E4S (EMA (a-l) m)]
   .omega
   .exact mono i BUJ (AC5 0x12b267fc7e05e39232a97a3fd808fd17a32b79652d0bd7) DXB q
#where
section
variable {kf:DU}{la lb o:NK}{ia ib:Nat}
noncomputable def leK(kf:DU)(x y:Keyed):Prop:=EIU O.kle
noncomputable def ltK(kf:DU)(x y:Keyed):Bool:=EIU O.blt
structure MS(kf:DU)(la lb o:NK)(ia ib:Nat):Prop where
 perm:o.Perm (la.take ia++lb.take ib)
 sorted:C4Z
 ra:B82 o A1N
 rb:B82 o AMG
def a2c{l:CJ}{x:α}(h:A2J):l.drop i=x::C5L:=by
 rw[OY hi DGB];rw[List.drop_eq_getElem_cons hi,e]
def a1c(hs:AP8)(h:A2J):A79 C5L:=by
 rw[KP (hs.drop (i:=i)) (a2c h)];exact C3B List.pairwise_cons.mp
def a0r{l:CJ}{x:α}(h:A2J):l.take AM=C2P++[x]:=by
 rw[DHJ h]
def MS.stepA(h:A4E)(hs:A2W)(e:DY5)(c:DQI):E10 QS ib:=by
 rw[FZ d (x∈A1N) B7A List.mem_cons_self]
 rw[F5K]
 .rw[ANX];have:=h.perm.append_right US;rw[HI this.trans];rw[EF0 List.append_assoc List.perm_append_comm]
 rw[B4F h.sorted (BZ List.pairwise_singleton) (λz b y a=>AE uJ (h.ra z b x d))]
 .rw[FZ hy' (y∈A1N) B7A fS]
  rw[OZ B2G]
  .exact h.ra z q y hy'
  .rw[AB B9L E9V]
 .rw[OZ B2G]
  .exact h.rb z q y a
  .rw[AB B9L (c y a)]
def MS.swap(h:A4E):MS kf lb la o ib ia:=FD0
def MS.stepB(h:A4E)(hs:A2X)(e:gB lb ib)(a:DQH):E10 ia ON :=
 FDL
def MS.bulkA(hs:A2W):∀(k:Nat) {o:NK}{ia:Nat},A4E->ia+k<=la.length->(∀i x,i<k->B3J (ia+i)->DQI)->EPU la.drop ia gT ib
 |0,o,ia,h,_,_=>DK2 List.take_zero h
 |BX,o,ia,h,c,b=>by
  obtain⟨x,a⟩:∃x,DY5:=(EM (KA (AO7 0x16f807a4edb4615d7)));rw[SQ (h.stepA hs a (b 0 x DDI a)) (MS.bulkA hs k h1 (AO7 0x22a8bcca752f15d7) λi y hi e=>b AM y (AC5 4408654223766) (by rw[<-e];congr 1;exact c2m))];rw[a2c a,List.take_succ_cons];rw[List.append_assoc]at h2;rw[AB (show ia+A6L=QS+k by exact c2m) h2]
def MS.bulkB(hs:A2X)(h:A4E)(b:E0E ib)(a:∀i x,i<k->gB lb (ib+i)->DQH):EPU lb.drop ib ia (ib+k) :=
 (MS.bulkA hs k h.swap b a).swap
noncomputable def a4t(kf:DU)(la lb o:NK):Prop:=o.Perm (la++lb)/\C4Z
def MS.done(h:A4E)(hs:A2W)(b:ib=lb.length):BHE o A1N AMG:=by
 subst b;rw[BZT List.drop_length];rw[ER0 List.take_length]
 .refine GK a.append_right _ ?_;rw[List.append_assoc];rw[F3T]
 rw[E8F h.ra]
def MS.lastA(h:A4E)(a:A2W)(hs:A2X)(c:GR AMG (BEF A1N)):BHE o AMG A1N:=by
 rw[KG ?_]
 .have hp:=DDU (h.perm.append_right (lb.drop ib)) (la.drop ia);rw[HI hp.trans];rw[ED8 ia,List.take_append_drop,List.append_assoc];rw[F3T]
 .rw[EVD a.drop]
  rw[E8F h.rb]
  .rw[DN2]
   rw[BHG h.ra]
   rw[BHG c]
#where
noncomputable def a6m:EWC:=sortPriv% PySem.Builtin.mergeLo
noncomputable def a1U(g:Nat):DNW:=BEX (CLE AOQ B0A g)
noncomputable def X1(a b out:AS)(ia ib:Nat):AS:=out++EVZ++EW0
noncomputable def a2K(a b out:AS)(ia ib:Nat):AS:=out++EW0++EVZ
noncomputable abbrev T1:Type:=BGV×AS×Nat×ARJ
noncomputable abbrev T2:Type:=BGV×AS×Nat×Nat×ARJ
noncomputable def loD(a b out:AS)(ia ib mg k k1:Nat):C8U :=
 wO ia (λx =>
 if E8O then AQF EUC NJ QS ib
 else if EYI then AQF none NJ QS ib
 else EYU NJ QS ib)
noncomputable def loC(a b out:AS)(ia ib mg k bc:Nat):C8U :=
 A8R ib>>=λy =>
 if E5L then FAM
 else wO ia (λx=>Y9 true x b ON (b.size-(ib+1)) 0>>=λr =>
  match r with
  |AO k1=>(if k1 > 0 then
    (if D3B A98 then AQF (BOT CO9 A98) CO9 ia A98
    else CKB CO9 A98)
   else CKB OR ON)
  |_=>FAM)
noncomputable def loB(a b out:AS)(ia ib mg ac bc:Nat):C8U :=
 EZZ DT1 ia (a.size-ia) 0 (λr =>
 match r with
 |BKZ=>(if k > 0 then
   (if BTU (gT+1) then F1I (kY a2K B5O gT ib)
   else if BTU gT then F1I (kY X1 B5O gT ib)
   else A0A loC B5O gT ib bc)
  else FB0)
 |_=>LS (ENO,out,ia,ib,mg,ac,bc))
noncomputable def loA(a b out:AS)(ia ib ac bc mg:Nat):A78 T1 :=
 DT1>>=λy=>wO ia (E0D (λr =>
 match r with
 |AO bWins=>(if AY bWins then A8R ib>>=λy =>
   (if E5L then LS (D8I,OR,ia,ON,0,AIX)
   else if DZE then EQB OR ia ON
   else ER2 OR ia ON)
  else wO ia (λx =>
   (if E8O then LS (EUC,NJ,QS,ib,AIY,0)
   else if DZF then EQC NJ QS ib
   else ER3 NJ QS ib)))
 |_=>LS (ENO,out,ia,ib,ac,bc)))
def b1p(a b:AS):a6m a b=(do
 rule "list.sort.merge-lo"
 let y <-elem' b 0
 if (1==b.size)=true then pure (X1 a b #[y] 0 1)
 else if (0+1==a.size)=true then pure (a2K a b #[y] 0 1)
 else do
  let g <-get
  let r <-forIn [:a.size+b.size] ((none,#[y],0,1,gallopOf g):qD (Array Keyed)×Array Keyed×Nat×Nat×Nat) λ_ c=>do
   let r <-forIn [:a.size+b.size] ((none,c.2.1,c.2.2.1,c.2.2.2.1,0,0):T1) λ_ d=>loA a b d.2.1 d.2.2.1 d.2.2.2.1 d.2.2.2.2.1 d.2.2.2.2.2 c.2.2.2.2
   match r.1 with
   |some q=>pure (ForInStep.done (some q,r.2.1,r.2.2.1,r.2.2.2.1,c.2.2.2.2))
   |none=>do
    rule "list.sort.gallop"
    let t <-forIn [:a.size+b.size] ((none,r.2.1,r.2.2.1,r.2.2.2.1,c.2.2.2.2+1,r.2.2.2.2.1,r.2.2.2.2.2):T2) λ_ d =>
     if d.2.2.2.2.1 > 1 then loB a b d.2.1 d.2.2.1 d.2.2.2.1 (d.2.2.2.2.1-1) d.2.2.2.2.2.1 d.2.2.2.2.2.2 else loB a b d.2.1 d.2.2.1 d.2.2.2.1 d.2.2.2.2.1 d.2.2.2.2.2.1 d.2.2.2.2.2.2
    match t.1 with
    |some q=>pure (ForInStep.done (some q,t.2.1,t.2.2.1,t.2.2.2.1,t.2.2.2.2.1))
    |none=>do
     a1U (t.2.2.2.2.1+1)
     pure (ForInStep.yield (none,t.2.1,t.2.2.1,t.2.2.2.1,t.2.2.2.2.1+1))
  match r.1 with
  |some q=>pure q
  |none=>unsupported "internal:list.sort.merge-bound"):=by
 rw[FJD]
 .rw[lK (A9C d) r]
  .rfl
  .rw[BGF]
   .rw[E85]
    .rfl
    rw[AX2 r r]
   .rfl
 .rw[BGF]
  .dsimp only
  .rfl
def a5p(a:oG)(i:Nat):ANH a.extract i a.size=a.toList.drop i:=by
 rw[E6T];rw[C06 List.take_length]
def a6Q(a:oG)(i k:Nat):ANH a.extract i (i+k)=AZS a.toList.drop i k:=by
 rw[D4E List.extract_eq_drop_take]
def b1W(a b out:AS)(ia ib:Nat):F4B X1 C84 C8Z:=by
 rw[FA0 X1]
def b1C(a b out:AS)(ia ib:Nat):F4B a2K C8Z C84:=by
 rw[FA0 a2K]
section
variable {kf:DU}{a b out:AS}{ia ib:Nat}
noncomputable def Good(st st':SortSt):Prop:=ENL/\bF=arrOf st/\ENM/\ENN
structure Two(D:AOV)(kf:DU)(a b:AS):Prop where
 da:F4I a
 db:F4I b
 sa:bN a.toList.Pairwise
 sb:bN b.toList.Pairwise
 last:GR b.toList (∀x,gB a aL->C0O)
def a0N{z:Keyed}(hs:AP8)(e:A2J)(h:EGL):A59 (l.drop i) z y:=vR (by
 rw[B7A]at a;rw[oW]
 .exact h
 rw[AC7 h E9V])
noncomputable def MI(kf:DU)(a b out:AS)(ia ib:Nat):Prop:=CNE/\QS<a.size/\BZC ib
noncomputable def F9(kf:DU)(a b r:AS):Prop:=a4t kf a.toList b.toList r.toList
def a1Z(T:VO)(h:CNE)(hi:QS=a.size):ER4 a2K:=by
 rw[FE1 b1C h.lastA e d];rw[FZ c (ia<a.toList.length) Array.length_toList (lq 899327150885942 hi)]
 rw[List.drop_eq_getElem_cons c,AP9 List.drop_eq_nil_of_le Array.length_toList 0x5a832735f95836 hi,List.mem_singleton]at d;refine KeyOrd.kle_of_klt (T.last y (List.mem_of_mem_drop e) x ?_);rw[d,vP aL ia 0x1e85ad268dcc537cb72223fca7836 hi,<-Array.getElem?_toList,KA c]
def a2d(T:VO)(h:CNE)(hi:B1X ib):ER4 X1:=by
 unfold F9;rw[AB b1W (h.done T.sa (C0W Array.length_toList))]
def C7(hi:i<qQ.size){Q:bW Keyed}(h:∀x,OE qQ->OE qQ.toList->Q x st):HV (elem' qQ i):=by
 rw[elem'_eq];have e:CC qQ qQ[i]:=EH4 qQ;rw[uK e (h _ e (u0 Array.getElem?_toList))]
noncomputable def P2(kf:DU)(st:SortSt)(a b:AS)(c0:Nat)(c:T2)(st':SortSt):Prop:=ERE
noncomputable def Y2(kf:DU)(st:SortSt)(a b:AS)(c0:Nat)(c:T2)(st':SortSt):Prop:=E1N
noncomputable def R2'(kf:DU)(st:SortSt)(a b:AS)(c0:Nat)(r:AL3 T2)(st':SortSt):Prop:=BHY P2 Y2
variable {c0 mg k1 bc ac:Nat}
def b4F(T:VO)(g:QK)(h:BGB)(i:E75 ia (A79 C8Z))(c:BDJ):CCB (CKB out ib):=by
 unfold loD;rw[KC (EB (C7 (by rw[A9Y XM a2G])) x e1 e2)];have d:=(CB).stepA T.sa e2 (i x e2);rw[BC5 d]
 rw[AE8 a1Z d]
 .rw[F20 f ⟨d,by rw[MM XM 0x250058bd41fe53debd365014abc03f6 e],nF⟩]
  rw[AE9 f (YL DVI c1m c)]
  rw[ADA f (YL DVI c1m c)]
def gdK(a:AS)(hi:i<a.size):AO0 a a.getD:=by
 rw[Array.getD_eq_getD_getElem?,EH4 a];rfl
def a1W(hs:AP8){y:Keyed}(b:y7)(ex:A2J)(a:IZ l y):bG x y:=by
 rw[FO i j]
 .rw[DB];rw[AW ex a a];exact KeyOrd.kle_refl _
 .refine a1c hs ex y ?_;have:GD ((C5L)) (j-(AM)) y:=by rw[List.getElem?_drop,<-a];congr 1;rw[FX 0x163f80474bddf74183d66a7707c48b37893a8dbbd6 b e]
  rw[rY List.mem_of_getElem?]
def b4G(T:VO)(t:KM)(F:KL)(g:QK)(h:BGB)(G:BG3 ib (BEF C84))(n:BDJ):CCB FB0:=by
 unfold loC;rw[XV l c h];rw[A97 c];have p:=u.stepB T.sb e2 (G y e2);rw[BC5 p]
 rw[AE8 a2d p]
 .rw[BFB DWJ];rw[BH6 (~~~a2G l)];rw[vN (P0 t (B37 F) BD5 (E63 (ON+i)) (AMU EJ9 (AG T.db EJ9)) (A1M o B C) (A2A 0x24ffb9f21f587ded6a925544bb35996 e)) k1 q H I]
  .rw[F80 (i:=ON+i) (j:=ON+j) (BJ 0x20a831c11401f5d7 o) C]
   rw[BF3 (AR 0x14b61b69134b284fbaf45fa0d8d8 o B)]
   rw[BF3 (~~~b3V B)]
  .dsimp only;have f:∀(d:Nat),d=ON+k1->BZC d->∀x',B73 ia x'->A59 (b.toList.drop d) x' y:=λd e1 e2 x' ex'=>by
    rw[AW f2 ex' ex'];rw[A2P r (A7Y d (b.getD d WM)) (lZ e2)]
    refine a0N T.sb r ?_;have:=I k1 BV (AR 0x3573da4e8baea0a11cd3a2c8bb0fd8 e1 e2);rw[<-e1]at this;rw[QB]
   split
   .have hbk:=MS.bulkB T.sb (k:=k1) p (CAS 0xdeebf96bdec48cd6f0f702cc397 c q) λi z hi v=>by
     refine a0N T.sa f2 ?_;have:=mH H;rw[B9E (lZ (AR 0x3020d489f603c7239b7d29faaaa18 q hi)) v v];rw[rY KeyOrd.kle_of_klt]
    rw[F2X]
    .rename_i m;rw[A6Z (A6Y a2d hbk m)]
    .rw[BEQ m m (B1X A98) m];exact b4F T g ⟨hbk,l,F73⟩ (f _ rfl F73) (BJ 0x14135f7e47eb60c261b318 n)
   .exact b4F T g ⟨p,l,E71⟩ (f _ AD E71) (~~~c0u n)
def a0p{Q:B9U}(h:∀a,E5P->Q () a):xB D32 Q st':=by
 unfold a1U;exact wpS_modify (h _ D7V)
def Good.trans{st st' a:SortSt}(h:QK)(h2:E5P):Good st a:=⟨ELX,EHI,EPS,YW (B1Z h2) BZR⟩
def b4H(T:VO)(m:KM)(B:KL)(g:QK)(h:BGB)(q:BDJ):CCB (loB a b out ia ib mg ac bc):=by
 unfold loB;rw[v5 t c n];rw[EQY N L L];rw[A97 n];rw[vN (P0 m DXY BBT (E62 (ia+i)) (AMU DP9 (BNY DP9)) (A1M r J I) (AO7 0x111f92d7d95bab336)) k O K M]
 .have hle:bG (BRK (ia+j)) y:=by
   rw[CKH I I]
  rw[FHQ (i:=ia+i) (j:=ia+j) (~~~a9y r) (AR 0x6c34cde64573c518f124b58d8 r J) (~~~a8b J)]
 .dsimp only;have o:AY (D4U aL):=T.last y (A68 e2) _ (mI (AO7 0x7b192cbd0df46fcd1736));have d:ia+k<a.size:=by
   rw[DJ7 v];have:=K (aL-ia) (A2A 0x860be3fb038943a8225a50927759898b1a3737 v);rw[S1 (show ia+(aL-ia)=aL by rw[DG 0x165c41e36538380c7f01c51b82b3800ce784d15862bfdf04c63a204fd00275d69b08359ffab36 c]) o this this]
  have f:∀l,l=gT->∀C,A7Y ib C->AJ5 (a.toList.drop l) C x:=λl e C G=>by
   rw[iH G G];rw[A2P u (B73 l (a.getD l WM)) (mI (vI 0xd76c3fb776eb60f338998 e))]
   refine a0N T.sa u ?_;have:=M k BV (BJ 0x111f92d830307e997 d);rw[<-e]at this;rw[HI KeyOrd.kle_of_klt];rw[ECF]
  split
  .have hbk:=MS.bulkA T.sa k t (GS Array.length_toList c1P d) λi z hi H=>by
    refine a0N T.sb e2 ?_;have:=mH K;rw[B9E (mI (bV c2r d)) H H];rw[BRW];rw[BXI]
   rw[F2X]
   .rename_i p;rw[A6Z (A6Y a1Z hbk p)]
   .rw[BEQ p p (BWD gT) p];split
    rw[ECU F F F]
    .exact F9L ⟨hbk,vI 0x1524c619ee95c4cd99acfcf8291997 p,n⟩ DIT (BJ 0xb78c8db95f67d46eb318 q)
  .exact F9L ⟨t,c,n⟩ E4I q
noncomputable def P1(kf:DU)(st:SortSt)(a b:AS)(c0:Nat)(c:T1)(st':SortSt):Prop:=ERE
noncomputable def Y1(kf:DU)(st:SortSt)(a b:AS)(c0:Nat)(c:T1)(st':SortSt):Prop:=E1N
noncomputable def R1'(kf:DU)(st:SortSt)(a b:AS)(c0:Nat)(r:AL3 T1)(st':SortSt):Prop:=BHY P1 Y1
def c4l(T:VO)(n:KM)(p:KL)(g:QK)(h:BGB)(d:BDJ):A9H (loA a b out ia ib ac bc mg) R1' AZT:=by
 unfold loA;rw[v5 k f i];rw[A97 i];rw[BH6 DZQ];rw[rJ (a2Q n (DTK p) BBT BD5)];dsimp only;cases o:BRA with
 |true =>
  rw[gF EK (JQ C7 i q m c)];rw[iH c c];have j:=k.stepB T.sb e2 (CWA a0N T.sa f2 o);rw[BC5 j]
  rw[AE8 a2d j]
  .rw[AMZ DWJ l (AVQ OR ia ON) ⟨j,f,~~~c0M i e⟩]
   rw[AE9 l F3M]
   rw[ADA l F3M]
 |false =>
  rw[F3I KJ DZQ m];have j:=k.stepA T.sa f2 (a0N T.sb e2 o);rw[BC5 j]
  rw[AE8 a1Z j]
  .rw[F20 l ⟨j,AR 0x25005aad589e96bc586cbbe21818b36 f e,i⟩]
   rw[AE9 l F3N]
   rw[ADA l F3N]
def a0c{n:String}{Q:B9U}(h:Q () st):HV (liftM (rule n):DNW):=wpS_lift (wpAny_rule (DZ h))
def b0i(T:VO)(i:KM)(n:KL)(F:DGY)(t:C2B)(h0:BG3 0 (BEF a.toList)){Q:DLU}
  (q:FFM):DLI a6m:=by
 rw[b1p];rw[AM5];rw[A97 t];have j:tJ MS (EG6 toList) 0 1:=by
  have z:tJ MS [] 0 0:=⟨.nil,.nil,(BF1),BF1⟩;exact z.stepB T.sb e2 (λx o=>h0 y e2 x o)
 rw[F11]
 rw[EHU a2d]
 .rw[BFB (B1X 1)];split
  .rename_i e';rw[A0H (AJ q (A6Y a1Z j e') l)]
  .rw[F2W (BWD 0) (AMM (QK/\AGT BPA (fU<=fH+qX))
    (Q:=yP CXR)) ⟨j,by rw[iU (0+1<a.size) 0x3f1f6b07edf61984563a2ea45d F e'],by rw[iU (BZC 1) 0x149c8b704bc056e6ad5e745d t e]⟩ BV]
   case post =>
    rw[FJ3 K L]
   case fin =>
    rintro c st' ⟨g,e1,⟨_,h1,h2⟩,C⟩;exfalso;exact lq 0x1863c7cac5158f189d885fb29b560 C h1 h2
   case step =>
    rw[FEZ H o p (CZU Y1) P1 (AHC (fU+EH6<=fH+qX) 0x5e2362d1faf50e18db491d9537 p)]
    case f1 =>
     rw[BI6 (AR 0x13c41450789e9987774adb889ce6bbf48a761e56f5450ed40cf19 o h2)]
    case s1 =>
     rw[BI3 G];rw[B1O (c4l T i n g h1 (c0:=fU) (iZ 0x1fe6b2dfefbfa086a0948cda138938))];cases r with
     |done c'=>exact f
     | «yield» c'=>rw[F81 0x372c8bd72f0bef767af54a945aec3f8]
    case p1 =>
     rw[FBS]
     rw[BHN]
     .rw[FHG (CYB Y2) P2]
      case f2 =>
       rw[BI6 h2]
      case s2 =>
       rw[BI3 G];split
       rw[FJB]
       rw[FJB]
      case p2 =>
       rw[FBS]
       rw[BHN]
       rw[EOF J B (g.trans B)]
#where
section
variable {kf:DU}{la lb o:NK}{na nb:Nat}
structure MH(kf:DU)(la lb o:NK)(na nb:Nat):Prop where
 perm:o.Perm (la.drop na++lb.drop nb)
 sorted:C4Z
 ra:B82 B42 o
 rb:B82 AMF o
def a4A(hs:AP8)(h:A2J):B18 C2P:=vR (by
 rw[A20 (hs.take (i:=AM)) (a0r h) List.pairwise_append];exact BT0 y a x B75)
def MH.stepA(h:B4K (na+1))(hs:A2W)(e:B3J na)(c:DVQ):ETW:=by
 rw[FZ d (x∈la.take (na+1)) ANX (fM B75)]
 rw[F5K]
 .rw[F2 B7A List.cons_append h.perm.cons x]
 .rw[List.pairwise_cons];rw[AQ (vR (h.ra x d y a)) h.sorted]
 .rw[oW]
  .exact a4A hs e z b
  .exact h.ra z (AE ANX (UX b)) y a
 .rw[oW]
  .exact c z b
  .exact h.rb z b y a
def MH.swap(h:DYI):MH kf lb la o nb na:=FD0
def MH.stepB(h:kU MH o na (nb+1))(hs:A2X)(e:gB lb nb)(a:DVR):ETW:=FDL
def MH.bulkA(hs:A2W){a:Nat}:∀(k:Nat) {o:NK},B4K uC->a+k<=la.length->(∀i x,a<=i->i<uC->OE la->DVQ)->kU MH (F4T la.take) a nb
 |0,o,h,b,_=>by
  rw[Nat.add_zero,DL6 List.length_take c2w,List.nil_append];exact h
 |BX,o,h,b,d=>by
  obtain⟨x,c⟩:∃x,B3J uC:=(EM (KA (AO8 97488289198839255)));rw[SQ (MH.stepA (na:=uC) h hs c (d _ x C03 (XW 4205330760598) c)) (MH.bulkA hs k h1 (AO8 89194779731367383) λi y h1 h2 e=>d i y h1 (iZ 92315819697524503) e)];rw[show a+A6L=uC+1 by exact c2p,a0r c,AP9 List.drop_append_of_le_length List.length_take 0x149cc8f76c2794243ff015d7 b,List.append_assoc];exact h2
def MH.bulkB(hs:A2X)(h:kU MH o na uC)(c:E0E a)(b:∀i x,a<=i->i<uC->OE lb->DVR):kU MH (F4T lb.take) na a :=
 (MH.bulkA hs k h.swap c b).swap
def MH.done(h:B4K 0)(hs:A2X):BHE (la.take 0) AMF o:=by
 rw[List.take_zero,List.nil_append];rw[ER0 List.drop_zero]
 .rw[BWQ a];rw[<-List.append_assoc];refine rS (DE1 List.perm_append_comm) ?_;rw[List.append_assoc,List.take_append_drop]
 rw[B4F hs.take h.sorted h.rb]
def MH.firstB(h:DYI)(a:A2W)(hs:A2X)(c:GR AMF (BEF B42)):BHE AMF B42 o:=by
 rw[KG ?_]
 .rw[BWQ h.perm];rw[List.append_assoc,<-ED8 na,List.take_append_drop];rw[HI List.perm_append_comm.trans];rw[List.append_assoc];refine AI1 (List.perm_append_comm.trans ?_);rw[List.take_append_drop]
 .rw[EVD h.sorted]
  rw[B4F hs.take a.take c]
  .rw[DN2]
   rw[BHG h.rb]
   rw[BHG h.ra]
#where
noncomputable def a6n:EWC:=sortPriv% PySem.Builtin.mergeHi
noncomputable def X2(a b out:AS)(na nb:Nat):AS:=a.extract 0 na++b.extract 0 nb++out.reverse
noncomputable def a0R(a b out:AS)(na nb:Nat):AS:=b.extract 0 nb++a.extract 0 na++out.reverse
noncomputable abbrev U1:Type:=BGV×Nat×Nat×BM2 AS
noncomputable abbrev U2:Type:=BGV×Nat×Nat×AS×ARJ
noncomputable def hiD(a b:AS)(na nb:Nat)(out:AS)(mg k k1:Nat):C8T :=
 wO NI (λx =>
 if DU1 then AQF (ARV NJ NI) NI nb NJ
 else if EYI then AQF none NI nb NJ
 else EYU NI nb NJ)
noncomputable def hiC(a b:AS)(na nb:Nat)(out:AS)(mg k bc:Nat):C8T :=
 A8R KU>>=λy =>
 if E5K then F1H EUD
 else wO NI (λx=>Y9 true x b 0 KU (KU-1)>>=λr =>
  match r with
  |DEK=>(if B43 > 0 then
    (if YJ at_ 1 then F9I (kY a0R B5L na at_)
    else if DU0 then F9I (kY X2 B5L na at_)
    else A0A hiD na at_ B5L B43)
   else A0A hiD na KU OR B43)
  |_=>F1H (kY X2 OR na KU))
noncomputable def hiB(a b:AS)(na nb:Nat)(out:AS)(mg ac bc:Nat):C8T :=
 EZZ DT2 0 na NI (λr =>
 match r with
 |DEK=>(if BBR > 0 then
   (if DU0 then LS (ARV CN2 at_,at_,nb,CN2,mg,BBR,bc)
   else hiC a b at_ nb CN2 mg BBR bc)
  else EUI hiC BBR)
 |_=>LS (ARV out na,na,nb,out,mg,ac,bc))
noncomputable def hiA(a b:AS)(na nb:Nat)(out:AS)(ac bc mg:Nat):A78 U1 :=
 DT2>>=λy=>wO NI (E0D (λr =>
 match r with
 |AO aWins=>(if AY aWins then wO NI (λx =>
   (if DU1 then LS (ARV NJ NI,NI,nb,NJ,AIY,0)
   else if DZF then EQC NI nb NJ
   else ER3 NI nb NJ))
  else A8R KU>>=λy =>
   (if E5K then LS (EUD,na,KU,OR,0,AIX)
   else if DZE then EQB na KU OR
   else ER2 na KU OR))
 |_=>LS (ARV out na,na,nb,out,ac,bc)))
def b1q(a b:AS):a6n a b=(do
 rule "list.sort.merge-hi"
 let y <-elem' a (a.size-1)
 if (a.size-1==0)=true then pure (X2 a b #[y] (a.size-1) b.size)
 else if (b.size==1)=true then pure (a0R a b #[y] (a.size-1) b.size)
 else do
  let g <-get
  let r <-forIn [:a.size+b.size] ((none,a.size-1,b.size,#[y],gallopOf g):qD (Array Keyed)×Nat×Nat×Array Keyed×Nat) λ_ c=>do
   let r <-forIn [:a.size+b.size] ((none,c.2.1,c.2.2.1,c.2.2.2.1,0,0):U1) λ_ d=>hiA a b d.2.1 d.2.2.1 d.2.2.2.1 d.2.2.2.2.1 d.2.2.2.2.2 c.2.2.2.2
   match r.1 with
   |some q=>pure (ForInStep.done (some q,r.2.1,r.2.2.1,r.2.2.2.1,c.2.2.2.2))
   |none=>do
    rule "list.sort.gallop"
    let t <-forIn [:a.size+b.size] ((none,r.2.1,r.2.2.1,r.2.2.2.1,c.2.2.2.2+1,r.2.2.2.2.1,r.2.2.2.2.2):U2) λ_ d =>
     if d.2.2.2.2.1 > 1 then hiB a b d.2.1 d.2.2.1 d.2.2.2.1 (d.2.2.2.2.1-1) d.2.2.2.2.2.1 d.2.2.2.2.2.2 else hiB a b d.2.1 d.2.2.1 d.2.2.2.1 d.2.2.2.2.1 d.2.2.2.2.2.1 d.2.2.2.2.2.2
    match t.1 with
    |some q=>pure (ForInStep.done (some q,t.2.1,t.2.2.1,t.2.2.2.1,t.2.2.2.2.1))
    |none=>do
     a1U (t.2.2.2.2.1+1)
     pure (ForInStep.yield (none,t.2.1,t.2.2.1,t.2.2.2.1,t.2.2.2.2.1+1))
  match r.1 with
  |some q=>pure q
  |none=>unsupported "internal:list.sort.merge-bound"):=by
 rw[FJD]
 .rw[lK (A9C d) r]
  .rfl
  .rw[BGF]
   .rw[E85]
    .rfl
    rw[AX2 r r]
   .rfl
 .rw[BGF]
  .dsimp only
  .rfl
def a4n(a:oG)(i n:Nat):EI1 toList=(a.toList.take n).drop i:=by
 rw[E6T]
def b1X(a b out:AS)(na nb:Nat):F4C X2 C9C C8Y:=by
 rw[FIM X2]
def a9S(a b out:AS)(na nb:Nat):F4C a0R C8Y C9C:=by
 rw[FIM a0R]
def a3c(out:AS)(x:Keyed):(out.push x).toList.reverse=x::out.toList.reverse:=by
 rw[Array.toList_push,List.reverse_append];rfl
def b6e(out a:AS)(i n:Nat):(out++EI1 reverse).toList.reverse=(a.toList.take n).drop i++out.toList.reverse:=by
 rw[Array.toList_append,List.reverse_append,Array.toList_reverse,List.reverse_reverse,a4n]
section
variable {kf:DU}{a b out:AS}{na nb:Nat}
noncomputable def a8z(kf:DU)(a b:AS):Prop:=BG3 0 (GP a.toList C0O)
def a0J{z:Keyed}(hs:AP8)(e:A2J)(h:E0N):A59 (l.take AM) y z:=vR (by
 rw[ANX]at a;rw[CDF]
 rw[AC7 (a4A hs e y a) h]
 .rw[AB uJ h])
noncomputable def MJ(kf:DU)(a b out:AS)(na nb:Nat):Prop:=CL8/\1<=na/\2<=nb/\na<=a.size/\nb<=b.size
def a2e(T:VO)(h:CL8)(hi:na=0):ER5 X2:=by
 subst hi;unfold F9;rw[AZ b1X h.done T.sb]
def a0Q(T:VO)(F:ATA)(h:CL8)(hi:nb=1)(d:C2B):ER5 a0R:=by
 subst hi;rw[FE1 a9S h.firstB c f];rw[A2P e (A7Y 0 EIJ) (lZ d)]
 rw[ANX,List.take_zero,List.nil_append,List.mem_singleton]at c;rw[AZ c KeyOrd.kle_of_klt (F _ e x (List.mem_of_mem_take f))]
noncomputable def P4(kf:DU)(st:SortSt)(a b:AS)(c0:Nat)(c:U2)(st':SortSt):Prop:=ERF
noncomputable def Y4(kf:DU)(st:SortSt)(a b:AS)(c0:Nat)(c:U2)(st':SortSt):Prop:=E1O
noncomputable def R4(kf:DU)(st:SortSt)(a b:AS)(c0:Nat)(r:AL3 U2)(st':SortSt):Prop:=BHY P4 Y4
variable {c0 mg k1 bc ac:Nat}
def b4I(T:VO)(g:QK)(h:BGK)(l:E75 NI (B18 C8Y))(c:BFU):A9H (A0A hiD na nb out k1) R4 c0:=by
 rw[BGQ hiD f i m];rw[KC (JQ C7 (EDW i) x e1 e2)];rw[F6I];rw[EVV l];have d:=f.stepA T.sa e2 (l x e2);rw[BC6 d]
 rw[AE8 a2e d]
 .rw[AMZ (n=0) j (AGM NJ n nb) (CLQ d e DQ6 m)]
  rw[AE9 j (YL F00 c2e c)]
  rw[ADA j (YL F00 c2e c)]
def b4J(T:VO)(F:ATA)(H:KM)(U:KL)(g:QK)(h:BGK)(O:BG3 KU (AJ5 C9C x y))(t:BFU):A9H (A0A hiC na nb out bc) R4 c0:=by
 rw[BGQ hiC J C d];rw[CJD d];rw[FH6];rw[EVV O];have v:=J.stepB T.sb e2 (O y e2);rw[BC6 v]
 rw[EHT v C80]
 .rw[BFB (m=1)];rw[BH6 (EDW C)];rw[vN (P0 H (B37 U) BD5 (E63 (0+i)) (AMU EJA (AG T.db EJA)) (A1M u o S) (iZ 0x5bc2574b0e696d8c3d7d)) c L W Q]
  .rw[F80 (i:=0+i) (j:=0+j) (~~~c1i u) S]
   rw[BF3 (~~~lq 0x16235fda71aa69d5a6238 d u o)]
   rw[BF3 (~~~b3H d o)]
  .dsimp only;have p:1<=c:=by
    rw[W0 Nat.pos_of_ne_zero z];have:=Q 0 (BJ 0x597588f4813525 z) (iZ 0x705c58315d7d);have R:=F EIJ (BPV (lZ C80)) x (A68 f2);rw[TU Nat.zero_add];rw[AW R this this]
   have f:∀x',B73 NI x'->∀l,l=c->A59 (b.toList.take l) y x':=λx' ex' l B=>by
    rw[AW f2 ex' ex'];rw[cB n K (∃n,l=CW) (l-1) (AR 0x5d799888913182bf1d83171079d8a6e p B)];rw[K];rw[A2P G (A7Y n (b.getD n WM)) (lZ (~~~lq 0x2ad6683c64bdf6af751c1fc373239 d L B K))]
    refine CKS G ?_;rw[T6 (W n (AR 0x32c5198c6338de6357 B K)) Nat.zero_add]
   split
   .rw[FFA o m m L];have q:tJ MH (EV7 b.toList.take (out.push y).toList.reverse) na c:=by
     rw[o]at v;refine MH.bulkB T.sb v (CAS 0x17c4bb318d7f0761bc21a38 d o) (DQ i z V P N);rw[C43 (Q i V (~~~c2d o P))];rw[B9E (lZ (~~~lq 0x11742858ea0f3d0835a7bb221a39 d o P)) N N];have I:bG x (b.getD i WM):=this;have:=a0J T.sa f2 I;rw[vA (vP (NI+1) na 0x5e20d502b831f1a108d3048e6d h1)]
    rw[<-o,<-b6e]at q;split
    .rename_i r;rw[A6Z (a0Q T F q (eq_of_beq r) C80)]
    .rw[BEQ r r (c=1) r];split
     rw[ECU M M M]
     rw[F6D q (AR 0x1f18cbb1ec0893f2fd348e6d p r) (vI 0x1aee9e029f53c337421a38 o) rfl (AR 0x76c136ff75f24258d802f1940071f971e5db t o)]
   rw[F6D v (VD 0x17f38e159058a0dbc9bdd889b26e6 e L p) DP6 AD (BJ 0x66a26de2f2ac59a147b1e5d9 t)]
def b4K(T:VO)(F:ATA)(o:KM)(B:KL)(g:QK)(h:BGK)(r:BFU):A9H (EUI hiB ac) R4 c0:=by
 rw[BGQ hiB p l u];rw[EQY S N N];rw[CJD u];rw[vN (P0 o DXY BBT (E62 (0+i)) (AMU EJI (BNY EJI)) (A1M t k J) (zP c1Z)) c M Q R]
 .have hle:bG (BRK (0+j)) y:=by
   rw[CKH J J]
  rw[FHQ (i:=0+i) (j:=0+j) (~~~c1i t) (VD 0xca67fea8a183c7a15d8 l t k) (~~~b3A l k)]
 .dsimp only;have f:∀d,d=c->∀G,A7Y KU G->AJ5 (a.toList.take d) x G:=λd e G H=>by
   rw[iH H H];rw[DB];rw[BI K d 0]
   .rw[CG K List.take_zero ND]
   rw[cB n rfl (∃n,d=CW) (d-1) (~~~c7K K)];rw[A2P v (B73 n (a.getD n WM)) (mI (AR 0xc5b0d291a35d7 l M))]
   refine a0J T.sa v ?_;rw[C43 (Q n B6F)];rw[BRW];rw[BXI]
  split
  .rw[FFA k na na M];have m:tJ MH (EV7 a.toList.take out.toList.reverse) c nb:=by
    rw[k]at p;refine MH.bulkA T.sa j p (CAS 0xd94fd40e3240437d937d8 l k) (DQ i z P L I);rw[C43 (R i P (~~~c2d k L))];rw[B9E (mI (VD 0x9f93ba085bf9096fa16b4137d9 l k L)) I I];have C:O.klt (kf y) (EIV a.getD):=by
     rw[ECF]
    have:=CKS e2 C;rw[vA (vP (KU+1) nb 0x3f1f0b1fb2fa06efdcd304917d h2)]
   rw[<-k,<-b6e]at m;split
   .rename_i q;rw[A6Z (A6Y a2e m q)]
   .rw[BEQ q q (c=0) q];exact FAG g (CLQ m q (AR 0xf63c8017f9d941f937d8 l k) u) DIT (AR 0x43dc1f6d67f825e267f3fb8654ed9d8a99b r k)
  .exact FAG g ⟨p,h1,h2,l,u⟩ E4I r
noncomputable def P3(kf:DU)(st:SortSt)(a b:AS)(c0:Nat)(c:U1)(st':SortSt):Prop:=ERF
noncomputable def Y3(kf:DU)(st:SortSt)(a b:AS)(c0:Nat)(c:U1)(st':SortSt):Prop:=E1O
noncomputable def R3(kf:DU)(st:SortSt)(a b:AS)(c0:Nat)(r:AL3 U1)(st':SortSt):Prop:=BHY P3 Y3
def c4m(T:VO)(F:ATA)(p:KM)(r:KL)(g:QK)(h:BGK)(d:BFU):A9H (hiA a b na nb out ac bc mg) R3 AZT:=by
 rw[BGQ hiA j l i];rw[CJD i];rw[BH6 (~~~b3L h1 l)];rw[rJ (a2Q p (DTK r) BBT BD5)];dsimp only;rw[F6I];rw[FH6];rw[Nat.add_sub_cancel]at e1 e2 f1 f2⊢;rw[Nat.add_sub_cancel];cases q:BRA with
 |true =>
  rw[F3I EK (~~~b3v l) o];have f:=j.stepA T.sa f2 (CKS e2 q);rw[BC6 f]
  rw[AE8 a2e f]
  .rw[AMZ (n=0) k (AGM NJ n (m+1)) (CLQ f e (~~~a3Y l) i)]
   rw[AE9 k F48]
   rw[ADA k F48]
 |false =>
  rw[gF KJ (JQ C7 (~~~b3v i) t o c)];rw[iH c c];have f:=j.stepB T.sb e2 (a0J T.sa f2 q);rw[BC6 f]
  rw[EHT f (~~~a9B i)]
  .rw[AMZ (m=1) k (AGM OR CW m) ⟨f,h1,AO6 0x366b64775d0f02e93b1bc3d7d e,l,DQ6⟩]
   rw[AE9 k F49]
   rw[ADA k F49]
def b0j(T:VO)(F:ATA)(i:KM)(n:KL)(p:DGY)(t:C2B){Q:DLU}
  (q:FFM):DLI a6n:=by
 rw[b1q];rw[AM5];rw[A97 E4R];have j:tJ MH (EG6 toList.reverse) aL b.size:=by
  have z:tJ MH [] (aL+1) b.size:=by
   refine⟨?_,.nil,(EM0),EM0⟩;rw[CG (E4P Array.length_toList 21300584710917) (DL6 Array.length_toList c0K) .nil]
  exact z.stepA T.sa e2 (λx u=>DCX (T.last x (List.mem_of_mem_take u) y e1))
 rw[F11]
 rw[EHU a2e]
 .rw[BFB (aL=0)];split
  .rename_i e';rw[A0H (AJ q (a0Q T F j (DCW e') t) l)]
  .rw[F2W (b.size=1) (AMM (QK/\AGT BPB (MX+fH+(x+1)<=BKS))
    (Q:=yP CXR)) ⟨j,AHC (1<=aL) 0xc818c33e8de8deaaa782f47818c0a1a9168d7ae5 e,by rw[iU (2<=b.size) 0x1f18cbb1ec0893f2fd3dec5d t e'],YL (aL<=a.size) lq 0x5a802defc012e5,BV⟩ (AHC (aL+b.size+(0+1)<=_) 0x120447bb8c94f6fcd779e9105ec5e p)]
   case post =>
    rw[FJ3 L M]
   case fin =>
    rintro c st' ⟨g,e1,⟨_,h1,h2,_⟩,G⟩;exfalso;rw[DG 0x4ab1a8a6b7020069981ad03d5ee7198 G]
   case step =>
    rw[FEZ J u o (CZU Y3) P3 (AHC (MX+fH+(fU+EH6)<=_) 0x2058c3a48294721d6e7b75776d768541dd99 o)]
    case f1 =>
     rw[BI6 (iZ 0xd8b76864b3ba3949674a2ae7cf257df9be707ffa233fd51fa394803d99)]
    case s1 =>
     rw[BI3 H];rw[B1O (c4m T F i n g h1 (c0:=fU) (iZ 0xaf63bd5a60cd152a2cb863035dd4db55a3b4d9a))];cases r with
     |done c'=>exact f
     | «yield» c'=>rw[F81 0x12f551ed8a7ba60a799cf08cd6aab53fc4a6afd9a]
    case p1 =>
     rw[F4N]
     rw[BHN]
     .rw[FHG (CYB Y4) P4]
      case f2 =>
       rw[BI6 h2]
      case s2 =>
       rw[BI3 H];split
       rw[FBM]
       rw[FBM]
      case p2 =>
       rw[F4N]
       rw[BHN]
       rw[EOF K C (g.trans C)]
#where
noncomputable def b2I(qQ merged:AS)(sa:Nat):AS:=merged.toList.zipIdx.foldl (λa (p,j)=>a.setIfInBounds A2T p) qQ
noncomputable def mgC(sa:Nat)(merged:AS):C7B :=
 (BEX (CLE (b2I AOQ merged sa) B0A DLA))>>=D2 (get>>=λs=>hH (EDH s))
noncomputable def mgB(s:SortSt)(sa na sb nb:Nat):C7B :=
 EWD (sa+na-1)>>=λx=>Y9 true x AOQ sb nb KU>>=λr=>match r with
 |AO n=>(if AK7 n then DOV
  else if na<=n then FJS a6m
  else FJS a6n)
 |_=>DOW
noncomputable def mgA(s:SortSt)(sa na sb nb:Nat):C7B :=
 EWD sb>>=λy=>Y9 false y AOQ sa na 0>>=λr=>match r with
 |BKZ=>OK (AK7 DSL) DOV (mgB s (sa+k) DSL sb nb)
 |_=>DOW
def b1r(i:Nat):mergeAt' i=(get>>=λs=>match (DPD,EL3)with
 |(AO (sa,na,pw),AO (sb,nb,_))=>set (CLE AOQ (EXR (AF2 s setIfInBounds) (sa,na+nb,pw)) DLA)>>=D2 (mgA s sa na sb nb)
 |_=>liftM (unsupported "internal:list.sort.pending" : w6)):=by
 rw[BYA s];dsimp only;rcases DPD with _|⟨sa,na,pw⟩
 .rfl
 rcases EL3 with _|⟨sb,nb,pw2⟩
 .rfl
 rw[BPK _];rw[EOX mgA y k]
 .rfl
 rw[B6G B4C];rw[EOX mgB x n]
 .rfl
 rfl
def a8k:∀(l:NK) (qQ:AS) (sa j:Nat),A2T+l.length<=qQ.size ->
  ANH (AIW l.zipIdx j) (λa (p:Keyed×Nat)=>a.setIfInBounds (sa+HS) CU) qQ=qQ.toList.take A2T++l++qQ.toList.drop (A2T+l.length)
 |[],qQ,sa,j,h=>AF
 |AA8,qQ,sa,j,h=>by
  rw[List.length_cons]at h;rw[List.zipIdx_cons,List.foldl_cons,a8k l _ sa JL (BSY Array.size_setIfInBounds 0x1462514a6ccf82714dd98)];rw[Array.toList_setIfInBounds];rw[FZ b (sa+j<qQ.toList.length) Array.length_toList (lq 0x10c512092358975bd4dd98 h)]
  rw[List.length_cons,show sa+(j+1)=A2T+1 by exact c2p];rw[List.take_set,JP List.drop_set_of_lt];rw[List.take_succ_eq_append_getElem b,C0M (SD List.length_take)];rw[List.length_take,vP (A2T-min A2T qQ.toList.length) 0 0x190317181db82956778c98301ad47b7c72b751997 b];rw[B6C];congr 1;rw[PD 0x446a54bea122d4e97]
def b0L(qQ a:AS)(sa:Nat)(h:sa+a.size<=qQ.size):(b2I qQ a sa).toList=qQ.toList.take sa++a.toList++qQ.toList.drop (sa+a.size):=by
 rw[A20 (a8k a.toList qQ sa 0 (SD Array.length_toList)) Nat.add_zero Array.length_toList];rw[QB]
def c4k{M:Model}{σ:Type}{st a:σ}{Q:EL PUnit σ}(h:Q ⟨⟩ a):CQD M (set a:StateT σ Sem PUnit) Q st:=by
 unfold wpS;rw[u7 StateT.run_set (DZ h)]
section
variable {kf:DU}
structure Runs2(kf:DU)(D:AOV)(qQ:AS)(P LA LB R:NK):Prop where
 eq:qQ.toList=CMA++R
 d:E07
 sa:bN LA.Pairwise
 sb:bN LB.Pairwise
 na:0<LA.length
 nb:0<LB.length
variable {P LA LB R:NK}
def Runs2.atA(h:A3X)(hi:i<LA.length):qQ[DKB]?=LA[i]?:=by
 rw[<-Array.getElem?_toList,h.eq,List.append_assoc,List.append_assoc,C4C List.getElem?_append_right,B5Y (AC5 0xd94fa8b9f0c4a3f666797)];congr 1;exact c1u
def Runs2.atB(h:A3X)(hi:i<LB.length):qQ[eJ+i]?=LB[i]?:=by
 rw[<-Array.getElem?_toList,h.eq,List.append_assoc,D2G List.getElem?_append_right List.length_append 0xd01dd87d58e9397,AP9 List.getElem?_append_left List.length_append 0x7f6241d77eb0460beaa649bb98 hi];congr 1;rw[AZ List.length_append lq 0x33582e5d19de708aac6c3997]
def Runs2.dA(h:A3X):BTM LA:=ETB
def Runs2.dB(h:A3X):BTM LB:=ETB
def Runs2.size(h:A3X):qQ.size=CW1 eJ+R.length:=by
 rw[C06 h.eq];simp[Nat.add_assoc]
def Runs2.extA(h:A3X)(k:Nat):ANH qQ.extract uP eJ=LA.drop k:=by
 rw[a4n,h.eq,F0A,UT List.take_append_of_le_length];rw[DMD,List.drop_append,C4C List.drop_eq_nil_of_le,List.nil_append];congr 1;exact c1u
def Runs2.extB(h:A3X)(a:k<=LB.length):ANH qQ.extract eJ (eJ+k)=LB.take k:=by
 rw[a6Q,h.eq,List.append_assoc,UT List.drop_append_of_le_length,UT List.drop_eq_nil_of_le,List.nil_append,List.take_append_of_le_length a]
def b0k{pw a8:Nat}{Q:C5Z}(H:KM)(hk:KL)(h:CSL IG)(hp:AC0 CWM (CYN LA.length))(a6:CJO AM eJ LB.length a8)(hf:CA4)
  (q:∀(st':SortSt) (M:NK),BIW st'->BVM->pendingOf st'=F7L AM->a4t kf LA LB M->C7A=P++M++R->C9M):HV DHF:=by
 rw[b1r];rw[uT];rw[hp,a6];dsimp only;rw[rJ c4k];unfold mgA;rw[AC l (heq_of_eq h.size) I h.na];have p:=h.nb;generalize d:SortSt.mk' (kindOf st) IG (EXR D5U D6L) (gallopOf st) (failedOf st)=c;rw[dG k2 (BIW c) d hk]
 have a2:ATU c=arrOf st:=by rw[<-d]
 have p2:pendingOf c=F7L AM:=by rw[<-d]
 rw[dG f2 (BLL c) d hf]
 have C:EBQ=LA++LB->RZ LA (A79 LB)->Q true c:=GF a5 (by
  refine q c EBQ k2 f2 p2 ⟨.refl _,ZB List.pairwise_append.mpr h.sa h.sb a5⟩ ?_;rw[a2,h.eq];rw[B6C])
 rw[KC (EB (C7 (by rw[MM C3D 0x36485bc6a7aa81fea58eb2f358861 p])) y e1 _)];rw[dG ey (GD LB 0 y) (h.atB p) e1]
 have a1:v4 LB (bG y z):=a0N h.sb ey (KeyOrd.kle_refl _);have W:uX LA.length (GD ((IG)) DKB DQY/\AO0 LA LA.getD):=cJ (by
  have:AO0 LA LA.getD:=B9K UY
  rw[EX0 h.atA])
 have X:uX LB.length (GD ((IG)) (eJ+i) DQZ/\AO0 LB LB.getD):=λi hi=>by
  have:AO0 LB LB.getD:=B9K UY
  rw[EX0 h.atB]
 have B:∀{u v:Keyed},uL ((yN u v))->bG v u:=λ{u v} z=>by
  rw[CKH z z]
 rw[vN (F6F (A1W h.dB ey) (OS (!(yN y DQY))) W (A1W h.dA (BTB W)) I) k q1 q2 q3]
 .have:=KeyOrd.kle_trans (EZQ h.sa W (AA4 W a)) (B hb);rw[gN KeyOrd.kle];rw[sS ltK this]
 .dsimp only;have Z:AJ5 B89 x y:=u9 (by
   rw[BHC hx List.length_take];have o:=BTG C1I;have:=B (q2 j DZZ);have e2:=AA4 W o;rw[List.getElem_take]at e;rw[BI4 o]
   rw[AB e2 this])
  split
  .rw[FGT x hx (Z x ?_) a1 f];rw[AB (List.take_of_length_le (B7O 0xd1f5a4102f8f756)) hx]
  .rw[xO];replace e:k<LA.length:=Nat.lt_of_sub_ne_zero λz=>BK9;clear q1;have a3:GP C2X C0O:=u9 (by
    rw[BHC hx List.length_drop];rw[List.getElem_drop]at e;clear l p;have S:k+j<LA.length:= WR a8b
    have:=q3 DKF A71 S;have e2:=(W DKF S).2;rw[BI4 S]
    rw[e2];rw[fQ])
   unfold mgB;rw[KC (EB (C7 (by rw[MM C3D 0x1a85ca7454f87374fd1c6ad32eb29b0f20686f2caa8a023f3cb9a e])) x f1 _)];rw[vP (uP+(LA.length-k)-1) (P.length+(LA.length-1)) 0xbaf9df3614a880507a08743fc3a57266ee830a638a7d4ed7edfa46dfa0de8db05ffd0c1be622597f7a797 e]at f1;rw[dG ex (gB LA C1Q) (VW h.atA b3P I) f1]
   rw[XJ V z LA EGL z f (by
    have:=a0J h.sa ex (KeyOrd.kle_refl _) z;rw[cY (vP (C1Q+1) LA.length 0x5e20d502b831f1a108d30dec5d I) this];exact this f)]
   rw[vN (F6F (A1W h.dA ex) (OS (yN DQZ x)) X (A1W h.dB (BTB X)) E4R) n r1 r2 r3]
   .exact KeyOrd.klt_of_kle_of_klt (EZQ h.sb X (AA4 X a)) hb
   .dsimp only;rw[XJ O z B8C E0N z f (by
     rw[BHC f List.length_drop];rw[List.getElem_drop]at e;have U:n+j<LB.length:=by clear l I p;exact a8b a
     have:=r3 DKG A71 U;have e2:=(X DKG U).2;rw[BI4 U]
     rw[AB e2 this])]
    rw[XJ a4 z C30 (AY (yN z x)) z f (by
     rw[BHC f List.length_take];rw[List.getElem_take]at e;have o:=BTG C1I;have:=r2 j DZZ;have e2:=AA4 X o;rw[BI4 o]
     rw[AB e2 this])]
    split
    .rw[FGT u t (V u t) O ?_];rw[CG e List.drop_zero f]
    .rename_i Y;replace Y:0<n:=Nat.pos_of_ne_zero λz=>BMY Y;rw[AC L (h.extA k) N (h.extB r1)];generalize b0:A5B extract uP eJ=Xa at L;generalize b1:A5B extract eJ (eJ+n)=Ya at N;rw[AC sX (heq_of_eq (show Xa.size=B47 by rw[AI0 L List.length_drop])) sY (heq_of_eq (show Ya.size=n by rw[<-Array.length_toList,N,List.length_take,DWB]))];have T:Two D kf Xa Ya:=by
      refine⟨EJM,EJM,AE L h.sa.drop,AE N h.sb.take,BS z f u eu⟩
      rw[FDO h.dA List.mem_of_mem_drop k L]
      rw[FDO h.dB List.mem_of_mem_take n N]
      .rw[N]at f;rw[<-Array.getElem?_toList,L,List.getElem?_drop,DQM,show k+(B47-1)=C1Q by rw[DG 0x2c3a6e5b65142fa4d2128f050af385a0790afaa2d9f2c9de72e6d207e7f0a5148294a8196 e],ex]at eu;cases eu;exact a4 z f
     have F:a8z kf Xa Ya:=λz G u t=>by
      rw[N,DCV Y,ey]at G;cases G;rw[L]at t;exact a3 u t
     have fin:∀(r:AS) (b:SortSt),F9 kf Xa Ya r->Good c b->xB (mgC uP r) Q b:=λr b hr g=>by
      unfold mgC;obtain⟨J,a7⟩:=hr;rw[L,N]at J;have a0:=heq_of_eq (show r.size=B47+n by
       have:=J.length_eq;rw[List.length_append,List.length_drop,List.length_take,Array.length_toList,DWB]at this;rw[QB])
      rw[KC (wpS_modify (wpS_bind (fA wpS_get wpS_pure)))];show Q (EDH b) _;rw[B1Z g,f2];rw[XJ K z r.toList (z∈C2X∨z∈C30) z f (List.mem_append.mp (J.mem_iff.mp f))];refine q _ (B89++r.toList++B8C) (B37 k2) rfl (BU6 g p2) DJX ?_
      .refine GK (DDU (AI1 J)) _ ?_;rw[<-List.append_assoc (LA.take k),List.take_append_drop,List.append_assoc,List.take_append_drop]
      .have sAk:EMI B89 C2X:=by
        rw[ESG h.sa (List.take_append_drop k LA)]
       have a9:EMI C30 B8C:=by
        rw[ESG h.sb (List.take_append_drop n LB)]
       rw[List.pairwise_append,List.pairwise_append];rw[FK ⟨h.sa.take,a7,F5B⟩ h.sb.drop F5B]
       .rw[BM (K v hv)]
        .exact sAk u t v z
        rw[AC7 (Z u t) (ANI a1 v z)]
       .rw[BM DKE]
        rw[AC7 (ANI V u z) (O v hv)]
        .rw[BM (K u z)]
         rw[AC7 (V u (List.mem_of_mem_drop z)) (O v hv)]
         .exact a9 u z v hv
      .show(b2I (arrOf b) r uP).toList=_;rw[g.2.1,a2,JC b0L (by rw[DQL,C3D];clear l;rw[FX 0x389b56d0ffd076adb196f9cd26ebafa482b9a e r1]),h.eq,DQL];have e1:(CMA++R).take uP=P++B89:=by
        rw[List.append_assoc,List.append_assoc,List.take_append,C4C List.take_of_length_le,show uP-P.length=k by exact c1u,VW List.take_append_of_le_length a2I e]
       have e2:(CMA++R).drop E3U=B8C++R:=by
        rw[F0A,List.drop_append,E4P List.length_append 0x6b97cc26fa1de73a6eb216f98,List.nil_append,List.length_append,ABI (E3U-(eJ)=n) 0x27f0e3d4526f434cf2d19074fc04cf8e3e904e847afa7a798 e,List.drop_append_of_le_length r1]
       rw[AAZ];rw[B6C]
     split
     rw[FGO (b0i T H k2 (B28 sX (lq 0x9c8e632330fcf96 e)) EO7 (λz G u t=>DCX (F z G u t)))]
     rw[FGO (b0j T F H k2 (SD DQM) EO7)]
#where
section
variable {kf:DU}
noncomputable def kx(kf:DU)(qQ:AS)(i:Nat):O.α:=EIV qQ.getD
noncomputable def SoO(kf:DU)(qQ:AS)(lo m:Nat):Prop:=F9O CAC (A8U j)
noncomputable def NiO(kf:DU)(qQ:AS)(lo m:Nat):Prop:=F9O (A8U j) CAC
noncomputable def Kept(lo:Nat)(st st':SortSt):Prop:=ENL/\ENM/\ENN/\EQR/\uX lo (dI bF=dI IG)
def Kept.refl{lo:Nat}:Kept lo st st:=ACO rfl C0U D4A
def Kept.trans{lo:Nat}{st' a:SortSt}(h:A6X)(h2:DPB st'):DPB st:=⟨ELX,EHI,EPS,YW (UL h2) (UL h),cJ (AIZ (AZX h2) i hi (nF.2.2 i hi))⟩
noncomputable def AllD(D:AOV)(qQ:AS):Prop:=E07
def AllD.perm{a b:AS}(h:AllD D a)(p:b.Perm a):AllD D b:=λx c=>h x ((Array.perm_iff_toList_perm.mp p).mem_iff.mp c)
def a1x{a b:AS}(h:a[i]?=b[j]?):LP a i=LP b j:=by
 rw[ZW kx Array.getD_eq_getD_getElem? Array.getD_eq_getD_getElem? h]
def a0d{Q:B3C}(a:KM)(d:KL)(b:wV)(hi:i<sP)(c:j<sP)(h:B3Y (ALB (LP IG i) (LP IG j))):HV (ltAt' i j):=by
 rw[ltAt'_eq];rw[uT];rw[KC (C7 hi λx e1 f1=>wpS_bind (JQ C7 c y e2 f2))];rw[gdK _ hi]at e1;rw[AW (gdK _ c) e2 e1];cases e2;exact a2Q a d (A1W b f1) (A1W b f2) h
def b8o{src:Nat}{Q:B9U}(h:Q () (CXA (EL5 IG))):HV (moveDown' src a):=by
 rw[AZ moveDown'_eq wpS_modify h]
def a4d{src:Nat}(hs:src<qQ.size)(hd:a<=src)(i:Nat):LP (EL5 qQ) i=if i=a then B81 src else if a<i/\i<=src then B81 (i-1)else LP qQ i:=by
 have e:=getElem?_bubble hs D4I (XW 0x5a80e2fdd56156) i;rw[vP (src-(src-a)) a 0x201e5982c2a0b71559e72dcdf8752be8f64ce8cd6 hd]at e;split
 rw[ARQ c jE]
 .rw[BMR c A2E];split
  rw[ARQ c2 (EA c2)]
  rw[ARQ c2 (BD c2)]
def a5Y{l:Nat}(h:l<j)(h2:ACS):A1A<k:= AR 0x5b2a0e77ae39639125e34ee97 h h2
section
variable {l:Nat}(hs:AG5<qQ.size)(hd:l<=k)
include hs hd
theorem c3S(h:i<l):AOT qQ i=CAC:=by
 rw[CIW,BD (dZ 0x1df7dc1daffeaa6797),AA6]
theorem b4u:AOT qQ l=A8U k:=by
 rw[CIW,EK]
theorem b0b(h:l<i)(h2:B8P):AOT qQ i=A8U ((i-1)):=by
 rw[CIW,BD (dZ 0x1419483072f8f00397),AO3,Nat.add_sub_assoc (dZ 0x5a893d766eab96)]
#where
def b8p{ok:Nat}{Q:C5Z}(K:KM)(T:KL)(R:wV)(N:DTF)(L:ok<=n)(hs:B3M ok)
  (h:∀st',A6X->BLW n->C9M):HV (binarySort' lo n ok):=by
 rw[gF binarySort'_eq (AKZ (BMB (λk c st'=>D1D B49)
  (Q:=yP (D1D n))) ?init)]
 case post =>
  rw[CGO rfl f e];rw[A0H (h st' f e)]
 case init =>
  rw[FK rfl Kept.refl (AB1 o u)];rw[BI h1 ok 0]
  .have:i=j:= VD 0x8d9a90052f412929e2ffed465a7e4ecafebec5ce837d54fe18fc8d8 o u h1
   rw[A44 this]
  .exact hs i j o (AR 0x13302a8efe90729a1fabbb5e8aafa6f19e90d9ff4665c7640a17 u h1)
 case fin =>
  rw[CGO S f e];rw[OU S f];rwa[show min (max (max ok 1) n) n=n by rw[PD 0x8d0f6d605a149c2e3cc8f826125daa1840b6f78973a5f0603a1ea1e6]]at e
 case step =>
  rintro k c st' J z ⟨rfl,f,e⟩;rw[ABI (min k n=k) 0xbc719366d85f9c0361f196 z]at e;have y:AG5<AD5:=by have:=ARP f;exact lq 0x9f899a3bd11a39ad451be1ad99 N z this
  have H:=R.perm (UL f);have B:min BX n=BX:= BJ 0x366b99578181f59530f1fd996 z
  clear N L J z;rw[KC (wpS_mono (BMB (λx c a=>a=st'/\BP5 (l<=r/\r<=k/\r-l<=k-x /\
    D16 r))
   (Q:=λc a=>a=st'/\BP5 (l<=k /\
    D16 l)) ?istep ?ifin ?iinit) ?ipost)]
  case iinit=>exact⟨rfl,0,k,rfl,C04,~~~c0K,XW 0x1e69948f84c2df57c7b82d25,cJ AD,AKX AD⟩
  case ifin =>
   rintro c a ⟨rfl,l,r,rfl,C,t,G,q,p⟩;have:l=r:= ~~~d1p C G
   rw[iF];exact FGY
  case istep =>
   rintro x c a _ U ⟨rfl,l,r,rfl,C,t,G,q,p⟩;dsimp only;by_cases g:ECY
   .rw[if_pos g];have:l=r:= ~~~c2i C g
    rw[AY1 this FGY]
   .rw[BD g];rw[EZ m M F P b5N (l+r)];rw[M];clear M;rw[ACI (a0d K (YW hJ T) H AD (~~~lq 0x38a72cd9fb5cab5d4ca92cb8b48b9e9a79bcab499a y t g F) ?_)];cases v:ALB (eW ANS k) (eW ANS m)with
    |true =>
     rw[AOL EK ⟨rfl,l,m,rfl,A2B 0x127489703eb12d621bca8769c48d7 P,EYS 0x4b5dfb7be5d9a4d36baf1cc2b7037d8,AR 0x387847a810938a30d0fc6a7120dda90480291100b65bf2a7842fedd79e79781bae35e6b08326afbaee1d54f74b2b534ceb359 G F,q,CIM⟩];exact KeyOrd.kle_trans (KeyOrd.kle_of_klt v) (AJ e h1 h2)
    |false =>
     rw[AOL KJ ⟨rfl,m+1,r,rfl,A2B 0x606b4b6cc593c6bcb8b18824d7 F,AD,AR 0x62d27d49a3339666a7a001b003f6e7994a5a2dce8b441d2b2a570259f14e5ef086c5462bdfa142767c10f47cb1a1ae8dbdb359 G P,BH i h1,p⟩];exact KeyOrd.kle_trans (e i m (zP c1U) (EYS 0x4b5dfb7beba2ad6978b4cdc2b7037d8)) v
  case ipost =>
   rintro c a ⟨rfl,l,r,rfl,b,q,p⟩;rw[KC (B6Q b8o (eX (f.trans (ACO rfl (gH bubble_perm) E4S)) ?_))]
   .show dI (CTV ANS)=_;rw[getElem?_bubble y _ (XW 0x299b8fd6a1108c55c2936f97),BD (AC5 0x9c7e33aab955b22226518caea144b4f3d64d1b1e198),AA6]
   rw[B];clear B;intro i j o u;replace u:ACS:=Nat.le_of_lt_succ u;show yL (AOT ANS i) (AOT ANS j);rw[B6J (Nat.lt_trichotomy i l) c c]
   .rw[c3S y b c];rw[B6J (Nat.lt_trichotomy j l) d d]
    .rw[AB (c3S y b d) (e i j o (Nat.lt_of_lt_of_le d b))]
    .rw[AB CH6 (q i c)]
    .rw[AB CLF (e i A1A (Nat.le_sub_one_of_lt (Nat.lt_trans c d)) CHA)]
   .rw[CH6];rcases Nat.lt_or_eq_of_le o with d|rfl
    .rw[AB CLF (p A1A (Nat.le_sub_one_of_lt d) CHA)]
    .rw[AZ CH6 KeyOrd.kle_refl _]
   .have d:=Nat.lt_of_lt_of_le c o;rw[CG (b0b y b c (Nat.le_trans o u)) CLF (e (i-1) A1A (Nat.sub_le_sub_right o 1) CHA)]
#where
noncomputable def c3Z(lo a nrem:Nat):rX AscSt:=forIn [a:nrem] (xJ a:AscSt) λ_ c=>BBW DFM (lo+SF-1) (match r with
 |DEL=>(A7U (AY sm) (xJ SF) (lU (xJ (SF+1))))
 |_=>LS (AO none,SF))
noncomputable def a2q(lo n nrem:Nat):AQ2:=EMN>>=D2 (c3Z lo n nrem>>=λc=>match FN with
 |iX=>vQ
 |none=>BE8)
noncomputable def b5X(lo n nrem:Nat):rX DescSt:=forIn [n:nrem] (bL n 0:DescSt) λ_ c=>BBW AXW (lo+MX-1) (match r with
 |DEL=>(if AY sm then(if D3D then DAP EJ3 else EJ3)
  else BBW (lo+MX-1) AXW (match r with
   |AO lg=>E8K lg (bL (MX+1) (RD+1))
   |_=>BH1))
 |_=>BH1)
noncomputable def dpO(lo n nrem:Nat):AQ2:=EW8>>=D2 (b5X lo CW nrem>>=λc=>match FN with
 |iX=>vQ
 |none=>EH5 EPX EPX)
def b7I(lo a:Nat):countRun' lo a=(c3Z lo 1 a>>=λc=>match FN with
 |iX=>vQ
 |none=>(if YJ SF a then BE8 else if SF > 1 then BBW lo (lo+SF-1) (match r with
   |AO rose=>(BPN rose BE8 (BNV lo DFM>>=D2 EJL))
   |_=>DOX)
  else EJL)):=by
 have e:∀(n:Nat),(EMN>>=D2 (AQB c3Z>>=λc=>match FN with|iX=>vQ|none=>BE8))=AQB a2q:=λn=>rfl;rw[B62 countRun'_eq];rw[lK ?_ c]
 .rfl
 rcases c with⟨_|q,n⟩
 .dsimp only;have d:∀n:Nat,(EW8>>=D2 (b5X lo CW a>>=λc=>match FN with
    |iX=>vQ
    |none=>EH5 EJK EJK))=AQB dpO:=λn=>rfl
  have b:∀{β:Type}{m:rX β}{f g:β->AQ2},(∀c,f c=g c)->(m>>=f)=(m>>=g):=λh=>pQ (funext h);refine B4C λ_=>eR CAF _
  .rw[W0 b r];rcases r with _|r
   .rfl
   .rw[B6G B4C];rw[W0 b _];rw[<-d];rw[ADR]
    .rfl
    .rw[F7A]
     .rw[B6G CAF]
      .rw[W0 b _];rw[ADR]
       .rfl
       rw[BCG]
      .rw[ADR]
       .rfl
       rw[BCG]
     .rfl
  .rw[<-d];rw[ADR]
   .rfl
   .rw[F7A]
    .rw[B6G CAF]
     .rw[W0 b _];rw[ADR]
      .rfl
      rw[BCG]
     .rw[ADR]
      .rfl
      rw[BCG]
    .rfl
 .rfl
section
variable {kf:DU}
def a4c(a:DSM)(k:Nat):E41 (if B8P/\k<j then B81 (i+j-1-k)else DS1):=by
 have e:=getElem?_mirror_all (i:=i) a k;split
 rw[ARQ c jE]
 rw[ARQ c A2E]
def U8(b:DSM)(a:∀k,B8P->k<j->LP qQ k=B81 A1A)(k:Nat):E41 DS1:=by
 rw[a4c b];split
 .rw[a _ AD AD,a k AD AD]
 .rfl
def Kept.rev(hi:lo<=i)(a:j<=sP):D6M E31:=ACO rfl (oQ mirror_perm) (λk b=>by
 show(E31)[k]?=_;rw[getElem?_mirror_all a,AA6])
def b0m{b:Nat}{Q:bW AscSt}(r:KM)(v:KL)(t:wV)(q:ARO b)(p:1<=a)(f:a<=b)(hs:B3M a)
  (h:∀n,a<=n->n<=b->B3M n->(n=b∨EW1)->Q (xJ n) st):HV (c3Z lo a b):=by
 rw[BHA c3Z (AUV (st'=st/\c=xJ x/\B3M x)) ?fin (sN hs)]
 case fin =>
  rw[CGO rfl rfl d];rw[Nat.max_eq_right f]at d⊢;exact h b f BV d (.inl rfl)
 case step =>
  rintro x c st' k g ⟨rfl,rfl,d⟩;dsimp only;replace p:1<=x:=Nat.le_trans p k;rw[gF (show B3R=lo+BOF by clear q f k g;rw[DG 0xd2e9c3eeaa316adf1c189a8abfb4d5c74703958fcd657aca6e p]) (a0d r v t (A2B 0x427e8d7d5e90cc398 q) (A2B 0x5d84986f50ae6df186260dc548cc398 q) ?_)];clear q f;dsimp only;cases e:EMM with
  |true =>
   rw[uK EK (h x k (~~~a2I g) d (.inr e))]
  |false =>
   rw[AOL KJ (sN (AB1 m u))];by_cases o:j<x
   .exact d i j m o
   .rw[CFM u o]
    rw[BEP l]
    .rw[A44 l]
    rw[AC7 (d i A1A (~~~c2g m l) (~~~c1Z p)) e]
def a5u(e:KM)(o:KL)(k:wV)(d:ARO a)(h1:aQ)(b:n<=a)(hs:E7Q)
  (h:COK a):HV (AQB a2q):=by
 unfold a2q;rw[rJ wpS_reverse];have c:E90:=AKQ Kept.rev (~~~c2b d b);rw[KC (b0m e (YW FN o) (k.perm qX) (AE DTL d) h1 b (AB1 f l) λm p q r _=>wpS_pure (h m _ c (AGO 88870131167231598 p) q r))];show yL (eW B5P i) (eW B5P j);have g:DTF:= ~~~c2b d b
 rw[a4c g,a4c g];clear d h1 b g;rw[AO3,AO3,ESS i ((B7D-i)),ESS j ((B7D-j))];exact AJ hs (BJ 0x4c827d8b823336a35f881e13c6226979409ce812082ddc7565c7fc7b0d6c2cf7b6f8242e1339d7 f) (BJ 0xa39d60f3830f1a821ee8387c0e3b2e97 l)
def b6j{d:Nat}{Q:bW DescSt}(H:KM)(K:KL)(N:wV)(M:ARO d)(h1:aQ)(B:n<=d)(hs:E7Q)
  (h:∀m a st',A6X->n<=m->m<=d->AKF bF m->lR<=m->DAG A28 A28 (lo+m-1)->A80 (bL m a)):HV (b5X lo n d):=by
 rw[BHA b5X (AUV (∃a,c=bL x a/\A6X/\AKF bF x/\lR<=x /\
   DAG AJV AJV B3R)) ?fin (TQ 0 Kept.refl hs AD (AKX (by congr 1;rw[ADQ 0x3c4412843342640a04f4823d2cb393855e1cc0f2f649856817c9b881c197])))]
 case fin =>
  rintro c st' ⟨a,rfl,b,g,v,F⟩;rw[Nat.max_eq_right B]at g v F⊢;exact EN1 d B BV g v F
 case step =>
  rintro x c st' o e ⟨a,rfl,b,g,v,F⟩;dsimp only;rw[FZ z (AJV<AD5) (ARP b) (Nat.lt_of_lt_of_le (Nat.add_lt_add_left e lo) M)]
  have G:=N.perm (UL b);replace e:x<=d:=Nat.le_of_lt e;have ex:HEq B3R (lo+BOF):=heq_of_eq (by clear M h1 B o e z;rw[DG 0x2ef12cfed0c26c3bc06bd0c604ee7275257286b8807fcc9fb0237 v]);have l:B3R<AD5:=Nat.lt_of_le_of_lt (BZ Nat.sub_le) z;clear M h1 B;rw[ACI (F5V z l)];rw[AWO ex]at F l⊢;cases u:EMM with
  |true =>
   rw[EK];have y:∀xs:AS,(∀k,LP xs k=LP bF k)->AKF xs fU:=by
    intro xs K i j q L;rw[K,K];by_cases r:j<x
    .exact g i j q r
    .rw[CFM L r]
     rw[BEP p]
     .rw[A44 p]
     .exact KeyOrd.kle_trans (KeyOrd.kle_of_klt u) FBE
   by_cases f:C48
   .rw[gF C33 (B6Q wpS_reverse (FKN (b.trans (Kept.rev (by clear z l ex o e f;exact c2G v) (Nat.le_of_lt z))) (U8 (Nat.le_of_lt z) (λk P R=>B28 ex (F k P R)))))]
   .rw[AZ (BD f) wpS_pure (FKN b A73)]
  |false =>
   rw[AD2 KJ (F5V l z)];clear z l;cases t:ALB BUD BUC with
   |true =>
    rw[AB EK (wpS_pure (EN1 x o e g v (B28 ex F)))]
   |false =>
    rw[KJ];have C:BUC=BUD:=KeyOrd.kle_antisymm t u;clear o e;rw[BSX (TQ lR b (AB1 q L) (BJ 0x22619215c9f82a36 v) CIM)]
    .by_cases r:j<x
     .exact g i j q r
     .rw[CFM L r]
      rw[BEP p]
      .rw[A44 p]
      .rw[AB C FBE]
    .rw[show lo+(x+1)-1=AJV by rw[PD 0x48d032331e493b7434f8c15d6]];rw[BI J i AJV]
     .subst J;rfl
     .rw[AB C (F i (B7P 0x196d6b7cfa6b909dc418023e934a254b785c315d8) (AO6 0xc15037c66930220f80cb70dcde17 J))]
def b4L(e:KM)(t:KL)(z:wV)(q:ARO a)(u:CW<=a)(hs:AKF IG CW)
  (h:COK a):HV (AQB dpO):=by
 unfold dpO;rw[AM5];rw[ACI (b6j e t z q A9Q u hs λm k st' b F f p v B=>?_)];have x:=heq_of_eq (ARP b:AD5=sP);rw[FZ g (A28<=AD5) C21 (rV (Nat.add_le_add_left f lo) q)]
 have o:=z.perm (UL b);by_cases d:k > 0
 .rw[EA d];have c:DVD (setArr st' (mirror bF (A28-A6L) A28 ((A28-(A28-A6L)) / 2))):=Kept.rev (~~~c2G v) g;rw[EEH (F55 (AJQ FN (AJQ LG t)) (o.perm qX) (GU DTL C21 q) (AB1 r C) (h y l (b.trans (c.trans k2))))];show yL E37 E37;rw[CG EOZ EOZ (p i j r C)]
 .rw[AB (BD d) (F55 (YW LG t) o (AE C21 q) p (h y l (b.trans k2)))]
def b2o{c:Nat}(p:KM)(u:KL)(H:wV)(v:ARO c)(h1:1<=c)
  (h:COK c):HV (countRun' lo c):=by
 rw[AD2 b7I (b0m p u H v (Nat.le_refl 1) h1 (λi j g z=>by have:i=j:=(A2B 0xa094c5a5635664e6918d6 z);rw[A44 this]) (DQ n l b q G))];rw[BI a n c]
 .rw[AZ (lL (by rw[BZZ])) wpS_pure FI1]
 .rw[PU (by rw[BZZ])];have B:EW1:=G.resolve_left a;replace a:CW<=c:= ZJ c2h b
  clear G b h1;replace b:=Nat.le_of_succ_le a;have r:YX<sP:=Nat.lt_of_lt_of_le (Nat.add_lt_add_left a lo) v;rw[nZ (n > 1)]
  .rw[AD2 IP (a0d p u H (BJ 0xd20045e3fb6d997 r) (BJ 0x9f93b901297e04c77b530d1997 r) ?_)];have ex:YX-1=lo+(n-1):=by clear v a b r;rw[DG 0x788557cf61c5a34abbc211c1427ff51c59b748fcd65842b6e e]
   rw[ex];cases y:ALB (LP IG lo) BVQ with
   |true =>
    rw[uK EK FI1]
   |false =>
    rw[KJ];have x:=v;clear v;have d:∀k,k<n->eW IG k=BVQ:=by
     intro k u;clear r a b ex;rw[AC L (q 0 k GH u) M (q k B7D (BJ 0x9c8dc589d0d2196 u) (B7O 0x23298a70e5171a9ef6d))];exact KeyOrd.kle_antisymm M (KeyOrd.kle_trans y L)
    have C:∀k,LP B5P k=LP IG k:=U8 (Nat.le_of_lt r) λk K P=>by
     rw[ex];clear r a b ex x;have:=d (k-lo) (~~~b3S K P);rw[vA (show lo+(k-lo)=k by exact b5w K)]
    have o:E90:=AKQ Kept.rev (Nat.le_of_lt r);rw[EEH (b4L p (AAM o u) (H.perm (UL o)) (AE (ARP o) x) a EM8 λN J k2=>h N J (o.trans k2))];show yL E38 E38;rw[C,C];clear r a b ex x l;by_cases t:iA
    .rw[F2 (d i (~~~b3C g t)) (d j t) KeyOrd.kle_refl _]
    .have hj':j=n:= ~~~a9D z t
     rw[BEP f]
     .rw[A44 f]
     .rw[AZ (d i (~~~c1S g f)) KeyOrd.kle_of_klt B]
  .rw[GA];have F:n=1:= AR 0x1f18e9ec0b79bc248fb4166d l e
   subst F;refine b4L p u H v a EM8 h;clear r a b v l e;rw[BI f i j]
   .rw[A44 f]
   .have hi0:i=0:= ~~~lq 0x2057e1c4fa8b324e8ebe677e87c4347558d6 g z f
    have I:j=1:= VD 0xa44f6d1fe186111ccec317735cc00870c860e6 z f hi0
    subst hi0;rw[fF I KeyOrd.kle_of_klt B]
#where
noncomputable def a4U:Nat->uO->EE4
 |_,[]=>[]
 |o,BA2=>(o,r.length)::a4U CDV rs
def X9:∀(o:Nat) (X Y:uO),a4U o (X++Y)=a4U o X++a4U (o+X.flatten.length) Y
 |o,[],Y=>IF a4U
 |o,r::X,Y=>by
  simp only[List.cons_append,a4U,X9 CDV X Y,List.flatten_cons,List.length_append,Nat.add_assoc]
def a6i:A1V o X uO (KQ a4U o X=X.length)
 |_,[]=>rfl
 |o,r::X=>by simp only[a4U,List.length_cons,a6i CDV X]
noncomputable abbrev ent(e:ARJ):DWM:=(e.1,e.2.1)
section
variable {kf:DU}
structure RI(kf:DU)(κ:SortKind)(a0:AS)(st:SortSt)(runs:uO)(rest:NK):Prop where
 kind:KL
 failed:CA4
 perm:(arrOf st).Perm a0
 eq:C6I=runs.flatten++rest
 sorted:qV runs C50
 ne:qV runs AXA
 pend:BQD toList.map ent=a4U 0 runs
def RI.size(h:BEB):DN1=runs.length:=by
 rw[<-Array.length_toList,<-EYD,h.pend,a6i]
def a4w{X Y:uO}{ra c:NK}{Q:C5Z}(k:KM)(G:BGG)(h:A5X st (X++ra::c::Y))
  (q:∀(st':SortSt) (M:NK),A5X st' (X++M::Y)->M.length=ra.length+c.length->C9M):HV (mergeAt' X.length):=by
 have t:=h.pend;rw[X9,a4U,a4U]at t;obtain⟨e,N,j,e1,e2⟩:=List.map_eq_append_iff.mp t;obtain⟨x,O,v,g,B⟩:=List.map_eq_cons_iff.mp e2;obtain⟨y,H,C,i,p⟩:=List.map_eq_cons_iff.mp B;subst v C;obtain⟨I,J,u⟩:=x;obtain⟨K,L,o⟩:=y;rw[Nat.zero_add]at g i p;have g:(I,J)=(X.flatten.length,ra.length):=g;have i:(K,L)=(EBC,c.length):=i;rw[gM g i];have a:e.length=X.length:=by rw[<-EYD,e1,a6i]
 have g1:CJO X.length X.flatten.length ra.length u:=by
  rw[F79 b3u F4E]
 have F:CJO D28 EBC c.length o:=by
  rw[F79 c1x F4F]
 have b:Runs2 kf D IG X.flatten ra c (Y.flatten++rest):=by
  refine⟨?_,λz m=>(G.perm h.perm) z m,DWW,DWW,DWX,DWX⟩;rw[h.eq];rw[B6C]
 refine b0k k h.kind b g1 F h.failed λst' M k1 k2 k3 n k5=>?_;rw[lF d M.length CFZ n.1.length_eq List.length_append]
 refine q st' M ⟨k1,k2,?_,?_,ANO l,ANO l,?_⟩ d
 .rw[HI Array.perm_iff_toList_perm.mpr];refine List.Perm.trans ?_ (Array.perm_iff_toList_perm.mp h.perm);rw[k5,b.eq];refine DE1 ?_;rw[AB (List.append_assoc X.flatten) (AI1 n.1)]
 .rw[k5];simp[List.append_assoc]
 .rw[EFE]
  .exact h.sorted r C6P
  .rw[u8 uA]
   .exact n.2
   .exact h.sorted r DLS
 .rw[EFE]
  .exact h.ne r C6P
  .rw[u8 uA]
   .have:=h.ne ra AF;rw[QE 0x29589d39557d1b8a683cb17 d]
   .exact h.ne r DLS
 .rw[k3,Array.eraseIdxIfInBounds];have m:DN1=X.length+(Y.length+2):=by rw[L1 h.size]
  rw[AP9 dif_pos Array.size_setIfInBounds 0xb8aac9891cd2039e5117 m,Array.toList_eraseIdx,Array.toList_setIfInBounds,j];rw[C0M (WR b3u),F4E,List.set_cons_zero];rw[VW List.eraseIdx_append_of_length_le c1x a,F4F];show FE (e++(X.flatten.length,CFZ,u)::H) ent=_;rw[List.map_append,List.map_cons,e1,p,X9,a4U,Nat.zero_add,d];show _++(X.flatten.length,CFZ)::_=_;rw[Nat.add_assoc]
#where
noncomputable def a5h(lo n:Nat):DQG :=
 (BEX (setPending s (AF2 s push ESP)))>>=D2 (lU D3P)
noncomputable def a1E(sz pw:Nat):DNX :=
 FFH (match DB5 with
  |AO (_,_,older)=>(A7U (older<=pw) cC (F8J A0X))
  |_=>DJH)
noncomputable def a2O(sz lo n:Nat):DQG:=get>>=λg=>match D7N with
 |AO (s1,n1,_)=>a1E sz FGL>>=λc=>match FN with
  |iX=>LS (iX,lo)
  |none=>(BEX (setPending s ((pendingOf s).modify (AUQ s-1) λx=>(ET,cD,FGL))))>>=D2 CH9
 |_=>CH9
noncomputable def b5F(sz:Nat):DNX :=
 (FFH (if BJO<=1 then DJH
  else F8J (if bU Option.any (λx=>bX x ((BRB (A0X+1)).elim 0 λx=>cD)) (if A0X > 0 then Option.map (λx=>cD) (BRB (A0X-1)) else none) then A0X-1 else A0X)))
section
variable {kf:DU}
def two_last{l:CJ}(h:2<=l.length):∃X a b,EYZ bD B3L:=by
 refine⟨l.take B3L,DWS,DWT,?_,GS List.length_take lq 0x540f9bc5ace134bff1e68f78c9ecbf65f1a930d54e28e44a3c95852c868a5⟩;have e1:l.drop B3L=[DWS,DWT]:=by
  rw[DG5,List.drop_eq_getElem_cons (dZ 0x5bc2574b96245182517d),A4Y List.drop_eq_nil_of_le 0x67ca5af3423a405];congr 2;congr 1;rw[DG 0x12f595d9a28554586c60db3aabe07fdb89502517d h]
 rw[D24 e1]
def a8A{sz:Nat}{Q:DLV}(f:KM)(g:BGG)(h:BEB)
  (q:∀st' a,AKR->D51->D4J->A80 cC):HV (a1E sz i):=by
 rw[BHA a1E (λ_ c st'=>c=cC/\∃a,AKR/\D51/\D4J) (λc st' k=>by obtain⟨e,d,h1,h2,b⟩:=k;rw[AB e (q st' d h1 h2 b)]) (GZ rfl runs h BV)];rintro x c st' _ _ ⟨rfl,d,h1,h2,b⟩;rw[uT];split
 .rename_i older heq;split
  rw[FDK]
  .have hz:C6R > 1:=by
    rw[DJ7 z];rw[AW (BD (BJ 0x9df33abe10e5 z)) heq heq]
   have hs:=h1.size;obtain⟨X,ra,m,e1,e2⟩:=two_last (l:=d) (AR 0x46579576673d8fe5f6e hz hs);rw[e1]at h1;rw[gF (show C6R-2=X.length by rw[FX 0xfcd762529b6398a2260ea5b68cd61004465d95dbc1b69c6d58c5f957 hs e2]) (a4w f g h1 (BS j M k1 k2))];rw[AOL KJ (nA rfl k1 ?_ ?_)]
   .rw[<-h2,e1];simp[k2]
   .rw[e1]at b;simp at b⊢;rw[DG 0xb4cbcdad2e3a6 b]
 rw[FDK]
def a4v{Q:EHV}{r:NK}(h:ETO)(e:C50)(d:0<n)(c:A74)(a:DSO)
  (q:∀st',A5X st' (runs++[r])->EWS):HV CH9:=by
 unfold a5h;rw[KC (B6Q wpS_modify (q _ ⟨h.kind,h.failed,h.perm,?_,E4T,E4T,?_⟩))]
 .show C6I=_;rw[L1 h.eq]
 .rw[EVG]
  .exact h.sorted z y
  .rw[AB DI5 e]
 .rw[EVG]
  .exact h.ne z y
  .rw[CG DI5 c d]
 .show(BQD push ESP).toList.map ent=_;rw[Array.toList_push,List.map_append,h.pend,X9,Nat.zero_add,a,<-c];rfl
def map_modify{p:VQ ARJ}:(p.modify i λx=>(ET,cD,a)).toList.map ent=p.toList.map ent:=by
 rw[Array.toList_modify];rw[A8V j];rw[List.getElem?_map,List.getElem?_map,List.getElem?_modify];cases p.toList[j]? with
 |none=>rfl
 |some x =>
  rw[FO i j]
  .simp[e]
  .simp[e]
def b2q{sz:Nat}{Q:EHV}{r:NK}(e:KM)(j:BGG)(h:ETO)(i:C50)(g:0<n)(d:A74)(b:DSO)
  (q:∀st' a,AKR->a.flatten.length=YX->zW (runs.length+1)->EWS):HV DW6:=by
 unfold a2O;rw[uT];split
 .rw[ACI (a8A e j h (DQ st' a k1 k2 k3))];rw[rJ wpS_modify];rw[FD2 (BC a4v runs a rest rest ⟨k1.kind,k1.failed,k1.perm,k1.eq,k1.sorted,k1.ne,map_modify.trans k1.pend⟩ i g d (B29 k2))]
  .simp[k2,d,b]
  .simp;omega
 .rw[FD2 (a4v h i g d b)]
  .simp[d,b]
  .simp
#where
section
variable {kf:DU}
def c3X{l:CJ}(h:AM<l.length):∃X a b Y,EYZ (a::b::Y) i:=by
 refine⟨C2P,l[i],l[AM],l.drop (AM+1),?_,DZO 0x149c6c1f3faa75105eb66b36⟩;rw[<-DG5,<-VW List.drop_eq_getElem_cons a2G h,List.take_append_drop]
def b0l{sz:Nat}{Q:DLV}(j:KM)(l:BGG)(h:BEB)(m:CYW)
  (q:∀st' a,AKR->zW 1->A80 cC):HV (b5F sz):=by
 rw[BHA b5F (AUV (c=cC/\DAK AKR x)) (λc st' ⟨e,g,h1,h2⟩=>AI3 F95) (A8F runs h (BJ 0xb39fb5821a7d6 m))];rintro x c st' _ _ ⟨rfl,g,h1,h2⟩;rw[uT];have hs:=h1.size;split
 rw[BJM F95]
 .rename_i hz;have k:∀i,AM<g.length->xB ((DHF>>=λb=>if uL b then pJ ForInStep.done D6K else DXM):A78 AZ2) (EXO d (Q c' d) (c'=cC/\DAK (A5X d a) ((x+1)))) st':=λi hi=>by
   obtain⟨X,ra,p,Y,e1,e2⟩:=c3X hi;rw[e1]at h1 h2;rw[<-e2];rw[vN (a4w j l h1) o M k1 k2];rw[AOL KJ (A8F _ k1 ?_)];simp at h2⊢;rw[DG 0x2430271a7733860135b14a03b3d8 h2]
  refine wpS_mono (LZ ?_) (λr d n=>by rw[AYL n]);by_cases f:C6R-2 > 0
  .rw[EA f];split<;>omega
  .rw[CG (BD f) KJ (lq 0x1152e78527f51f7c4ea7b493a356 hs hz)]
def RI.kept(h:BEB)(k:CQX runs.flatten.length):A4X a0 st' runs ((arrOf st').toList.drop runs.flatten.length):=by
 refine⟨AAM k h.kind,BU6 k h.failed,YW (UL k) h.perm,?_,h.sorted,h.ne,AE k.2.1 h.pend⟩;have e:yA toList.take runs.flatten.length=runs.flatten:=by
  rw[A0J a (A5B toList.take runs.flatten.length=runs.flatten) h.eq List.take_left']
  rw[<-a];rw[A8V i];rw[List.length_take];rw[WZ hi runs.flatten.length]
  .have hle:runs.flatten.length<=A5B toList.length:=by rw[CG h.eq List.length_append a1r]
   rw[List.getElem?_take_of_lt (AR 0x178fd23175172dc861a2e97 hi hle),List.getElem?_take_of_lt hi,Array.getElem?_toList,Array.getElem?_toList];exact AZX k i hi
  .rw[AP9 List.getElem?_eq_none List.length_take 0xdcfbe2ccc8dcf372d58c0acfe98 hi,B6Z (by rw[AZ List.length_take c2A hi])]
 rw[<-List.take_append_drop runs.flatten.length C7A,e];congr 1;rw[YM List.drop_append_of_le_length,List.drop_length,List.nil_append]
def c4v(h:AV9 qQ n)(c:YX<=qQ.size):bN (AHP qQ.toList.drop lo n Pairwise):=by
 rw[FCZ a b];rw[List.length_take,List.length_drop,Array.length_toList]at hi a;have q:=h i j (Nat.le_of_lt b) DLT;unfold leK;have g:∀k,k<n->A8U k=kf (qQ[AG5]?.getD WM):=λk _=>B60 kx Array.getD_eq_getD_getElem?
 rw[g i (hY b3T),g j DLT,EFO (hY c7G),EFO (WR c7G)]at q;simp only[List.getElem_take,List.getElem_drop,Array.getElem_toList];exact q
def a5Q:∀{runs:uO},DF r runs AXA->CU3 runs.flatten.length
 |[],_=>BV
 |r::runs,h=>by
  have:=BFJ (a5Q (runs:=runs));have:=AZZ h;simp only[List.length_cons,List.flatten_cons,List.length_append];omega
def a7F{m m':rX α}{Q:bW α}(e:m=m')(h:HV m'):HV m:=AI3 h
def b0h{Q:B9U}(i:KM)(T:KL)(H:wV)(hp:pendingOf st=#[])(S:CA4)
  (q:∀st':SortSt,EQR->BVM->bN (yA toList.Pairwise)->A80 ()):HV sortRuns':=by
 rw[sortRuns'_eq];rw[uT];dsimp only;generalize M:sP=sz;have R:A4X IG st [] C6I:=cN T S C0U (A17) (A17) (XA hp);have N:FIL AD5:=λh=>AE h.perm.size_eq M
 have O:FIL (runs.flatten.length+rest.length):=λh=>by
  rw[B3Z h.eq];rw[Array.length_toList,N h,List.length_append]at this;rw[QL 0x5cd6b16710569b0fbb17]
 rw[KC (AKZ (AMM (FN=none/\∃runs rest,CZ7/\AXT SF/\x<=SF)
  (Q:=yP (FN=none/\DAZ st'))) (oA [] _ R rfl BV))]
 case fin =>
  rintro c st' ⟨e1,runs,rest,h1,h2,G⟩;have:=O h1;rw[F31 0x6529b3b04890bf838042651703e5e71f2ce7173558 G this];subst p;rw[BW e1 runs h1 (VC EB0)]
 case step =>
  rintro x c st' _ W ⟨e1,runs,rest,h1,h2,G⟩;rw[EOW];dsimp only at e1 h2 G⊢;subst e1;rw[AC u (O h1) C (N h1)];rw[nZ (lo ≥ sz)]
  .rw[IP];rw[F31 0x24b0ce514bb530b59bc27a3e85458 u e];rw[AY1 p (A8F runs h1 (by rw[MM EB0 0xb9c9360e155c3b542598 u]))]
  .rw[GA];have t:=H.perm h1.perm;have add:A1V n d SortSt (DVD d->0<n->YX<=sz->AV9 (ATU d) n->xB DW6 (EXO f (c'.1=none/\DAZ f) (c'.1=none/\∃runs rest,CVF f/\AXT c'.2/\fU<=c'.2)) d):=λn d l v y j=>by
    rw[h2]at l;have hR:=h1.kept l;rw[<-h2]at hR;have k:=N hR;rw[<-List.take_append_drop n (AEW d toList.drop lo)]at hR;refine b2q i H hR (c4v j (AR 0xd94fd4752f8c7a2a06d98 y k)) v (by rw[List.length_take,List.length_drop,Array.length_toList];rw[FX 0x27955d76ad6040c071aaca63367bfff227274b117dc6d98 y k]) h2 λF V k1 k2 k3=>oA V _ k1 k2.symm (by show fU<=YX;exact c7J G v)
   rw[ACI (b2o i h1.kind t (AR 0x48c5ac458b43aae1e07b64457 C e) (B7O 0x111f8206ed61294d6) (EE m d l K L j))];split
   .rw[AM5];have k:AEW d size=sz:=by rw[AB (ARP l) C]
    rw[KC (EB (b8p i (AAM l h1.kind) (t.perm (UL l)) (AR 0x2aff5f57733910419a10d723dc4cad2da4d8 e k) AD j) F J B)];rw[KJ];rw[FHA (BP0 (min (sz-lo) (minRun' sz sz 0))) (by
     rw[FHL]
     .rfl
     .rw[DDJ]
      rw[FKK]
      rw[BCH]) F (l.trans J) AD (B7O 0x1524a5fa4457de333217c0c09d08d7) B]
   .rw[FHA (BP0 m) (by
     rw[FHL]
     .rfl
     .rw[DDJ]
      rw[FKK]
      rw[BCH]) d l (BJ 4412211398253 K) (AR 0x24122acc624d835f927cfa4d7 e L) j]
 case post =>
  rintro c st' ⟨e1,runs,h1,h2⟩;rw[EOW];rw[BR0];dsimp only;rw[vN (b0l (sz:=sz) i H h1 h2) d U k1 k2];dsimp only;rw[BSX (q d k1.perm k1.failed ?_)];rw[BZT k1.eq]
  match U,k2,k1.sorted with
  |[],_,_=>rw[A0E]
  |[r],_,hs=>simpa using hs r AF
  |_::EY,k2,_=>simp at k2
#where
noncomputable def L4(h:Heap)(v:qB):qI:=match v with
 |GV=>match DFW with
  |AO o=>match o.data with
   |.seq xs _=>xs.toList.map numOf
   |_=>[]
  |none=>[]
 |_=>[]
def G2{b:qE}{its:CO}{r:qI}(t:BBD)(i:CHV):L4 h GV=r:=by
 rw[A0F h1 h2 n a t];unfold L4;simp only[h1,a];exact i.nums
def U6{β:Type}{f:DWD}{os ls:ABK}(h:os.Perm ls):∀{T:CJ},ls=T.map f->∃c:CJ,c.Perm T/\c.map f=os:=by
 induction h with
 |nil=>intro T e;cases T with|nil=>rw[AU [] .nil rfl]|cons _ _=>rw[CI]
 |cons x _ k =>
  intro T e;cases T with
  |nil=>rw[CI]
  |cons t T =>
   rw[ARL]
   rw[DI c h1 h2 k e2];rw[AU (t::c) (h1.cons t) (dE List.map_cons h2 e1)]
 |swap x y l =>
  intro T e
  match T,e with
  |a::b::T,e =>
   rw[ARL]
   injection e2 with e2 e3
   rw[AU (b::a::T) (.swap a b T) (by rw[List.map_cons,List.map_cons,e1,e2,e3])]
 |trans _ _ d g =>
  intro T e;rw[ZL h1 h2 (g e)];rw[DI T2 i j d h2.symm];rw[AU T2 (i.trans h1) j]
noncomputable def kfH(h:Heap):BIK OL.α:=λx=>(L4 h ET:qI)
noncomputable def DH(h:Heap)(x:Keyed):Prop:=∃b its r,C8J ET/\BBD/\CHV
def d1U:BIU D63 (DH s.heap) (ltK (kfH s.heap)):=by
 rintro⟨x,x'⟩ ⟨y,v⟩ C ⟨b,its,r,e1,h,d⟩ ⟨b',a,q,e2,i,e⟩ c;dsimp only at e1 e2;subst e1 e2;have c:C (HT.lexLt (AG8 L4 GV) (L4 s.heap (AI b'))) s:=c;rw[G2 h d,G2 i e]at c;rw[QP o l u n p];obtain⟨o',f,m,t,g⟩:=i;refine kat_lt l p f g (b1D 0 d e ?_);have j:its.size=r.length:=by rw[DHM d.length]
 have k:a.size=q.length:=by rw[DHM e.length]
 rw[j,k,b1y];exact c
def a2n{a:qE}{P:C3I}(m:RO s.heap.get? (xE vs.toArray n))(T:BCU)(hw:BAI)(hz:ABY)
  (h:FEF (D7E s.heap os.toArray)) :
  MV LM (Builtin.«list.sort» (MZ WI)) P:=by
 rw[list_sort_plain];have M:xS a:=Heap.lt_size m;rw[qY listItems_at m rfl];rw[AX (listUpdate_at m rfl ?_ (SD List.size_toArray) (Nat.zero_le _))];obtain⟨e1,p⟩:∃e1,BY1 (AY4 BM6 get?):=(EM (get?_update_seq m C2K));rw[CEQ p];rw[DB6 (wpAny_newTuple ?_ (y9 (vs.length<=_)))];rw[BU0];rw[FE5 BRP (by
  rw[CG (DJK (GU size_push' Heap.size_update (AX1 M))) (DJK (GS Heap.size_update Nat.ne_of_lt M)) p])]
 have g:D6O CNJ:=λb its ⟨o,B,l,L⟩=>by
  have R:C2Y:=λz=>by
   rw[S1 z m B B];have l:Value.type "list"=Value.type "tuple":=l;injection l with l
   rw[DT l AH]
  refine⟨o,?_,l,L⟩;exact sC (AE (C3X R) B)
 have G:=T.keeps g;show FU LM A _ P E (JV CNJ);have c:FP vs (L4 ((BRP BP7).push A63) v=L4 s.heap v):=λv V=>by
  rw[vX i hi V];rw[BYR C F (BVG T.2)];rw[e2,G2 C F,G2 (g b its C) F]
 generalize I:CNJ=k at d G c;dsimp only;have fin:FEF (DGP (CRQ os.toArray)):=λos h1 h2=>by
  have:=h os h1 h2;rw[gN sortedHeap];rw[AAC I]
 by_cases h2:vs.toArray.size<2
 .rw[MD h2' E3V h2]
  rw[C34,C34];rw[uM];rw[StateT.run_pure];rw[uM];dsimp only;rw[CEQ d];rw[FDN (by rw[Array.size_map];show(pairsOf vs).size<=_;rw[AZ pairsOf_size a0W hz])];rw[EVP];have e:((vs.toArray.zip vs.toArray).map (·.2))=vs.toArray:=by
   rw[C0B];simp[List.map_snd_zip]
  rw[pL _ _ (JV (DGP ((Obj.mapSeq λ_=>(vs.toArray.zip vs.toArray).map (·.2)))))];rw[A0N e (fin vs C0U ?_)];rw[FCZ X S];omega
 .have h2':2<=vs.length:=by
   have:¬E3V:=A8Q
   rw[QL 0x66c3a9712ba5]
  rw[BD h2,BD h2];rw[AX (b6p G hw (BJ 4412211399037 h2') ?_)];have H:AllD (DH k) (DCZ vs.toArray.zip):=λx u=>by
   rw[MD J (x∈vs.zip vs) u]
   obtain⟨_,U⟩:=mem_zip_self J;rw[vX i hi U];rw[BYR C F (G.2 i _ hi)];rw[IO b its r e2 C F]
  rw[AX (cT (BC b0h s (JV k) st (SortSt.mk' D63 (vs.toArray.zip vs.toArray) #[] 7 none) (kf:=kfH k) (D:=DH k) (d1U (s:=JV k)) rfl H rfl rfl
   (Q:=GF st' (yA Perm (vs.toArray.zip vs.toArray)/\BVM/\(arrOf st').toList.Pairwise (leK (kfH k)))) λst' B l L=>⟨B,l,L⟩) ?_ e e)]
  rintro⟨⟨⟩,st'⟩ s' ⟨rfl,O,N,hs⟩;dsimp only at O N hs⊢;have t:yA toList.Perm (vs.zip vs):=by
   have:=Array.perm_iff_toList_perm.mp O;rw[fQ]
  have q:((arrOf st').toList.map (·.2)).Perm vs:=by
   have:=t.map Prod.snd;rw[vA (YM List.map_snd_zip)]
  have f:GP C7A (ET=OQ/\ET∈vs):=λx u=>mem_zip_self (t.mem_iff.mp u);have e:FW arrOf st' (·.2)=AL4 (((arrOf st').toList.map (·.2))):=by
   rw[C0B];simp
  rw[CEQ d];rw[e];rw[FDN (by rw[F2 List.size_toArray q.length_eq a0W hz])];rw[N];rw[EVP];rw[UQ (fin _ q ?_)];rw[List.pairwise_map];rw[CZE u W K];rw[SQ (f x u) (f y W)];rw[<-h1.1,<-h2.1,<-c _ h1.2,<-c _ h2.2];exact K
def a5b{x:qB}{Q:qH}(g:FD4 q t l l vs (EPB q t))
  (T:BCU) (hw:BAI) (D:ABY)
  (h:∀(h1 h':Heap) (os:AN) (c:Nat),FGU (C29 h1.objs.size)) :
  EPP:=by
 rw[FM2 (HU (gH g) h1 k1) F G (AG k1 F) G z (by
  rw[FEI (List.mem_iff_getElem?.mp z)])]
 rw[FKV D33 D33 D u (F02 k1 B38 u j (EB9 B C))]
 rw[F57]
 .rw[<-DWV,<-d _ (j.mem_iff.mp C)];exact k
inductive rSortA(K:qF)(xs:A0)(H:Hp)(Q:VK):Prop
 |mk (p:qE) (ys:A0) (rss:LLI) (_:jI) (_:CHE) (_:C4J) (_:C7U) (_:∀l zs qO,A84->B4A->E3S->uV->zs.Perm ys->D5Z):eO rSortA
def a1P:∀{ys:A0}{us:AN}{rss:LLI},AD4->BLG rss.length->∃T:EE5,T.map (·.1)=us/\T.map (·.2.1)=ys/\T.map (·.2.2)=rss/\∀(i:Nat) t,CC T t->BS5/\CC ys AW8/\A81 A6I
 |[],us,rss,r,e=>by
  cases r;cases rss with
  |nil=>exact AK1 [] rfl (λi t h=>eI)
  |cons _ _=>rw[CI]
 |HX,us,rss,r,e=>by
  cases r with
  |cons h hs =>
   cases rss with
   |nil=>rw[CI]
   |cons r rss =>
    obtain⟨T,e1,e2,b,c⟩:=a1P hs DGG;refine⟨(_,y,r)::T,C4I e1,C4I e2,C4I b,sO t a⟩;cases i with
    |zero=>cases a;rw[NH h rfl]
    |succ i=>exact c i t a
def X6:∀{T:EE5},DF t T BS5->PZ ((T.map (·.2.1))) ((T.map (·.1)))
 |[],_=>.nil
 |t::T,h=>.cons wK (X6 λu a=>h u fS)
def b4r(K:qF)(Z:AT:=by rfl):vY "sorted" rSortA:=by
 subst Z;rw[kZ rv];rw[F3O p ys w hI];obtain⟨its,L,g,r⟩:∃its:AN,CBL/\oE/\FD4 D E B B its (FU RE D (D3A p) B E s):=by
  rw[ASG w]
  rw[FK2 I.list pl.isList OP]
  rw[FK2 I.tuple pl C0Z]
 rw[F6Q R];refine a5b r TT hw (~~~N0 g hl) λh1 h' os c k1 k2 e hp hs=>?_;rw[FBV j R.symm];rw[COW M (EK2 k1) C j J (by
  rw[CPB J P a0 O P O O];rw[CM0 U (CC its t.1) R]
  rw[DBF l N W Y U P (AE f2 (G2 W Y))])]
 have A:(j.map (·.2.1)).Perm ys:=by rw[<-t2];exact p1.map _
 rw[CMT hv ((j.map (·.2.1))) J C J]
 rw[JK S (BSG M.laid h1.objs.size (DW ((j.map (·.2.1)))) (t':=s.toks) k2 ⟨AE A.length_eq g,os,c,hv,e⟩) (A8Y h1.objs.size S (C7G ((j.map (·.2.2))) M.hok.fresh (CFO m) ERQ ?_ A))]
 .rw[B6H m];cases e2:j[i]? with
  |none=>rw[iH m m]
  |some t =>
   rw[CIQ m m C]
 rw[CPV hx z (C x hx) C z z]
def b1K(K:qF){e:Expr}{t:TA}{p pos:Pos}(f:C3R)(g:C4P)(c:oP)(b:AT:=by rfl)(d:wR:=by rfl)(a:wH:=by rfl):CAL "sorted" rSortA:=(CF7 b4r a4q)
noncomputable def DRaw(h:Heap)(d:qE)(es:A25)(ep:Nat):Prop:=∃ob:Obj,E70/\ob.ExactDict/\ob.data=AS6
def DRaw.typ(x:ADF):t7 d "dict":=by
 obtain⟨a,e1,e2,_⟩:=x;rw[AU a e1 e2.1]
def DRaw.lt(x:BB8):D1X d:=by
 obtain⟨a,e1,_⟩:=x;exact Heap.lt_size e1
def DRaw.to{h':Heap}(x:BB8)(k:∀a,nB d a->BNX d a):AW6 h':=by
 rw[IJ a e1 q x a (LZ e1) q]
section
variable {it:qE}
def b8Z{Q:qH}(hs:AQ7)(D:ADF)
  (q:DR0 "dict_keyiterator" #[ALC,A4V 0,A4V es.size,A4V ep]):C9Q d:=by
 rw[CLO b a D];rw[C1S ty PySem.F.slot_dict_iter (sG PySem.F.slot_dict_iter ty PySem.F.entry_dict_iter ?body PySem.F.args_dict_iter_1)]
 case body =>
  rw[ABG Builtin.«dict.__iter__» Builtin.Dict.dictSlotNone (AVJ wpAny_notOrdered_dict ty)];rw[ASR (Builtin.Dict.showsAll d)];rw[FY Builtin.Dict.showsAll (BD (λz=>by rw[AHV hs]))];rw[EJH (AIJ (EWJ wpAny_bind (wpAny_dictEpoch e1 a ?_))) ⟨_,rfl,"dict_keyiterator",_,ALR,PySem.F.slot_dict_keyiterator_next.lookup,?_⟩]
def b9a{Q:B8J}(I:EQV)(D:ADF)(hi:DFK)
  (q:BVP (E2O h'.IsKeyIter) (AH2 (C4F).key UE)):B8K:=by
 rw[FI7 f a]
 case body =>
  rw[E5A]
  rw[BGT]
  rw[AX (wpAny_fieldsOf f1 a ?_)];rw[FH7];have b:E11:=Bool.false_ne_true;rw[AO2];rw[AX (BWT wpAny_dictEntries)];rw[FI5 (F27=some C4F) Array.getElem?_eq_getElem]
  rw[BGT]
  rw[AX (wpAny_isOneOf_keyiter I.typeIs ?_)];rw[ASR (setField A0I 1 (rawInt CW7))];have c:E2O (s.heap.update it DBJ).IsKeyIter :=
   cM (A19 f1 (EP7 a)) (GK Obj.cls_mapFields .. f2) (by rw[Obj.data_mapFields a];simp[rawInt])
  rw[sM (wpAny_setField f1 a AF (AHL wpAny_holding)) (wpAny_isOneOf_keyiter (s:=JV (s.heap.update it DBJ)) c.typeIs ?_)];exact wpAny_pure (wpAny_pure (DJ (A1U (q _ c APB))))
def c4R{Q:B8J}(g:PH)(I:EQV)(D:ADF)(hi:es.size<=i)
  (q:EP8):B8K:=by
 rw[FI7 h f]
 case body =>
  rw[E5A]
  rw[BGT]
  rw[qY wpAny_fieldsOf f1 f];rw[FH7];have c:E11:=Bool.false_ne_true;rw[BD c];rw[AX (BWT wpAny_dictEntries)];rw[FI5 (MY (F27)) Array.getElem?_eq_none]
  rw[BGT]
  rw[ASR (setField A0I 0 .none)];rw[AX (wpAny_setField f1 f AF ?_)];rw[ASR CMP];rw[FGA]
def b6E(m:PH)(J d:qE)(f:d≠J)(es:A25)(ep:Nat) :
  FCS d CKL (BS9 h.IsKeyIter J i) BB8 where
 sub:=λb c=>ABT (List.mem_singleton.mp c)
 frame:=A1S g ⟨WW (dS).at (g J List.mem_cons_self o e),WW (iL).to (g d B7Z o e)⟩
 item:=FEM a (b9a dS iL hi λh' k j=>F3X a (QX C4F (IF hi)) k (j.extBut d o f e) c j.extBut c)
 done:=λs Q E st a=>c4R m dS iL BV λh' l=>a h' s.toks (mP c l (λz=>B4B c))
 self:=λ_ _ _ _ st a=>wpAny_pyIter_keyiter dS a
def b5i(hs:AQ7)(es:A25)(ep:Nat):eY KdlSrc "dict" d d es.size CKL (λh=>BB8) where
 type:=E03
 there:=EPH
 keep:=XD D b (WW D.to (b d OP o e))
 notList:=AH
 notTuple:=AH
 hint:=F4A kdl_hint_dict
 iter:=XD a D (F3L (b8Z hs D q) (b6E a _ d DNY es ep))
#where
def a0Z{x:qB}{Q:qH}(g:DC7 q l l vs (EPB A.in1 q))
  (T:BCU) (hw:BAI) (C:ABY)
  (h:∀(h1 h':Heap) (os:AN) (c tk:Nat),FGU (IR h1.objs.size bY)) :
  EPP:=by
 rw[FM2 (EB (BZ g) h1 tk k1) D F (ANF k1) F u (by
  rw[FEI (List.mem_iff_getElem?.mp u)])]
 rw[FKV D3L D3L C t (F02 tk k1 B38 t j (EB9 z B))]
 rw[F57]
 .rw[<-d _ (j.mem_iff.mp z),<-DWV];exact k
noncomputable def IK(rss:LLI):BIL Key:=rss.map λr=>r.map Sum.inl
inductive rSortD(xs:A0)(H:Hp)(Q:VK):Prop
 |mk (d:qE) (qL:aO) (rss:LLI) (_:DL0) (_:CJH) (_:CCH) (_:C7U) (_:FCR E3S):jU rSortD
def b5B{H:Hp}:∀{qL:aO}{xs:ARD}{rss:LLI},AB6->CCH->AEX (BW5 xs.map)/\xY rss.length:=by
 intro qL xs rss r e;induction r generalizing rss with
 |nil =>
  cases rss with
  |nil=>rw[AQ (DZ (λi v z=>AFM z)) rfl]
  |cons _ _=>rw[CI]
 |@cons p q ps qs h _ c =>
  cases rss with
  |nil=>rw[CI]
  |cons r rss =>
   rw[ARL]
   rw[IM (c e2)];rw[EC ⟨by rw[List.length_map,List.length_cons,List.length_cons,h2],sO v b⟩ (dE List.length_cons List.length_cons h2)];cases i with
   |zero =>
    cases b;refine AK1 r BT7 ?_;have a:=XM;have e1:CU=r.map Sum.inl:=e1;rw[e1,List.map_map]at a;exact a
   |succ i=>exact h1.2 i v b
def a1Q{α:Type}(f:α->qE):∀xs:CJ,PZ (DY1 V.ref) (DY1 Value.ref)
 |[]=>.nil
 |EX=>.cons rfl (a1Q f xs)
def b4q(hc:DM):DM3 rSortD:=by
 rw[kZ rv];rw[F3O d qL hd hk];obtain⟨J,z,j,U,ob,es,ep,e1,e2,e3,O,P⟩:=DZL;obtain⟨hI,R⟩:=b5B U hk;rw[ANV n j.length (Paired.length U)];rw[BG4 l j.length O]
 have D:ADF:=CE1 ob e3;have L:PZ (BW5 j.map) BDK:=a1Q EMF j;have w:EUY M C C BDK d C M:=λM C k=>by
  rw[FEJ (EW5 z) (~~~b3U J n l) m BDK (by
   rw[CN9 j.length]
   .rw[CMS m.1 l]
    rw[CN1 he G m];rw[A2P g (CC es.toList e) he]
    rw[BZW O UY g];injection g with g
    rw[CLU G g]
   rw[CP9 m.1 l])]
  rw[F7H]
 rw[F6Q Z];rw[FLS w hw (IL (N0 J n))];rw[FBV p Z.symm];rw[COW N (BCT k1) B p F (by
  rw[CPB F Y a0 W Y W W];rw[CM0 P (AC0 BDK t.1) Z]
  rw[FCT S P Y])]
 have K:CK (QT ((p.map (·.2.1)))):=by
  rw[F8M E E E];exact b3U J n E
 rw[CMT G ((p.map (·.2.1))) F B F]
 rw[FCL N.laid (DW ((p.map (·.2.1)))) K G (C7G ((p.map (·.2.2))) N.hok.fresh (CFO r) ERQ ?_)]
 .rw[B6H r];cases e2:p[i]? with
  |none=>rw[iH r r]
  |some t =>
   rw[CIQ r r B]
 rw[CPV hx A (B x hx) B A A]
#where
section
variable {X:Cx}
#where
section
open PySem.W
section
variable {prog:qG}{w:World}{A:Around}{E:qH}{s:qC}{d:qE}{ep:Nat}{es:A25}
def c4Q{Q:qH}(hs:AQ7)(D:ADF)(hz:B9M DEA)
  (q:Q (YO es.size kO) (A4Q (kO+1))):BTT "len" (VT d):=by
 rw[D6E kind_len plain_len entry_len args_len1];rw[CLO b a D];unfold Builtin.«len»;refine BS3 (oneArg "len" _);refine B1E (KB callSpecial? d CX1) (BSC CX1 ty PySem.F.slot_dict_len PySem.F.slot_dict_len ty PySem.F.entry_dict_len PySem.F.args_dict_len_1)
 case body =>
  rw[RK (dictSize d>>=λn=>_)];unfold dictSize;rw[PP wpAny_bind (EWJ wpAny_pure ?_)];rw[RK (Builtin.Dict.pendingCount d>>=λn=>_)];rw[AX (wpAny_pendingCount_other hs (wpAny_ret_mkInt ?_))];rw[pL _ _ gW];rw[show C37+BQ9=DEA by simp];rw[AX (sI wpAny_holding DRB)];rw[RK (mS (C37<0) _)];rw[BD CW3];rw[RK (mS (C07 C37) _)];rw[AZ (BD (BJ 4879956384879447 hz)) wpAny_bind (sI wpAny_mkInt (DJ q))]
#where
inductive rLenT(xs:A0)(H:Hp)(Q:VK):Prop
 |mk (a:qE) (qL:aO) (_:xs=[D2M]) (_:A46) (_:SI qL.length):jU rLenT
section
variable {X:Cx}
def b7W:B9Y rLenT:=by
 rw[mW];rw[QP a qL rfl j q];rw[VA n r.one n];obtain⟨k,b,f,l,m,es,ep,e1,e2,g,i,o⟩:=BSV j;rw[ANV d f.length (Paired.length l)];rw[BG4 c f.length i]
 have e:=k;rw[sizeLine_eq]at e;refine c4Q b (CE1 m g) AD ?_;rw[c,<-d];rw[EF (BP qL.length) H WD QD q]
variable {a b c e o i value:Expr}{es rest:BT}{ta tb tc te to td ty tv:TE}{t:TA}{pos p qN qM p2 pos' tpos:Pos}
def c6y(d:B8M)(f:B92)(b:oP)(c:wR:=by rfl)(a:wH:=by rfl):DYH rLenT:=B5D F3 b7W b0c
def c3f(f:C3R)(g:C4P)(b:oP)(c:DM:=by rfl)(d:wR:=by rfl)(a:wH:=by rfl):B4D "sorted" rSortD:=(E7F b4q a4q)
def b5H:ET8 b8C:=⟨b9D⟩
def d1P(c:HM)(hi:ARR)(b:w5)(a:E6Q):CY (DB3 .In) E9A:=CNV c8V b9J
def c9M(c:HM)(hi:ARR)(b:w5)(a:E6Q):EY7 .In c8p:=CNV b9e b9J
def b7l(c:HM)(hi:ARR)(b:w5)(a:AGK .NotIn o):EY7 .NotIn b4W:=CNV b9e b6M
def a2a(b:HM)(a:w5)(hi:ARR)(c:E4W)(hs:E1V:=by rfl):BDN JS BW9 ENR:=⟨c4W DQW a.h hi.h c.h hs⟩
def C6(K:qF){f:Str}(c:ATV e)(a:AT:=by rfl)(b:F6K:=by rfl):yF .Attribute e f (d0W K ta f):=by
 subst a;exact⟨c8U c.h b⟩
def G5(K:qF){f:Str}(b:AOS)(c:E4W)(a:AT:=by rfl)(hs:E1W:=by rfl):BDN JS BX8 (d0Z K ta tv f):=by
 subst a;exact fO c8G b.h c.h hs
#where
structure MethOk(P:qG)(w:World)(K:qF)(mg:BF)(base:Heap)(C:qE)(m:Str)(k:Nat)(ps:AA)(sp:Sp):Prop where
 ex:CNQ v1 CDO
structure MethAt(K:qF)(C:qE)(m qual:Str)(st:Stmt)(ps:AA):Prop where
 ex:CNQ (Fun K m qual st f fd) v1
structure MakeOk(P:qG)(w:World)(K:qF)(mg:BF)(base:Heap)(x:Str)(C:qE)(k:Nat)(ps:AA)(sp:Sp):Prop where
 ex:∃f fd,CBQ/\Mk K C f/\v1/\CDO
section
variable {P:qG}{w:World}{K:qF}{mg:BF}{base:Heap}{C:qE}{m qual:Str}{st:Stmt}{N ps:AA}{k:Nat}{sp:Sp}
def MethAt.fnJ(F:E3B)(S:A4C)(len:pE)
  (b:ATS qual (fZ ->
   DYJ)):EHW m BX:=by
 rw[A48 c F.ex];rw[EF f fd h1 c (EKQ h2.okJ)]
def MethOk.make{x:Str}(O:EHW "__init__" k)(d:CBQ)(c:C9I)(b:DXT):BT3 base x C k ps sp:=by
 rw[A48 a O.ex];rw[IO f fd d ⟨c,h1.at_,h1.fn,b⟩ h2 a]
#where
section
variable {X:Cx}{C:qE}{m x:Str}{k:Nat}{ps:AA}{sp:Sp}{o e:Expr}{es:BT}{ta:TE}{t:TA}{pos qN p:Pos}
def a6E{pl:w6}(O:E3P)(c:oZ)(j:jJ)(i:AOS)(h:FC)
  (b:DE:=by rfl) (a:HZ:=by rfl)
  (l:RA B9C=(AU5>>=λd=>CPA [d] (getMethod d m pl) f f (BRJ (YH LK)) ELO):=by rfl) :
  AFP AWX (EG5 t):=by
 rw[A48 g O.ex];exact⟨CMZ b5o i.h g j h2 .nil b0X h.h b a l⟩
def a5m{pl:w6}(O:E3P)(c:oZ)(e:jJ)(d:AOS)
  (g:RA BDF=(AU5>>=λa=>CPA LF (getMethod a m pl) f f CDE ELO):=by rfl) :
  CY BDF (EG5 a2h):=by
 rw[A48 b O.ex];exact⟨CMZ b9y d.h b e h2 .nil b0X g⟩
def b4c(O:EUU)(j:AS0)(i:TC)(g:FC)(a:KK:=by decide)
  (h:DE:=by rfl) (b:HZ:=by rfl) :
  AFP AHM (FAA t):=by
 rw[EU2 c d];exact⟨c5q h1 d j i c h2 .nil b0X g.h a h b⟩
def c6B(O:EUU)(e:AS0)(d:TC)(a:KK:=by decide) :
  CY DVB (FAA a2h):=by
 rw[EU2 b c];exact⟨b9z h1 c e d b h2 .nil b0X a⟩
#where
#where
section
variable {H:Hp}
def a6x{K:qF}{src:NQ}{σ caps:St}{Q:VK}{a:qE}{vs:A0}{rss:LLI}{k:TT}(t:A69 qI)(n:ABY)(b:E7O)(hI:TD)(d:YC)
  (g:FAE t (k AJ9 H1 j)) (hd:∀H1 p l,KS->AUY->Its H1 l (rss.filter t)->A55 H1 l):BH2 k AD0:=by
 refine R8 (xs:=vs) AD (dP (Its H' ys (xK rss.take i t))) (AG3 (BQ Its.nil)) (NM ys ⟨BN6,AE XM (BAD lA)⟩) ?_ ?_
 .rintro i x ys H' hx ⟨s,hy⟩;rw[A3T m f c hx];rw[A0B (CHW x) d (HU (F3G m (c.same s) s) H2 s2)];rw[B65 f];cases e:t r with
  |true=>rw[BW _ rfl A0R (by simpa[e]using EP3 hy.same (c.same s).same)]
  |false=>rw[AQ A0R (B1Y e DJR)]
 .rintro ys H' ⟨s,hy⟩ p hp;rw[cY GW hy];exact hd H' p ys s hp hy
noncomputable def Prs(H:Hp)(ps:A0)(f:B86)(js:HW):Prop:=ps.length=js.length/\dQ q V (CC ps q) (∃(j:Nat) (b:qE) (v:V),CC js j/\VX q b/\DTY/\F9N)
def Prs.same{H H':Hp}{ps:A0}{f:B86}{a:HW}(h:EY6 H)(s:BL):EY6 H' :=
 (A5U (QH q (CNY j b v (xW q) ⟨j,b,v,e1,e2,DHP,e4.same s⟩)))
def Prs.nil{f:B86}:Prs H [] f []:=DZ (QH q BUK)
def Prs.snoc{ps:A0}{f:B86}{c:HW}{j:Nat}{b:qE}{v:V}(h:Prs H ps f c)(d:DTY)(g:F9N):Prs H (ps++[GV]) f (c++[j]):=by
 rw[CM4 E2N (QH q ?_) ps.length]
 .rw[BRE];obtain⟨k,b',l,e1,e2⟩:=xW q;rw[EF k b' l CYF e2]
 .rw[CAB];have a:DQO=0:=by
   rw[mQ (Nat.eq_zero_or_pos DQO)]
   rw[NT]
   .rw[GM (B6Z (by simp;rw[DG 0x6ca87428612c29990c9d322d15e z]))]
  rw[GM a];exact⟨j,b,v,EBU a,rfl,d,g⟩
section
variable {X:Cx}{k:Nat}{ps:AA}{sp:Sp}{x y:Str}{p pos qM pos' ip sp':Pos}{e:Expr}{es:BT}{t:TA}{i:Nat}{z:Int}{jj:Nat}
#where
#where
universe L2
section
open PySem PyProof.Rows
def L2.ins_call{prog:qG}{w:World}{A:Around}{E:qH}{s:qC}{Q:qH}(l:qE)(its:CO)(n:Nat)(x:Int)(t:Tok)(a:qB)(b:¬uL (Builtin.List.listFitsIndex x))(hz:C1A)
  (e:A5V l (AWZ its)) (h:Q .none (JV (s.heap.update l (EDM (EWL FAR a++xs.extract FAR))))) :
  BTT "list.insert" [IX,DP8,a] :=
 call_meets PySem.F.slot_list_insert iP PySem.F.entry_list_insert (gH PySem.F.args_list_insert_3) (PySem.AutoSeq1.list_insert_list_int_val_1 l its n x t a b hz) ⟨e,h⟩
#where
namespace L2
open PySem PySem.Spec PyProof.Rows
inductive rInsert(x:V)(vs:A0)(H:Hp)(Q:VK):Prop
 |mk (l xs k y:_) (_:vT) (_:QA (BP (PN k)) y) (_:YB) (_:C9W) (_:DOB) (_:CGW (xs.take k++y::xs.drop k)):A32 rInsert
section
variable {X:Cx}
def b7a:vC "list.insert" rInsert:=by
 rw[jY o m];obtain⟨l,xs,k,y,rfl,rfl,b,i,f,q⟩:=h;cases o;obtain⟨w,a,rfl,⟨t,rfl⟩,j⟩:=c7i m;rw[E7K];have g:¬LQ (! Builtin.List.listFitsIndex LW):=by
  have hs:=sizeLine_eq;rw[bA (fitsIndex_both AD AD)]
 have p:=F.args_list_insert_3 IX (A75 LW) a;have u:t7 l "list":=iP;have d:min k its.length=k:=Nat.min_eq_left (AR 0x16f8070b01838f8d7 i c);have hi:(λxs:CO=>(EWL FAQ a++xs.extract FAQ xs.size)) its.toArray=AJG (its.take k) D3O:=by
  simp only[List.size_toArray,Int.toNat_natCast,BD (show ¬BU2 by exact a6p),d];rw[C0B];simp[List.extract_eq_drop_take,d,List.take_of_length_le]
 refine CF0 ins_call LW t a g (ANK (c1D f c)) e ?_;refine GZ .non _ (FED (its.take k++D3O) ((Vals.take k r).append (.cons j (Vals.drop k r)))) q
 .exact hi
 .rw[List.length_append,List.length_cons,List.length_take,List.length_drop];rw[DG 0xe0a3edc35de7cdced231d3dcfcfd71797 f]
variable {o e:Expr}{es:BT}{to:TE}{t:TA}{pos qN qM:Pos}
def b7n(K:qF)(h:aU)(g:FC)(f:AT:=by rfl)(b:cW "insert":=by rfl)
  (d:jZ:=by rfl)
  (c:TL:=by rfl) (hs:DE:=by rfl) (a:TH:=by rfl) :
  ADT "insert" rInsert:=(ADU PySem.F.slot_list_insert PySem.F.type_list_insert b7a)
#where
universe L2
namespace L2
variable {α:Type}
def d1N{us:CJ}(h:us.length=0):us=[]:=DGE
def c9D{us:CJ}(h:us.length=1):∃a,us=LF:=by
 cases us with
 |nil=>cases h
 |cons a us=>rw[AQ a (WO (ATJ d1N))]
def c9C{us:CJ}(h:AN2 2):∃a b,us=bD:=by
 cases us with
 |nil=>cases h
 |cons a us=>rw[OY b (ATJ c9D)];rw[AU a b C5S]
def c9B{us:CJ}(h:AN2 3):∃a b c,us=[a,b,c]:=by
 cases us with
 |nil=>cases h
 |cons a us=>rw[A9O b c (ATJ c9C)];rw[BW a b c C5S]
def d1r{us:CJ}(h:AN2 4):∃a b c d,us=[a,b,c,d]:=by
 cases us with
 |nil=>cases h
 |cons a us=>obtain⟨b,c,d,e⟩:=ATJ c9B;rw[EF a b c d C5S]
def d1M{us:CJ}(h:AN2 5):∃a b c d e,us=[a,b,c,d,e]:=by
 cases us with
 |nil=>cases h
 |cons a us=>obtain⟨b,c,d,e,q⟩:=ATJ d1r;rw[IO a b c d e (WO q)]
section
open PySem PySem.Spec PyProof.Rows PySem.W
noncomputable abbrev FnL(K:qF)(f:qE)(nm qn:Str)(st:Stmt)(oc:qB)(od:IN)(sl:aW)(kV dc pm:qB)(an:IN)(cd ct:qB):Prop:=BHH (CP0 (PySem.W.fnOf nm qn AX9 A5T) dc cd) sl
variable {K:qF}{h:Heap}{mg:BF}{x qn:Str}{st:Stmt}{f:qE}{od an:IN}{sl:aW}{oc kV dc pm cd ct:qB}{C:qE}{m:Str}
def d1y(X:B7L)(G:B40)(a:CNB)(l:ERL)(c:E2K)(k:BAM){ps:AA}
  (e:DCB ENV):ATE:=EZO (mg_of X G a)
def d1o(a:F2C)(i:DOM)(l:ERM)(c:E2L)(k:BAM){ps:AA}
  (e:FCW):E3A:=(EZO ⟨a,i,k⟩)
#where
section
open PySem PySem.Spec PyProof.Rows PySem.W
variable {K:qF}{h:Heap}{mg:BF}{x nm qn:Str}{C N:qE}{bs bm sub bmB above:AN}{hd ab:Bool}{sn:AA}{col:sU}{dd:IN}{k0 k1 k2 k3 k5:TR}{qR:String}
def a9e(X:B7L)(b:CBQ)(c:EQ8)(tx:AG4 tailIn bmB bm)(ok:pY nsOkIn N)(a:AU0 nsIn N "__init__"):DAU h :=
 ⟨b,bm,N,nm,qn,bs,hd,sn,sub,ab,col,dd,k0,k1,k2,k3,k5,_,AG X c,.of_isNs (isNs_of_in X ok),nsMap_none_of_in X ok a,tail_of_in X tx⟩
def b6b(b:EQ8)(a:BVD):ClsX K C [] :=
 ⟨nm,qn,N,bs,bm,hd,sn,sub,ab,col,dd,k0,k1,k2,k3,k5,qR,b,a,ND⟩
#where
inductive Ex1{α0:Type}(p:SJ α0):Prop
 |mk (a0:α0) (h:p a0):Ex1 p
inductive Ex2{α0 α1:Type}(p:EL α0 α1):Prop
 |mk (a0:α0) (a1:α1) (h:p a0 a1):Ex2 p
inductive Ex3{α0 α1 α2:Type}(p:α0->EL α1 α2):Prop
 |mk (a0:α0) (a1:α1) (a2:α2) (h:p a0 a1 a2):Ex3 p
inductive Ex4{α0 α1 α2 α3:Type}(p:α0->α1->EL α2 α3):Prop
 |mk (a0:α0) (a1:α1) (a2:α2) (a3:α3) (h:CNZ p):Ex4 p
inductive Ex5{α0 α1 α2 α3 α4:Type}(p:α0->α1->α2->EL α3 α4):Prop
 |mk (a0:α0) (a1:α1) (a2:α2) (a3:α3) (a4:α4) (h:p a0 a1 a2 a3 a4):Ex5 p
inductive An3(a0 a1 a2:Prop):Prop
 |mk (h0:a0) (h1:a1) (h2:a2):An3 a0 a1 a2
inductive An5(a0 a1 a2 a3 a4:Prop):Prop
 |mk (h0:a0) (h1:a1) (h2:a2) (h3:a3) (h4:a4):An5 a0 a1 a2 a3 a4
inductive An6(a0 a1 a2 a3 a4 a5:Prop):Prop
 |mk (h0:a0) (h1:a1) (h2:a2) (h3:a3) (h4:a4) (h5:a5):An6 a0 a1 a2 a3 a4 a5
inductive An9(a0 a1 a2 a3 a4 a5 a6 a7 a8:Prop):Prop
 |mk (h0:a0) (h1:a1) (h2:a2) (h3:a3) (h4:a4) (h5:a5) (h6:a6) (h7:a7) (h8:a8):CNZ An9 a4 a5 a6 a7 a8
inductive An10(a0 a1 a2 a3 a4 a5 a6 a7 a8 a9:Prop):Prop
 |mk (h0:a0) (h1:a1) (h2:a2) (h3:a3) (h4:a4) (h5:a5) (h6:a6) (h7:a7) (h8:a8) (h9:a9):CNZ An10 a4 a5 a6 a7 a8 a9
universe L2
namespace L2
variable {i j k mask:Nat}{owner:A26}{t:SetTable}{xs:vG}{α:Type}
namespace Tab
open PySem
noncomputable def gI:DPY
 |0,x=>x
 |CW,x=>5*AS4+1
noncomputable def gS:B85
 |0=>0
 |CW=>5*gS n+1
def c7V:∀n x,gI n x=CE3*x+gS n
 |0,x=>tX gI gS
 |CW,x=>by
  rw[gI,c7V n x,gS,Nat.pow_succ,Nat.mul_add,<-Nat.mul_assoc,Nat.mul_comm 5 CE3];omega
def b5R:∀n,4*gS n+1=CE3
 |0=>rfl
 |CW=>by
  have:=b5R n;rw[WX gS Nat.pow_succ]
def a6N:∀k,∃u,5 ^ (KY)=ETV
 |0=>(UP 0)
 |BX=>by
  rw[CIP];rw[KG (u+EKC*ALL u)];rw[Nat.pow_succ 2 k,Nat.pow_mul,h,Nat.pow_two];have e1:2 ^ (BX+2)=8*KY:=by rw[WX Nat.pow_add Nat.pow_succ]
  rw[CP7]
  rw[EM7]
  grind
def d0i(k:Nat):∃u,gS KY=EKC:=by
 rw[CIP];rw[KG u];have:=b5R KY;rw[CP7]
 rw[h,e2,Nat.mul_assoc]at this;omega
def c6P(k y:Nat):gI KY y % AA9=(y+KY) % AA9:=by
 rw[CIP];rw[A9P h2 (d0i k)];rw[c7V,h,h2];have e:(ETV)*y+KY*ALL v=(y+KY)+AA9*(2*ALL u*y+v):=by
  rw[F15]
  rw[CP7]
  rw[EM7]
  grind
 rw[e,Nat.add_mul_mod_self_left]
noncomputable def fI(M:Nat):DPY
 |0,x=>x
 |CW,x=>(ETS*5+1) % M
def c3x(M:Nat)(x:Nat)(a:x<M):∀n,ETS=AS4 % M
 |0=>(bS Nat.mod_eq_of_lt a)
 |CW=>by
  rw[fI,c3x M x a n,gI,Nat.mul_comm,Nat.add_mod,Nat.mul_mod,Nat.mod_mod,<-Nat.mul_mod,<-Nat.add_mod]
def c3t(m:Nat):∀n x,gI (n+m) x=gI n (gI m x)
 |0,x=>XA Nat.zero_add
 |CW,x=>by rw[Nat.add_right_comm,gI,c3t m n x,gI]
def c3s:∀(k x s:Nat),∃n,n<KY/\AS4 % KY=s % KY
 |0,x,s=>⟨0,AH,dE Nat.pow_zero Nat.mod_one Nat.mod_one⟩
 |BX,x,s=>by
  obtain⟨n,l,h⟩:=c3s k x s;rw[F15]
  have m:0<KY:=DX3;rw[BI a (AS4 % AA9) (s % AA9)]
  .rw[AU n AD a]
  .rw[OU (KY+n) AD];rw[c3t,c6P];generalize AS4=y at *;rw[e1]at a⊢;generalize KY=M at *;rw[AC f (Nat.mod_add_div y A87) g (Nat.mod_add_div s A87)];rw[AC i (Nat.mod_lt y DSW) j (Nat.mod_lt s DSW)];rw[F58 b y EBW y];rw[F58 c s DZ6 s];rw[Nat.add_mod,Nat.mod_eq_of_lt (AIT (M<A87))];generalize EBW=p at *;generalize DZ6=q at *;rw[b,c]at h;have d:p % M=if p<M then p else p-M:=by
    split
    rw[EEO]
    rw[EY8]
   have e:q % M=if q<M then q else q-M:=by
    split
    rw[EEO]
    rw[EY8]
   rw[d,e]at h;split at h<;>split at h
   .omega
   .rw[KO DG6]
   .rw[show p+M=p-M+2*M by omega,Nat.add_mod_right,DG6];omega
   .omega
noncomputable abbrev Pr:=SetTable.Probe
noncomputable def adv(mask:Nat)(p:Pr):Pr :=
 if p.more > 0 then {p with j:=p.j+1,more:=p.more-1} else
 {p with j:=BFX,more:=B4G BFX-BFX,i:=BFX,perturb:=(AXB p.i p.perturb).2}
def d0A(t:SetTable)(p:Pr):t.advance p=BWK:=rfl
noncomputable def D8(mask:Nat)(p:Pr):VR Pr
 |0=>p
 |CW=>adv mask (B9H p)
def N6(mask:Nat)(p:Pr):∀n,JU D8 p CW=B9H (adv mask p)
 |0=>rfl
 |CW=>UH D8 (JU N6 p n)
def a2R(mask:Nat)(p:Pr)(m:Nat):∀n,JU D8 p (m+n)=B9H (JU D8 p m)
 |0=>rfl
 |CW=>E44 D8 (a2R mask p m n)
def a3C(mask:Nat)(p:Pr):∀n,AYE dummy=p.dummy
 |0=>rfl
 |CW=>by
  rw[D8,<-JU a3C p n];unfold adv;split<;>rfl
noncomputable def a3O(mask i pt:Nat):Pr:=FIO i mC
noncomputable def st0(mask:Nat)(h:Int):Pr:=a3O mask gY (SetTable.bits h)
def a4h(mask i pt:Nat):∀c,c<=mC->CCY c=FIO (i+c) (mC-c)
 |0,_=>rfl
 |c+1,h=>by
  rw[D8,a4h mask i pt c (dZ 0x2a496af476bacbb87d8aae8cd63137)];rw[FY adv (EA (ABI (mC-c > 0) 0x4fe2023c5e365674345e8c47a2b21fbf8186ef80894deb137 h))];simp only[SetTable.Probe.mk.injEq,and_true];omega
def c4L(mask i:Nat):mC<=9:=by
 rw[ASH]
def b1m(mask i pt:Nat):CCY ABN=ESN:=by
 rw[D8,a4h mask i pt _ (Nat.le_refl _)];rw[sS adv (PU (by show ¬mC-(mC) > 0;exact lq 0x2aab65e05e51d7579805b764e2151c8f915e))]
noncomputable def U4(mask:Nat)(i pt:Nat):VR DWM
 |0=>(i,pt)
 |BX=>AXB ADO CEF
def b8T(mask i pt:Nat):∀k,∃n,n<=10*k/\B9H BL6=JU a3O ADO CEF
 |0=>QX 0 BV
 |BX=>by
  rw[BEO n (DNV b8T)];have:=c4L mask ADO;rw[OU (n+(B4G ADO-ADO+1)) (AGO 0x2042fd78d207a0f11815eaa156f2d702f42836cf8015ea8 this)];rw[a2R,h2,b1m];rfl
def b8S(mask i pt:Nat):∀k,CEF=pt / 32 ^ k
 |0=>IF U4
 |BX=>by
  rw[U4,Nat.pow_succ,<-Nat.div_div_eq_div_mul,<-DNV b8S];rfl
def a5R(mask i pt a:Nat):∀b,AVK (a+b)=U4 mask (AX7 a) (AVK a).2 b
 |0=>rfl
 |b+1=>E44 U4 (a5R mask i pt a b)
def b0O(mask i:Nat):∀k,U4 mask i 0 k=(EYF,0)
 |0=>rfl
 |BX=>by
  rw[U4,JU b0O i k];show((EYF*5+1+EBX) % CQQ,EBX)=_;rw[Nat.zero_div,Nat.add_zero];rfl
def c6Y(h:Int):APC AUK:=by
 unfold SetTable.bits;rw[SQ (Int.emod_nonneg h (A5D ((BG 2) ^ 64≠0))) (Int.emod_lt_of_pos h (A5D (APC OJ)))];omega
def c4M(mask i pt:Nat)(hi:DJ5):∀k,cR ADO
 |0=>hi
 |BX=>by
  rw[AZ U4 Nat.le_of_lt_succ BW1]
def b0Q(c:AE0)(h:Int)(s:Nat)(hs:BAF):∃r,r<mask+14/\(BFW U4 r).1=s:=by
 rw[AC b (c6Y h) hi (c4M mask gY AUK (Nat.le_of_lt_succ BW1) 13)];rw[GJ a (BFW b8S 13) (Nat.div_eq_of_lt (Nat.lt_of_lt_of_le b AH)) a];rw[A9O n d (c3s k (BFW U4 13).1 s)];rw[OU (13+n) AD];rw[<-c]at e;rw[a5R,a,b0O];show gH fI=s;rw[F2 (AG c3x AD) e Nat.mod_eq_of_lt AD]
noncomputable def pos(mask:Nat)(h:Int)(n:Nat):Nat:=BN4 EGG n
def b9o(a:AE0)(h:Int)(s:Nat)(hs:BAF):∃n,n<10*BMO mask/\QV=s:=by
 rw[A9O r c (b0Q a h s hs)];obtain⟨n,b,e2⟩:=BFW b8T r;rw[OU n (by rw[ECE])];unfold pos st0;rw[e2,<-e];rfl
def a7d(xs:vG)(j:Nat)(n:FCO):∀(fuel lo hi:Nat),hi-lo<=fuel->DWG->hi<=xs.size->D7Z lo->(y8 hi (i<xs.size) D50) ->
  F0C CPE CPE CPE
 |0,lo,hi,h1,h2,c,k,l=>by
  have:hi=lo:= AAV 0xdafc96140fc4ddd4b2324b39756
  rw[EZ7]
 |ABM,lo,hi,h1,h2,c,k,l=>by
  unfold SetTable.below.go;by_cases h:lo<hi
  .rw[vH];rw[ABR o (CAZ<hi/\lo<=CAZ)]
   dsimp only;generalize CAZ=m at o⊢;rw[SK g o];have p:xs.getD m j=AI4 m:=by
    have:DK0:= EMX
    rw[BZX this]
   rw[p];by_cases f:AI4 m<j
   .rw[EA f];rw[FHP 0x57227860e2f69468309206f3ac64eda92358 q (~~~a9z g) c (ANQ i) l]
    .rw[AB e f]
    .exact Nat.lt_trans (n i _ (~~~a9C d e) EMX) f
   .rw[BD f];rw[FHP 0x31ca8dee388ce716f72ee310ea76eada358 g AD (A2A 0x6758737691d7 g) k (sO d hs)]
    .rw[AZ e O1 f]
    .rw[MM (n m i (vI 0x5cd65729ee1d25f880d6 e) hs) 0xb56f3deed2297 f]
  .rw[oJ];have:hi=lo:= AO6 0x5cd6b167161d4ef1abd6 h
   rw[EZ7]
noncomputable def Ris(xs:vG):Prop:=FCO
def N3(a:A2Q)(j:Nat):F0C A41 A41 A41 :=
 a7d xs j a xs.size 0 xs.size (XW 0x5a802defbfbd25) C04 BV (A7H E6P) (AKX (A9S h2 (zP c0W)))
def a3s(h:ALI):B7C lV:=tX Array.getD h
def a3z(b:A2Q)(h:B7C j):SetTable.below xs j=i:=by
 rw[ZP e c EES];have hi:ALI:=(Array.getElem?_eq_some_iff.mp h).1;have a:lV=j:=by rw[KP (a3s hi) h];rw[ED2];exact this.symm
 rcases Nat.lt_trichotomy A41 i with z|z|z
 .rw[SQ (d _ BV (~~~b3Q hi z)) (AJ b z hi)];exact lq 0x48ca70cacc226b3b8aabd0459 a h1 h2
 rw[NT]
 .rw[MM (c i z) 0x350cf9801e06aa51758 a]
def a4p(a:A2Q)(j:Nat):ANM A41 j↔j∈xs:=by
 constructor
 .intro h;exact Array.mem_of_getElem? h
 .intro h;rw[A8C (Array.mem_iff_getElem?.mp h)];rw[AB (a3z a hi) hi]
def b5e(a:CDT)(hd:CCJ)(j:Nat):t.slot j=if lO j then BOR .live j else .empty:=by
 rw[B69 SetTable.slot];by_cases h:lO j
 .rw[vH,if_pos];rw[L1 (EIM mpr h)]
 .rw[oJ,if_neg,hd]
  .rw[if_neg];unfold SetTable.has;simp
  .intro z;exact h (EIM mp (BQ z))
def b0T{t:SetTable}(i:CDT)(hd:CCJ)(a:IQ)(h:Int):∀(fuel:Nat) (p:Pr),MY p.dummy->(∃n,n<fuel/\DST) ->
  (CMK DST CLK FDX (.empty AKK none)) ∨
  ∃n,lO AKK/\a DOR=h/\CYO CLK/\FDX=some (.candidate AKK DOR (D8 t.mask p CW))
 |0,p,_,⟨n,g,_⟩=>A9S g AZQ
 |ABM,p,c,⟨n,g,f⟩=>by
  rw[FY SetTable.probe.go (b5e i hd)];by_cases b:lO p.j
  .rw[if_pos b];dsimp only;rw[nZ (a (AVL p.j)=h)]
   .right;refine⟨0,b,e,EQ3,?_⟩;rw[lL (by rw[zO])];rfl
   .have hn0:n≠0:=λz=>UG f z b;rw[cB n rfl (∃k,n=BX) B7D (~~~c7K hn0)];rw[N6]at f;rw[AOM,d0A];have first:∀N,(∀m,m<N->D12 E6K E6K)->∀m,m<N+1->CLK:=λN j m d=>by
     cases m with
     |zero=>rw[AQ b e]
     |succ m=>rw[AB N6 (j m (sL b3F))]
    rcases b0T i hd a h fuel BWK (OV c (a3C t.mask p 1)) ⟨n,~~~b3F g,f⟩with⟨N,h1,h2,h3⟩|⟨N,h1,h2,h3,h4⟩
    .left;rw[BW (N+1) DUN (first N h2) (AE N6 h3)]
    .right;rw[EF (N+1) DUN (AE N6 h2) (first N h3) (GU N6 N6 h4)]
  .rw[if_neg b];left;refine⟨0,b,EQ3,?_⟩;show some (SetTable.Met.empty p.j p.dummy)=_;rw[c];rfl
def a1F(xs:oG)(p:Nat)(x:α)(hp:BDW):BPX xs p x toList=xs.toList.take p++x::xs.toList.drop p:=by
 unfold SetTable.insertAt;simp only[Array.toList_append,Array.toList_push,Array.toList_extract,List.extract_eq_take_drop,List.drop_zero,Nat.sub_zero,List.append_assoc,List.singleton_append];rw[List.take_of_length_le (l:=D3C List.drop) AF]
def ris_list:A2Q↔xs.toList.Pairwise (· < ·):=by
 rw[List.pairwise_iff_getElem];unfold Ris;constructor
 .intro h i j hi hj hij;have:=h i j hij (BQ hj);simpa[Array.getD,BPO ALI hi,BPO (j<xs.size) hj]using this
 .intro h a b hab hb;have:=h a b (AZO c1d hab hb) (BQ hb) hab;simpa[Array.getD,show a<xs.size by exact c1d hab hb,hb]using this
def a8j(h:i<xs.toList.length):lV=xs.toList[i]:=by
 rw[MD h' ALI h]
 rw[BZX h']
def c4o(b:A2Q){x:Nat}(h:EXU xs.toList.take):x<j:=by
 rw[ZL a d EES];rw[iK h];rw[List.length_take]at hi;rw[List.getElem_take,<-a8j];exact a i (hY b5v)
def b5U(d:A2Q){x:Nat}(c:ECO)(h:EXU xs.toList.drop):j<x:=by
 rw[A8H f b (N3 d j)];rw[MD a YA (List.mem_of_mem_drop h)]
 rw[iK h];rw[List.length_drop]at hi;rw[List.getElem_drop,<-a8j]at a⊢;have:=b (A41+i) C03 (by simp at hi;exact a8b hi);rw[BM (Nat.lt_or_eq_of_le this)]
 rw[NT]
 rw[oR z a c]
def c4N(a:A2Q)(c:ECO):Ris (EIK A41):=by
 rw[ris_list,BTZ (N3 a j).1];have d:=ris_list.mp a;rw[List.pairwise_append,List.pairwise_cons];rw[FK d.take ⟨λy b=>b5U a c b,d.drop⟩ (D8B e)];have h1:=c4o a e;rw[BM AC3]
 .rw[AB z h1]
 .exact Nat.lt_trans h1 (b5U a c z)
def a9n{p x:Nat}(hp:BDW):x∈EIK p↔x=j∨YA:=by
 rw[<-Array.mem_toList_iff,E0M,List.mem_append,List.mem_cons,<-Array.mem_toList_iff];constructor
 .rintro(h|h|h)
  .exact pI List.mem_of_mem_take h
  rw[GX h]
  .exact pI List.mem_of_mem_drop h
 .rintro(h|h)
  .exact lT h
  .rw[<-D3C List.take_append_drop]at h;rw[BM (List.mem_append.mp h)]
   rw[GX z]
   .exact XN z
def nodup_le{α:Type}[DTC]:FDB
 |[],b,_,_=>GH
 |iY,b,e,h=>by
  rw[FLE nodup_le]
structure TabOk{α:Type}(t:SetTable)(es:wG):Prop where
 size:t.place.size=es.size
 dum:CCJ
 ris:CDT
 le:∀j∈t.place,j<=t.mask
 pow:∃k,3<=k/\C0H=KY
 room:B5Z es.size
 reach:∀(i j:Nat) (e:xI α),C1O j->BR6->∃n,D7O/\AMA (lO (YK e.1 m))
def TabOk.free{es:wG}(h:wQ)(x:Int):∃n,n<BEH/\A8I (YK x n):=by
 obtain⟨k,_,e⟩:=h.pow;have:∃s,B5Z s/\A8I s:=by
  rw[A2L d];have a:∀s,s<C0H->s∈t.place.toList:=λs hs=>by
   refine CAW d ⟨s,AD,λq=>ALF z q⟩
  have:=nodup_le (AN1 C0H) t.place.toList List.nodup_range λs hs=>a s (List.mem_range.mp hs);rw[List.length_range,Array.length_toList,h.size]at this;rw[KR h.room]
 rw[A7R s hs this];rw[IJ n b c (b9o e x s hs) n b (AE c f)]
def TabOk.first{es:wG}(h:wQ)(x:Int):∃N,N<BEH/\DSS/\E91:=by
 rw[DI n b d h.free x];induction n using Nat.strongRecOn with
 |ind n e =>
  rw[VG (BWI (A8I (YK x m)))]
  .obtain⟨m,a,hm2⟩:=c;exact e m a (AR 0xc184ffd7f5df77b6ea7 b a) hm2
  .rw[BW n b d (λm a=>CAW c ⟨m,a,z⟩)]
def b5Q{xs:oG}{p:Nat}{x:α}(hp:BDW)(i:Nat):dI (SetTable.insertAt xs p x)=if i<p then DJF else if i=p then ZH else xs[i-1]?:=by
 rw[DDK E0M];rw[WZ h1 p]
 .rw[B2T,List.getElem?_append_left (by rw[CG List.length_take Array.length_toList (lq 0x178fd23718d8ccf916d91d7 hp h1)]),List.getElem?_take_of_lt h1,Array.getElem?_toList]
 .rw[AOE,List.getElem?_append_right (by rw[F2 List.length_take Array.length_toList c2A h1]),List.length_take,Array.length_toList,Nat.min_eq_left hp];rw[BI h2 i p]
  .rw[C34,h2,Nat.sub_self];rfl
  .rw[BD h2];rw[cB c a (∃c,i-p=c+1) (i-p-1) AD];rw[a,List.getElem?_cons_succ,List.getElem?_drop,Array.getElem?_toList];congr 1;rw[DG 0x9f102d013653cc7ee0977e3faf804166ea5c3b902ead64357 a]
def TabOk.add{es:wG}(h:wQ){x:Int}{v:α}{N:Nat}(h1:DSS)(h2:E91)(o:B5Z rR)(d:es.size<t.mask) :
  TabOk (AYR rR) (BVE (CUU rR) BUW):=by
 have g:=(N3 h.ris rR).1;have hd:(AYR rR).dummies=#[]:=by
  show OK (bU SetTable.has t.dummies rR) _ t.dummies=#[];rw[h.dum,if_neg];unfold SetTable.has;simp
 have c:A7N<=es.size:=by rw[JY h.size g]
 have f:∀{β:Type}(xs:VQ β) (p:Nat) (y:β),BDW->BPX xs p y size=xs.size+1:=λxs p y w=>by
  rw[<-Array.length_toList,BTZ w,List.length_append,List.length_cons,List.length_take,List.length_drop,Array.length_toList];rw[PD 0x6201ae1bcedeba611b1690aebf26c0e60a29d6]
 refine⟨?_,hd,c4N h.ris h1,ANP u,h.pow,?_,A1M e b a⟩
 .show D9D t.place=EA2;rw[JC f g,E5R,h.size]
 .rcases XC a9n g u with z|z
  .rw[AB z o]
  .exact h.le j z
 .show B5Z EA2;rw[AB E5R d]
 .change AC0 DCA j at b;change CC ((BVE A7N BUW)) e at a;rw[b5Q g]at b;rw[b5Q c]at a;show F67;have k:∀l,GD t.place l j->GD es l e->F67:=λl C D=>by
   rw[IJ n A B (h.reach l j e C D) n A (EYX (B m q))]
  rw[WZ r A7N]
  .rw[EA r]at b a;exact k i b a
  .rw[BD r]at b a;rw[BI s i A7N]
   .rw[EA s]at b a;cases b;cases a;rw[NH N (EYX (h2 m q))]
   .rw[BD s]at b a;exact k _ b a
def a7S(hi:DJ5):cR AUZ:=by
 rw[ASH]
def b8t(mask:Nat)(p:Pr)(h:p.j+p.more<=mask):∀n,BN4 p n+AYE more<=mask
 |0=>h
 |CW=>by
  have b:=b8t mask p h n;rw[D8];rw[dU adv]
  .dsimp only;omega
  .dsimp only;rw[FFT CJG CJG CJG (by
    rw[ASH])]
   rw[FX 0x482873b773a2e9541d9b081d7 h2 a]
def a3P(mask:Nat)(h:Int)(n:Nat):cR QV:=by
 rw[FFT gY gY gY (by
  rw[ASH])]
 have:=b8t mask EGG (y9 (gY+(B4G gY-gY)<=mask)) n;unfold pos;rw[QL 0xd20040647ef3d97]
noncomputable def fr(owner:A26)(j:Nat):Bool:=DX1 bK isNone
def b5S(mask:Nat)(owner:A26):∀(fuel i pt:Nat),(∃r,r<fuel/\AMS (AX7 r)) ->
  CMK (AMS (B4H n)) EM9 (SetTable.layClean.free mask owner fuel i pt) (B4H n)
 |0,_,_,⟨r,h,_⟩=>E6P
 |ABM,i,pt,⟨r,h,c⟩=>by
  unfold SetTable.layClean.free;have f:i<=AUZ:=by
   rw[ASH]
  cases e:A82 (AUZ+1-i) find? (λk=>(owner.getD (i+k) bK).isNone)with
  |some k =>
   dsimp only;rw[List.find?_range_eq_some]at e;obtain⟨e1,e2,l⟩:=e;have d:=List.mem_range.mp e2;refine⟨k,?_,ZX m,?_⟩
   .rw[AB EOP e1]
   .rw[a4h mask i pt m (vI 0x40afc388d153e6a49e61fc945354520edbd8 a)];have:=l m a;rw[A9R fr]
   .rw[EOP]
  |none =>
   dsimp only;rw[List.find?_range_eq_none]at e;have b:∀m,m<ABN->EM9:=λm a=>by
    rw[a4h mask i pt m (aM 0x4a0046fa5a421d81bf312aeb74cb417)];have:=e m (AR 0x189200d44dfc5f0f6d1290a5215b715edd7 f a);rw[A9R fr]
   cases r with
   |zero =>
    have:=b 0 (XW 592550711181662);rw[S1 (show B4H 0=AX7 0 from rfl) c this this]
   |succ r =>
    have hf':AMS (U4 mask BSZ BTC r).1:=by
     rw[Nat.add_comm,a5R]at c;exact c
    rw[ASF n o (b5S mask owner fuel BSZ BTC ⟨r,A9Z b3F,hf'⟩)];have key:∀m,CCY (ABN+m)=JU D8 ESN m:=λm=>by
     rw[a2R,b1m]
    refine⟨ABN+n,AZW key,ZX m,AE key o⟩;by_cases g:m<ABN
    .exact b m g
    .rw[cB j rfl (∃j,m=ABN+j) (m-(mC+1)) AD];rw[AB key (h2 j (aM 0x4c93d69981f094e5fd66ab33c73cacd19a458))]
structure Lay(mask:Nat)(owner:A26)(hs:qI):Prop where
 size:CG4
 val:∀j q:Nat,AS5->∃h,GD hs q h/\∃n,QV=j/\AMA CJL
 ex:∀q,DWH->fW j AS5
 uniq:∀j j' q:Nat,AS5->xR (BZU j') q->j=j'
def a1G(hs:CG4)(a:cR j):AZF j↔∃q,BN1=CE9:=by
 have h:DH8:= AR 0x288f82733da1795ed7 hs a
 unfold fr;rw[Array.getElem?_eq_getElem h,show rF owner.getD j 0=DMY by rw[BZX h]];cases DMY with
 |none=>simp
 |some q=>simp
def Lay.start(mask:Nat):JU Lay (Array.replicate yE none) []:=by
 refine⟨AF,EI j q h,λq h=>AP2 h,BS j a q h⟩<;>
 .rw[Array.getElem?_replicate]at h;split at h
  .cases h
  .cases h
def Lay.free(y:AE0){hs:qI}(L:E22)(z:cR hs.length)(h:Int):CMK DW0 CJL FI3 QV:=by
 have:∃s,BAF/\AMS s:=by
  rw[A2L i];have c:∀s:Nat,BAF->∃q,BZU s=CE9:=λs hs=>by
   rw[<-a1G L.size hs];cases e:fr owner s with
   |false=>rfl
   |true=>rw[DT (A7B s hs) i]
  have:=nodup_le (kS yE λj=>DX1 none getD 0) (AN1 hs.length) ?_ ?_
  .rw[List.length_map,List.length_range,List.length_range]at this;omega
  .rw[CGA];refine(List.nodup_iff_pairwise_ne.mp List.nodup_range).imp_of_mem λ{a b} u v g e=>g ?_;rw[ABD q d (c a (VC (List.mem_range.mp u))) p f (c b (VC (List.mem_range.mp v)))];rw[C9J g1 (owner.getD a none=some q) d]
   rw[C9J t (owner.getD b none=some p) f]
   rw[g1,t]at e;change q=p at e;exact L.uniq a b q d (e ▸ f)
  .intro x hx;rw[FT j w hx];obtain⟨q,d⟩:=c j (VC (List.mem_range.mp w));obtain⟨h',h1,_⟩:=EGP d;rw[C9J g1 (owner.getD j none=some q) d]
   rw[AZ g1 List.mem_range.mpr DL4]
 obtain⟨s,l,o⟩:=this;rw[A9O r A (b0Q y h s l)];exact b5S mask owner _ _ _ ⟨r,by rw[ECE],AI3 o⟩
def Lay.put{hs:qI}(L:E22){h:Int}{n:Nat}(h1:DW0)(h2:AMA CJL):JU Lay CL4 (hs++[h]):=by
 have l:QV<owner.size:=by have:=DMI;rw[AB L.size (lq 157452360662 this)]
 have f:∀q,BZU QV≠CE9:=λq z=>by
  rw[ABS ((a1G L.size DMI).mpr (ABF z)) h1]
 have get:∀j:Nat,(CL4)[j]?=if j=QV then BK some hs.length else BN1:=λj=>by
  rw[AB8 Array.getElem?_setIfInBounds QV]
  .rw[IP,DI4,EA l]
  .rw[GA,if_neg λz=>e z.symm]
 rw[lF b (owner.setIfInBounds QV (AO hs.length)).size yE Array.size_setIfInBounds L.size]
 have keep:∀j,cR j->AZF j->pR fr CL4 j:=λj a e=>by
  rw[a1G b a,get];split
  .exact QD
  .exact(a1G L.size a).mp e
 refine⟨b,A5S j q,BH q i,DQ j g q e e'⟩
 .rw[get]at e;rw[BI c j QV]
  .rw[GM jE];rw[EF h (UH AP0 Nat.sub_self) n c.symm (EQ2 h (h2 m d))]
  .rw[A2E]at e;obtain⟨h',e1,o,e2,k⟩:=L.val j q e;rw[EF h' (AE (B5Y DL5) e1) o e2 (EQ2 h' (k m d))]
 .rw[BI c q hs.length]
  .rw[AQ QV (dE get EK c)]
  .rw[List.length_append,List.length_singleton]at i;rw[ABE a (L.ex q (~~~a9C i c))];rw[KG j];rw[get,if_neg]
   .exact a
   .intro z;exact f q (z ▸ a)
 .rw[get]at e e';have lt:∀j:Nat,AS5->DWH:=λj z=>by
   obtain⟨_,e1,_⟩:=EGP z;exact DL5
  rw[BI c j QV]
  .rw[BI c' g QV]
   .rw[c,c']
   .rw[jE]at e;rw[AW DH3 e' e];rw[DT (lt _ e') (~~~c0F)]
  .rw[BI c' g QV]
   .rw[A2E]at e;rw[AW (EA c') e' e'];rw[DT (lt _ e) (~~~c0F)]
   .rw[A2E]at e;rw[DH3]at e';exact L.uniq j g q e e'
def b1A{mask k:Nat}(b:AE0):∀(rest done:qI) (owner:A26),BW3 done->done.length+rest.length<=mask ->
  ∃a,rF rest.foldl (λqP h=>do
   let (owner,k) <-qP
   let j <-SetTable.layClean.free mask owner (SetTable.turns mask) (SetTable.bits h % (mask+1)) (SetTable.bits h)
   pure (owner.setIfInBounds j (some k),k+1)) (owner,done.length)=some (a,lH done rest)/\Lay mask a (done++rest)
 |[],done,owner,L,_=>⟨owner,AF,BQ L⟩
 |A4Z h,done,owner,L,d=>by
  rw[List.length_cons]at d;rw[ASF n c (L.free b AD h)];rw[ABC e1 e2 (b1A b rest (done++[h]) _ (A1O L.put) (BPI List.length_append List.length_singleton))];rw[FK a ?_ (by rw[iE List.append_assoc e2 e2])];rw[List.foldl_cons];rw[List.append_assoc]at e1;refine Eq.trans (WQ (λz=>List.foldl _ z rest) ?_) e1;show(Option.bind FI3 λj=>AO (CXM j done.length,done.length+1))=_;rw[c,List.length_append];rfl
def b1B(b:AE0)(a:VQ Int)(c:cR a.size):∃owner,SetTable.layClean mask a=some owner/\BW3 a.toList:=by
 obtain⟨owner,e1,e2⟩:=b1A b a.toList [] _ (Lay.start mask) (BQ c);rw[FK owner ?_ e2];unfold SetTable.layClean;rw[<-Array.foldl_toList];exact congrArg (Option.map (·.1)) e1
def b4i{α β:Type}(f:DWE):∀l:CJ,RZ l (AY (f x).isSome)->lE l.filterMap f some=l.map f
 |[],_=>rfl
 |AA8,h=>by
  rw[AC c (b4i f l λy b=>h y y0) a A7K];cases e:f x with
  |none=>rw[cG a a]
  |some y=>rw[List.filterMap_cons_some e,List.map_cons,List.map_cons,c,e]
def b9c(es:oG):BD3 es.size (es[·]?)=es.toList:=by
 have h1:ES6 (((List.range es.size).filterMap (es[·]?))) DLQ:=DF4 λq a=>by
  have:=C1C;simp[this]
 have h2:es.toList.map some=DLQ (es[·]?):=by
  rw[E3C];simp at h1;simp[h1]
 exact NE List.map_inj_right (fY h BTD) (h1.trans h2.symm)
noncomputable def G4(mask:Nat)(owner:A26):EE4:=BD3 yE λj=>zX owner.getD j none (j,·)
def W4(hs:CG4)(j q:Nat):(j,q)∈G4 mask owner↔AS5:=by
 rw[FY G4 List.mem_filterMap];constructor
 .rw[tY j' a];have a:=C1C;rw[Option.map_eq_some_iff]at e;rw[ZL e1 e2 e];cases e2;rw[Array.getD_eq_getD_getElem?,EME]at e1;rw[AB EME (WQ some e1)]
 .intro e;have b:DH8:=(Array.getElem?_eq_some_iff.mp e).1;rw[AU j (List.mem_range.mpr (AR 0x46f5807638284ca0ed7 hs b)) (UH Array.getD_eq_getD_getElem? e)]
def c2P(mask:Nat)(owner:A26):(G4 mask owner).Pairwise λa b=>QR<LG:=by
 unfold G4;refine List.Pairwise.filterMap _ (λa b c p d q e=>?_) List.pairwise_lt_range;rw[Option.map_eq_some_iff]at d e;rw[AL8 d];rw[AL8 e];exact c
def c6j(F:AE0)(J:3<=k)(es:wG)(G:cR es.size)(finger moves:Nat)(led plain:Bool) :
  ∃t' d,SetTable.laid mask finger moves led plain (es.map (·.1))=some (t',d)/\t'.mask=mask/\t'.led=led/\EX2 plain ((d.filterMap (es[·]?))) ((d.filterMap (es[·]?))):=by
 rw[ZL e L (b1B F (es.map (·.1)) DGJ)];refine cN {mask,place:=DUG,dummies:=#[],finger,led,moves,plain} (AL4 (((G4 mask c).map (·.2)))) ?_ rfl rfl ?_
 .rw[sS SetTable.laid e]
 rw[XJ B p (G4 mask c) (HS<es.size) p o (by
  obtain⟨h,h1,_⟩:=L.val CU HS (CKF o);rw[A7W DL4])]
 have w:=c2P mask c;have nd:((G4 mask c).map (·.2)).Nodup:=by
  rw[CGA];refine w.imp_of_mem λ{a b} K M A z=>?_;rw[AC h1 (AKW QR a.2 mp K) h2 (AKW LG b.2 mp M)];rw[z]at h1;rw[MM (A4J L.uniq h1 h2) 899404274651542 A]
 have g:∀q,q∈BRF G4 mask c↔q∈AN1 es.size:=λq=>by
  rw[List.mem_range];constructor
  .intro u;rw[FT p o u];exact B p o
  .intro u;rw[ABE s (L.ex q (BQ u))];rw[DDZ (QX (j,q) (AKW j q mpr s))]
 have perm:((G4 mask c).map (·.2)).Perm (List.range es.size):=(List.perm_ext_iff_of_nodup nd List.nodup_range).mpr g;have r:∀l:HW,(l.toArray.filterMap (es[·]?)).toList=l.filterMap (es[·]?):=λl=>AF
 have f:ES6 ((((G4 mask c).map (·.2)).filterMap (es[·]?))) ((G4 mask c).map (·.2)).map:=DF4 λq u=>by
  have:=List.mem_range.mp (NE g q u);simp[this]
 have v:(((G4 mask c).map (·.2)).toArray.filterMap (es[·]?)).size=EXQ:=by
  rw[B3Z f];rw[List.length_map,List.length_map,List.length_map]at this;rw[C06 r];rw[QB]
 have t:EXQ=es.size:=by
  rw[A20 perm.length_eq List.length_map List.length_range];rw[QB]
 rw[KG ⟨?_,rfl,?_,ANP s,⟨k,J,F⟩,GU v t G,A1M e' x E⟩]
 .rw[L1 v]
 .rw[ris_list];show((G4 mask c).map (·.1)).Pairwise (· < ·);rw[AB List.pairwise_map w]
 .rw[MD s (j∈F5W) s]
  rw[FT p o s];rw[KP (Array.getElem?_eq_some_iff.mp (CKF o)).1 L.size];show cR CU;omega
 .rw[MD x (CC (((G4 mask c).map (·.1))) j) x]
  rw[<-Array.getElem?_toList,r]at E;rw[List.getElem?_map,Option.map_eq_some_iff]at x;rw[dJ p o x];have h1:=WQ (λl=>l[i]?) f;simp only[List.getElem?_map,E,o,Option.map_some]at h1;rw[CGN]
  have C:=B6O CKF o;obtain⟨h,y,n,H,I⟩:=L.val CU HS C;have N:h=e'.1:=by
   rw[Array.getElem?_toList,Array.getElem?_map,<-h1]at y;injection y with y
   exact y.symm
  rw[N]at H I;rw[FK n H (ANN O)];obtain⟨P,D⟩:=(a1G L.size (D4L _)).mp (I m O);have:DYD∈F5W:=EAS (AKW _ P mpr D);show DYD∈DUG;rw[fQ]
 .rw[r];refine fA (oD perm.filterMap _) List.Perm.of_eq;exact b9c es
def b5f(n:Nat):∀(fuel a:Nat),3<=a->AM1 ((a+fuel))->∃b,3<=b/\SetTable.sizeAbove.go n fuel DGT=AJ2/\AM1 b/\(b=a∨EBH)
 |0,a,c,h=>(EY3 h)
 |ABM,a,c,h=>by
  unfold SetTable.sizeAbove.go;by_cases d:DGT<=n
  .rw[EA d,<-Nat.pow_succ];obtain⟨b,e,f,g,i⟩:=b5f n fuel lR (AO7 0x66a144d53c8d) (GU Nat.add_assoc (Nat.add_comm 1) h);refine⟨b,e,f,g,DC ?_⟩;rw[BM i]
   .rw[WX z Nat.pow_succ]
   rw[NT]
  .rw[BD d];exact EY3 AD
def a2Z(n:Nat)(h:DV8):∃b,3<=b/\SetTable.sizeAbove n=AJ2/\AM1 b/\(b=3∨EBH) :=
 b5f n 64 3 BV (Nat.lt_of_lt_of_le h AH)
def b6D(t:SetTable)(es:wG)(a:Nat)(hw:a<2 ^ 60)(m:es.size<a) :
  ∃t' c,t.relaid (es.map (·.1)) a=some (t',c)/\a<=t'.mask/\t'.mask<=2*a+7/\t'.led=t.led/\EX2 t.plain ((c.filterMap (es[·]?))) ((c.filterMap (es[·]?))):=by
 obtain⟨b,d,e,l,f⟩:=a2Z a hw;have n:0<AJ2:=DX3;rw[FY SetTable.relaid e];obtain⟨t',c,h1,h2,g,h,i,j⟩:=BC c6j mask D2P k b AD d es AD t.finger (t.movedTo D2P) t.led t.plain;refine⟨t',c,h1,SD h2,?_,g,h,i,j⟩;rw[h2];rw[BM f]
 .rw[AZ z lq 0xa2a16c9ecd75dcd5d87cf5d]
 .omega
universe Tab
universe L2
namespace L2
variable {Q:jG}{a:qE}{r:qI}
namespace Tab
open PySem
section
variable {prog:qG}{w:World}{A:Around}{E:qH}{s:qC}
noncomputable abbrev TK(prog:qG)(w:World)(h:Heap)(r:qI)(a:qE):Prop:=IsTupleKey AMH h r a
def TK.keep{h h':Heap}(x:BYL h)(k:E0S):BYL h':=by
 rw[A0F its n h1 h2 x];rw[EF o its n DUL h2]
def items_int{vs:AN}(h:ItemsAre AMH r vs):FP vs (∃i t,v=AH6):=by
 induction h with
 |nil=>intro v b;cases b
 |@cons k v ks vs h1 _ c =>
  intro u a;rcases AVW with e|a
  .rw[fN t ht Value.isInt_shape h1];rw[AU k t (e.trans ht)]
  .exact c u a
def b1k(e:E3F)(h:C6Z):EFW ofAClassStatement:=by
 rw[FIZ d];have c:=items_int hi;rw[A7C ofAClassStatement (wpAny_typeOf f ?_)];dsimp only;rw[A90];rw[uM];rw[MF];rw[AW2 g hd];dsimp only;rw[QQ];rw[F71 c]
 rw[FJN ofAClassStatement]
 rw[F6A]
def c3R(e:E3F)(h:Q true s):EFW hashByValue:=by
 rw[FIZ c];have d:=items_int hi;unfold hashByValue;rw[C60 f F.slot_tuple_hash.lookup];dsimp only;rw[AW2 g hd];rw[QQ];rw[RK (forIn c _ _)];rw[F71 d]
 rw[FJN hashByValue]
 rw[F6A]
def c0i{b:qE}{l:AN}(f:CJ4)(g:EXL l)(h:C6Z):F1 (KB searchCouldBeSeen b l):=by
 unfold searchCouldBeSeen;rw[QQ];rw[DBW (λrest c s'=>s'=s/\MY FN/\EXL rest) g]
 .rw[DBA c hc];obtain⟨a,b',rfl,d⟩:=D5I;have e:GR rest (D8D (TK prog w s'.heap a b')):=λv i=>D7D i;dsimp only;split
  .exact wpAny_pure (sN e)
  .rw[AX (E87 f ?_)];rw[MF];rw[AX (E87 d ?_)];rw[MF];rw[AX (b1k f ?_)];rw[MF];rw[AX (b1k d ?_)];rw[u7 MF (sN e)]
 .rintro c s' ⟨rfl,hc,_⟩;dsimp only;rw[u7 hc h]
noncomputable def hsh(prog:qG)(w:World)(r:qI):Int:=tupleKeyHash AMH r
noncomputable def ent(prog:qG)(w:World)(x:AHS):C56:=(BXR,DCT OQ)
def M8{α:Type}{t:SetTable}{es:wG}(ok:wQ):EO t.fits es.size:=by
 unfold SetTable.fits SetTable.fill;have:=ok.room;simp[ok.size,ok.dum,this]
def c9s{α:Type}{t:SetTable}{es:wG}(ok:wQ):PR t.gaveWay:=by
 obtain⟨k,a,b⟩:=ok.pow;rw[cB c rfl (∃c,k=c+1) (k-1) (aM 0x3f1f0b1fb2fa055ac16d2cb48d)];rw[Nat.pow_succ]at b;unfold SetTable.gaveWay;have:t.mask % 2=1:=AD
 rw[this];rfl
def c2R{c:Bool}{m:w6}{X Y:Sem SetFound}{Q:DIJ}(b:∀a:jG,a false s->MV LM m a)(h:F1 Y):F1 (QO c (m>>=λz=>QO z X Y) Y):=by
 split
 .rw[AX (b _ ?_)];rw[AB MF h]
 .exact h
def a7Q{a b:qE}{r:qI}{o:Obj}{es:AQA}{ep:Nat}{t:SetTable}{xs:nY}{Q:DIJ}(U:DNI)(hd:E3X)(ok:wQ)
  (G:∀e∈es.toList,∃x∈xs,e=BFN) (O:dL (BFN∈es.toList)) (g:EZC) (S:CJ4) (hu:CG2) {N:Nat}(Y:N<BEH) (j:A8I A6R) (u:BW8 N YR)
  (K:r∈BA4->Q (.there none) s) (C:r∉BA4->Q (.free A6R false) s) :
  ∀(fuel d:Nat) (st:qD SetTable.Probe),BCX<fuel->d<=N->st.getD (t.probeStart YR)=CMC->(∀m,m<d->A1V i x AHS (YA->C1O (YK YR m)->CC es BFN->ET≠r)) ->
   F1 (setSearchFrom a GV YR true fuel st)
 |0,d,st,h,_,_,_=>absurd h (XW 592614721759062)
 |ABM,d,st,hf,l,W,M=>by
  rw[A7C setSearchFrom (DJA U hd BV6)];dsimp only;rw[c9s ok,MF,W];have f:∀m,AV3 CMC m=E0K:=λm=>BZH a2R
  have Z:dQ e C56 BR6 ((es[i]?.map (·.1)).getD 0=e.1):=λi e z=>XA z
  have P:∀n,d+n<N↔lO E0J/\AMA (lO E0K):=λn=>by
   constructor
   .intro h;rw[AQ (u _ h) (λm H=>u _ (~~~c2r h H))]
   .rw[CGL];rw[F4J]
    rw[NT]
    .rw[z]at h1;rw[DT h1 j]
    .have:=h2 BCX ESI;rw[TU COT];rw[DT this j]
  rcases b0T ok.ris ok.dum (λi=>(es[i]?.map (·.1)).getD 0) YR BEH CMC (XA a3C) ⟨BCX,BJ 0xdeec04ff2151ab59e7c9d3deea7 Y,GU f COT j⟩with⟨n,h1,h2,h3⟩|⟨n,h1,h2,h3,h4⟩
  .rw[FIU h3 h3 h3];rw[f]at h1⊢;have e:AKG=N:=by
    rw[F4J]
    rw[HL (u _ z) h1]
    rw[NT]
    .rw[A20 (h2 BCX ESI).1 f COT];rw[DT this j]
   rw[A0N e (eR C H)];rw[FT x I H];rw[A8C (List.mem_iff_getElem?.mp (O x I))];rw[Array.getElem?_toList]at hi;have v:i<t.place.size:=by rw[ok.size];exact(Array.getElem?_eq_some_iff.mp hi).1
   obtain⟨q,q1,q2⟩:=ok.reach i _ _ (a3s v) hi;change EG3=_ at q1;change BW8 q BXR at q2;have k:C1O EG3:=by rw[AZ q1 a3s v]
   have T:q<N:=by
    rcases Nat.lt_trichotomy q N with z|z|z
    rw[NT]
    .rw[iE z k (rL Array.mem_of_getElem? k j)]
    rw[HL (q2 N z) j]
   rw[VG (q<d)]
   .exact M q c i x I k hi rfl
   .rw[FES h2 q (VD 0xc381240c6e9bcb94c8f9d91b1e30a598 e T c) q q (a3z ok.ris k)];exact D rfl
  .rw[FIU h4 h4 h4];rw[f]at h1 h2⊢;have L:d+n<N:=dH P n (B6A (λm H=>by rw[T6 (h3 m H).1 f]));have k:=(a4p ok.ris _).mpr h1;generalize J:AVL E0J=ib at h2 k⊢;have v:ib<es.size:=by rw[<-ok.size];exact(Array.getElem?_eq_some_iff.mp k).1
   obtain⟨x,I,ex⟩:=G es[ib] AF;have F:GD es ib BFN:=by rw[Array.getElem?_eq_getElem v,ex]
   rw[B62 F];rw[LV c2R (λQ' hq=>c0i S DTS hq)]
   .rw[FT e R hy];have R:e∈es:=by
     have:=Array.mem_toList_iff.mp R;exact C3B Array.mem_filter.mp
    obtain⟨x',B,ex'⟩:=G e (BQ R);rw[BW x'.1 x'.2 (XA ex') ERX]
   rw[AJX (BPP AMH eqBool hu DZV S ?_)];rw[AX (wpAny_setState_of U hd BV6 ?_)];dsimp only;rw[BI p ET r]
   .rw[AZ (lL (by rw[decide_eq_true p];rfl)) wpAny_pure (B6N K ⟨x,I,p⟩)]
   .rw[EMH];have sm:t.sameMemory t.moves t.mask=some true:=by unfold SetTable.sameMemory;simp
    rw[B62 sm];rw[EK,b5e ok.ris ok.dum,B2T];dsimp only;rw[J,F];dsimp only;rw[PY wpAny_isSame_ref_self];rw[EK];rw[uM];dsimp only;rw[EMH];refine a7Q U hd ok G O g S hu Y j u K C fuel (AKG+1) _ (AR 0x130daeb00a179953af34bc9141d14d25f470e305e3358 hf L) (BJ 89347051605268887 L) (by rw[<-a2R];rfl) λm H i x' B V hi=>?_;rw[VG (m<d)]
    .exact M m c i x' B V hi
    .rw[BI c2 m AKG]
     .subst c2;have:ib=i:=AYH J a3z ok.ris V
      rw[iF];rw[F]at hi;injection hi with hi
      have D:OQ=x'.2:=by
       rw[AWB Prod.snd hi];injection this
      intro z;rw[GJ X DZV D X];exact p (oD X.inj ERX z)
     .rw[FES h3 m (~~~lq 0x212da69d8ddb0d7c8451a07feed55bde5a74ab5317 H c c2) m m (a3z ok.ris V)];intro z;exact D (BZH z)
noncomputable def a1N(prog:qG)(w:World)(ld:Bool)(h:Heap)(a:qE)(xs:nY):Prop :=
 ∃o es ep t,uW/\o.ExactSet/\o.data=DA1/\ED9 DR5/\wQ/\DE8/\es.size*5<t.mask*3/\t.mask<=8*xs.length+7/\t.led=ld
def d0B{ld:Bool}{b:qE}{xs:nY}(hS:E78 a)(M:EZC)(hk:CJ4)(hu:CG2)(Z:xs.length<1000)
  (h:∀h' I c,CFK->A6V ld h' a I->((r∈xs.map (·.1)/\I=xs)∨(r∉xs.map (·.1)/\I=(r,b)::xs))->Q c (AGC CUJ)):F1 (setAdd a GV):=by
 obtain⟨o,es,ep,t,J,D,hd,q,ok,G,U,T,R⟩:=hS;rw[BG4 V xs.length q.length_eq]
 unfold setAdd;rw[EEG (wpAny_pyHash_tuple hu hk ?_)];unfold setAddHashed;rw[BU0];unfold setAddHashedIn;rw[C3K EUK];rw[A5P (PR (KB byScan b es)),MF];unfold setSearch;rw[EZ N hN K L ok.first YR];have a7:N<100000:=by unfold SetTable.turns at hN;omega
 rw[AX (BC a7Q s BKO xs xs J hd ok (BH e he) (u9 (B6N q.mem_iff.mpr (QX x hx))) M hk hu hN K L (LR a3) (LR C) 100000 0 none AD GH rfl (λm hm=>A9S hm AZQ))]
 .rw[IJ x hx rfl (List.mem_map.mp (q.mem_iff.mp he)) x hx rfl]
 .rw[AK9];exact h s.heap xs false (Heap.SameBut.refl a s.heap) ⟨o,es,ep,t,J,D,hd,q,ok,G,U,T,R⟩ (uB a3)
 .dsimp only;rw[C3K EUK];rw[EA (show EDP from G)];rw[AX (c3R (s:=BKO) hk ?_)];simp only[↓reduceIte,Bool.not_false,Bool.true_and];have k:=ok.add (v:=CU9) K L (gH a3P) (BJ 0x1f7bf9f1fed1e2cf3c5016e6 U);have S:BWE mask=t.mask:=rfl;have p:EDP:=G;have n:BWE led=ld:=R;have a0:BWP<=es.size:=by
   rw[T6 (N3 ok.ris A6R).1 ok.size]
  have P:=a1F es BWP D75 a0;change FU _ _ (storeSet a EQD _>>=_) _ _ _;generalize (AYR A6R)=l at k S p n⊢;generalize EQD=d at k P⊢;have u:d.toList.Perm (FE D9T DR5):=by
   rw[GG P List.perm_middle.trans ?_];rw[CG List.take_append_drop List.map_cons (List.Perm.cons _ q)]
  have y:d.size=B6R:=by rw[E4A u.length_eq List.length_cons]
  have W:CK d.size:=by rw[AB sizeLine_eq (lq 0x18cb50a80d39c92822e7c5121dd27b180e6 Z y)]
  rw[PP (D9E wpAny_storeSet_of ?_) W];have B:RO (AY4 AJN get?) {o with data:=.set d C0F l}:=by
   rw[T6 (C4T AJN J (by rw[EY9];rfl)) EY9]
  have Y:=Heap.SameBut.update s.heap a AJN;have O:l.fill=d.size:=by unfold SetTable.fill;rw[k.size,k.dum];rfl
  by_cases f:AY l.tooFull
  .rw[EA f];rw[FD5];rw[QQ];unfold setRelay;rw[C3K (wX wpAny_setState_of s D0N B (M8 k))];have a2:SetTable.grown (es.size+1)=BFP:=by
    unfold SetTable.grown;rw[F2 (BD (AR 0xe2b0bca77bae2cb7f6f483c55f23180e6 Z V)) V lq 0x1678989ff922ef5]
   rw[a2];obtain⟨sb,a6,a4,a9,a5⟩:=a2Z BFP EDS;have a8:SetTable.sizeAbove BFP<=16000:=by
    rw[a4];rw[BM a5]
    .rw[bA z]
    .omega
   rw[PU (by rw[KO sizeLine_eq])];obtain⟨H,g,r1,r2,r3,r4,r5,X,F⟩:=b6D l d BFP EDS (BJ 0x11242a2843a0e36b4076d6 y);rw[r1];rw[DUS i (g.filterMap (d[·]?)).size d.size F.length_eq]
   rw[QQ];rw[RK ((if ((g.filterMap (d[·]?)).size != d.size)=true then _ else pure (g.filterMap (d[·]?),H)))];rw[A0N (PU (by rw[L1 i])) ?_];dsimp only;generalize g.filterMap (d[·]?)=j at X F i⊢;refine wpAny_storeSet_of (s:=D0N) B rfl ?_ (AE i W);have a1:RO (AY4 AJN update a EFH).get? {o with data:=.set j (C0F+1) H}:=by
    rw[T6 (C4T EFH B (by rw[EWZ];rfl)) EWZ]
   rw[FE4 (Y.trans (Heap.SameBut.update _ a _)) ⟨_,j,_,H,a1,D,rfl,F.trans u,X,AE r5 p,?_,?_,AE r4 n⟩]
   .rw[i,y];rw[DG 0x212523b51c25abf1c3f2f0dcd5765bca079e r2]
   .rw[AB List.length_cons (lq 0x3c092244e61dc6f3ae7a5b49241a6 r3)]
  .rw[BD f];rw[FD5];rw[FE4 Y ⟨_,d,_,l,B,D,rfl,u,k,p,BJ 0x7136d5d0d6a225e53c7eeb66 f,?_,n⟩];rw[List.length_cons,S];rw[DG 0x666b1058898722ff2393a326 T]
#where
universe Tab
universe L2
namespace L2
namespace Tab
open PySem
structure Came(rows:ACD)(i:Nat)(xs:nY):Prop where
 len:BQB
 nd:BCN
 from_:dL ESL
 all:∀j,j<i->(rows j).1∈BA4
section
variable {prog:qG}{w:World}{A:Around}{R:vM}{I:qE}{fp wr:EW}{G:EE3}{n:Nat}{P:DZT}{St:C3G}
def b0u(W:FKC)(S:qE)(D:DZC){ld:Bool}{h0:Heap}(L:DS6 (b∉wr/\IU S))(rows:ACD)
  (K:ENG D40) (l:BUS (TK prog w h0 D2H AJ1)) (hn:TB) (hu:BTY 10) :
  FC0 xs nY (n-i=k->B8Q->EEM->(RW (IC h0.get?) RP)->E78 S->Came rows i xs ->
   FFO f (A6V ld s'.heap S f) (EIT n) ->
   F3U):=by
 have E:DZD:=λh=>D E4H;have m:EN9:=λb F=>IS F;intro k;induction k with
 |zero =>
  rw[FL7];have X:i=n:= bV c2F O
  rw[FGE X r u];refine wpAny_pure (hR s' xs (u.mono m) ?_ d);obtain⟨o,es,ep,t,Y,rest⟩:=T;rw[IO o es ep t F0D rest]
 |succ k ih =>
  rw[FL7];have a:NB:= ~~~c2z O
  rw[BYV (CMH a r (DQ v s' hP J u))];obtain rfl:=K i v a hP;have U:A6V ld s'.heap S xs:=by
   obtain⟨o,es,ep,tb,Y,rest⟩:=T;rw[IO o es ep tb F0D rest]
  have p:DS6 DFQ:=IY o (u.heap b o (AHH L) (RT y));rw[FF9 (DCT AJ1) (AI AJ1) (d0B U C8L ((l i a).keep p) (ABI wC 0xc5a20a69ea1a6 hu) (by have:=d.len;exact lq 0x27bc4e65f1fa42ff6e3261b080e7 hn a this) (EE h' f c q V Z))]
  .rw[dJ j g (C16 M)];exact(l j (~~~b3Q a g)).keep p
  have Q:EIT AM:=by
   rw[EC8 Z h1 h1]
   .refine⟨EBT d.len,d.nd,C8L,ANP g⟩
    rw[ERI (C16 M)]
    .rw[ADL c]
     .rw[AB c h1]
     .exact d.all j E7V
   .refine⟨EVC d.len,by rw[B20 List.nodup_cons];rw[AQ h1 d.nd],C8L,ANP g⟩
    .rw[BM (AN0 M)]
     .rw[AU i B6F z]
     rw[ERI (C16 z)]
    .rw[List.map_cons];rw[ADL c]
     .rw[AB c List.mem_cons_self]
     .exact IS (d.all j E7V)
  rw[UQ ⟨BOC plainId_quiet,ih AM _ f (~~~c7N O) a (FFE J F) B38 V Q (DQ a0 N H C B)⟩]
  .rw[AB (BEZ CS (A6B D h F)) e]
  .show WJ;rw[AB (CS b (RT L).2) (RT p)]
  .refine hR a0 N (Moved.trans W.gtrans ((u.mono m).then_heap A71 (BS b o F e)) H) C B;rw[AB (BEZ CS (AY2 F h)) e]
#where
section
variable {prog:qG}{w:World}{A:Around}{E:qH}{s:qC}
def a0b(a:qB){Q₁:qH}
  (h:KB Q₁ s.heap.objs.size CSO) :
  codeAny LM A (.call (.builtin "set.__new__") (MZ [A4N,a])) (wants Q₁ E) s:=by
 rw[HI codeAny_of_tree];show KZ A.in1 ((do checkBuiltinCall "set.__new__" ⟨[.type "set",a],[]⟩;again (.builtin "set.__new__" ⟨[.type "set",a],[]⟩)));rw[AX (wpAny_of_eq (PySem.F.newCall_set_1 a) (A1U (CV3 (DKN plainId_quiet) PySem.F.entry_set_new)))];rw[DKN Around.under_plainId];unfold Builtin.«set.__new__» Builtin.Frozenset.newClass;have b:=sub_set_self;rw[nN c];dsimp only
 wp_walk
 rw[fE wpAny_askSetting wpAny_pure];dsimp only;simp only[newObj];rw[AX (yI wpAny_alloc)];rw[C7F]
def a7P{c:Bool}{h:Heap}{a:qE}(e:ZY (AU1 c)):A6V c h a [] :=
 ⟨_,#[],0,_,e,C81,rfl,List.Perm.nil,⟨rfl,rfl,λa b h1 h2=>A9S h2 (IF SetTable.fresh),λj d=>by simp[SetTable.fresh]at d,QX 3 BV,GH,λi j e h1 h2=>AFM h2⟩,rfl,bP (0*5<7*3),bP (7<=8*0+7),rfl⟩
def a2W:E2J A4N:=AN4
def V3:E2J DEN:=AN4
def a7C{l:qE}{items:CO}{rows:ACD}{Q:qH}
  (hh:PH) (hl:DV3) (y:EA1) (u:F05) (hn:DH6) (hu:E0L)
  (h:EUV (B14 ->
   CF6)) :
  CME:=by
 rw[CQA]
 rw[VN]
 rw[CQ3];cases r with
 |error e=>exact K
 |ok fl =>
  cases fl with
  |ret z =>
   rw[FFY]
   rw[VN]
   rw[CPM (BPD (BOZ a) (B14 /\
     AHU))]
   .rw[FCY F6C a2W V3 DRK]
    rw[CQ1 IsList t]
    wp_walk
    rw[EAO]
    have q:l≠AIG:=by
     rw[AE5 p]
    rw[CJ6 (by
     rw[CN3])]
    have m:EAF
       = C12:=PQ P
    rw[FGZ (FM3 (EAJ)
     CKO)]
    rw[FIT]
    case hR =>
     rw[CQB (by
      rw[AE5 S])]
     rw[CNS]
   .cases r₂ with
    |error e=>exact hr₂
    |ok fl₂ =>
     cases fl₂ with
     |ret r =>
      rw[CQ2]
      rw[VN]
      rw[CPF]
     |_=>rw[B64]
  |_=>exact K.elim
def a7i:E2I A4N:=AN4
def a2i:E2I DEN:=AN4
def a7b{l:qE}{items:CO}{rows:ACD}{Q:qH}
  (hh:PH) (hl:BO9 s.heap.IsTuple) (y:EA1) (u:F05) (hn:DH6) (hu:E0L)
  (h:EUV (B14 ->
   CF6)) :
  CME:=by
 rw[CQA]
 rw[VN]
 rw[CQ3];cases r with
 |error e=>exact K
 |ok fl =>
  cases fl with
  |ret z =>
   rw[FFY]
   rw[VN]
   rw[CPM (BPD (BOZ a) (B14 /\
     AHU))]
   .rw[FCY (CQ BOP l (A67 gJ k D8N d)) a7i a2i C9B]
    rw[CQ1 IsTuple t]
    wp_walk
    rw[DCH wpAny_pyIter_tuple]
    have q:l≠AIG:=by
     rw[AE5 p]
    rw[CJ6 (by
     rw[CN3])]
    have m:DAY (pW "tuple_iterator" BIY)
       = C12:=PQ P
    rw[FGZ (FM3 (DBN Walks.tuple)
     CKO)]
    rw[FIT]
    case hR =>
     rw[CQB (by
      rw[AE5 S])]
     rw[CNS]
   .cases r₂ with
    |error e=>exact hr₂
    |ok fl₂ =>
     cases fl₂ with
     |ret r =>
      rw[CQ2]
      rw[VN]
      rw[CPF]
     |_=>rw[B64]
  |_=>exact K.elim
#where
universe Tab
universe L2
namespace L2
variable {i:Nat}{it:qE}{t:SetTable}
namespace Tab
open PySem PySem.W
def a6S{α:Type}:AHY l CJ i h (i<l.length) (([l[i]]++l.eraseIdx i).Perm l)
 |AA8,0,_=>AF
 |AA8,AM,h=>by
  have a:=a6S l i oK;simp only[List.getElem_cons_succ,List.eraseIdx_cons_succ,List.singleton_append];exact(List.Perm.swap x (l[i]'(oK)) _).trans (List.Perm.cons x a)
def b5n{α:Type}(next:B85):∀(fuel k:Nat) (left:CJ) (out:oG),left.length=fuel->(pickOrder.go next fuel k left out).toList.Perm (out.toList++left)
 |0,k,left,out,h=>by
  rw[F2 DGE List.append_nil List.Perm.refl _]
 |ABM,k,left,out,h=>by
  unfold pickOrder.go;have hi:next k % left.length<left.length:=BNW (A9Z c2c)
  rw[B62 UY];refine rS (b5n next fuel BX _ _ (BSY (List.length_eraseIdx_of_lt hi) 0x2474f277238766d84af0b9cdf36d6)) ?_;rw[EF0 Array.toList_push (a6S left _ hi)]
def b6K{α:Type}(next:B85)(xs:oG):(pickOrder next xs).toList.Perm xs.toList:=by
 have:=b5n next xs.size 0 xs.toList #[] AF
 rw[ABJ ((#[]:oG).toList=[]),List.nil_append]at this;rw[QB]
def slot_seti_next:DWU "__next__" "set_iterator.__next__" :=
 FI0 "__next__"
  EV8 (by rw[BNN])
def a0Y:AT1 "set_iterator.__next__" Builtin.«set_iterator.__next__»:=entryFor_of_tree (by kernel_rfl)
def a1M(a:qB):CCN "set_iterator.__next__":=by
 rw[BRU]
def a1d:DWU "__iter__" "set_iterator.__iter__" :=
 FI0 "__iter__"
  EV8 (by rw[BNN])
def a6T:AT1 "set.__iter__" Builtin.«frozenset.__iter__» :=
 FF3 "frozenset.__iter__"
structure SRaw(h:Heap)(a:qE)(es:AQA)(ep:Nat)(t:SetTable):Prop where
 ex:∃o,uW/\o.ExactSet/\E3X
 ok:wQ
 plain:DE8
section
variable {prog:qG}{w:World}{A:Around}{E:qH}{s:qC}{a:qE}{es:AQA}{ep:Nat}
def SRaw.typ(x:ADG):E1A:=EUG x.ex h2.1
def c3n{Q:jG}(e:E1A)(h:C6Z):AXE Builtin.List.listLengthHint a:=by
 unfold Builtin.List.listLengthHint;rw[C60 e PySem.F.slot_set_len.lookup];generalize d:("set.__len__" : String)=f
 wp_delta
 rw[show CQ splitId f ("set","__len__")from by subst d;rw[RC]];subst d;rw[CVV "set" e AN4];refine wpAny_ite_split (λc=>absurd c AH) mJ;refine wpAny_ite_split mJ (λc=>absurd FV c);rw[AX (wpAny_typeOf e ?_)];rw[C7F]
noncomputable def a1n(w:World)(a:qE)(ep:Nat)(es:AQA):AQA:=if B11 then pickOrder (w.params.setOrder a ep) es else es
def ord_perm:(A9J).toList.Perm es.toList:=by
 rw[dU a1n]
 .exact BZ b6K
 .exact List.Perm.refl _
noncomputable def a4J(w:World)(t:SetTable):B85
 |0=>0
 |AM=>if B11 then 0 else AE4
noncomputable def SetIt(w:World)(h:Heap)(it a:qE)(i n ep:Nat)(t:SetTable):Prop:=∃o,AK3 it/\AIM "set_iterator"/\CE6 #[AJO BB7,rawInt i,CM,rawInt n,AJO ep]
def b8K{Q:qH}(D:ADG)
  (q:DR0 "set_iterator" #[DKT,DKT,CM,AJO es.size,AJO ep]):C9Q a:=by
 rw[CLO o b D.ex];rw[C1S ty PySem.F.slot_set_iter (sG PySem.F.slot_set_iter ty a6T ?body PySem.F.args_set_iter_1)]
 case body =>
  rw[ABG Builtin.«frozenset.__iter__» Builtin.Frozenset.slot0 AQ5];unfold Builtin.Frozenset.sizeOf setEntries;rw[AX (C6X (wpAny_setState_of e1 b AKM AQ5))];rw[ABG setDrawn setsByText (DJA e1 b AKM)];dsimp only;rw[AX (D27 wpAny_askSetting AQ5)];dsimp only;rw[BD (λz=>by
   have c:=(BZ Bool.and_eq_true ▸ z).2;rw[EVW c];rw[AW D.plain c c])]
  rw[uM];rw[EJH (wpAny_setEpoch_of e1 b AKM ?_) (ET0 ALR ?_)]
def SetIt.typ{a:qE}{n ep:Nat}(x:E33):t7 it "set_iterator":=EUG x h2
def b8I(D:ADG)(f:EEV)(hi:DJ4):SetTable.below t.place BB7=i:=by
 rw[A9O d b (N3 D.ok.ris BB7)];have c:=D.ok.size;cases i with
 |zero =>
  rw[mQ (BOR Nat.eq_zero_or_pos (AW5 0))]
  rw[NT]
  .have:=b 0 z;rw[DT this (Nat.not_lt_zero _)]
 |succ i =>
  have hs:B0U=AE4:=by
   show C6J AE4=_;rw[f,MF]
  rw[hs]at d b e⊢;rcases Nat.lt_trichotomy (SetTable.below t.place AE4) AM with z|z|z
  .rw[AHG (e i (~~~c1U z) (A2A 0x288f82733d9eb7f157 hi)) 0x33a13065d8a6077]
  rw[NT]
  .rw[SQ (b AM z) (D.ok.ris i AM B6F (vI 97351043426285015 z))];rw[ADQ 0x6bae9d7124e4493b211d8]
def b0I(D:ADG)(d:ADY){Q:OH (qD (qB×Nat))}(hi:DJ4)
  (h:Q ((dI A9J).map λe=>(e.2,B0U)) s):F1 (setNext a BB7 i ep):=by
 obtain⟨o,e1,_,f⟩:=D.ex;unfold setNext setsByText;rw[AX EA7];rw[ECT];rw[BSR B11]
 .rw[EA ECZ,KJ];rw[ABG setWalk setsByText EA7];rw[ECT];rw[EA ECZ];rw[PP wpAny_askSetting AQ5];have g:∀j,AW5 j=0:=λj=>by
   cases j with
   |zero=>rfl
   |succ j=>show C6J _=0;rw[if_pos b]
  rw[g]at h⊢;rw[B0I a1n D2W];exact h
 .rw[MD hf' EEV b]
  rw[BD (show ¬DAB from b)];rw[BD (λz=>by
   rw[EVW z];rw[AHV D.plain])]
  rw[QQ];rw[RK (mS (kW (! t.led) (! es.isEmpty)) (hH ()))];rw[PU (by rw[d,hf'];simp)];rw[fE wpAny_pure wpAny_pure];rw[b8I D hf' hi];rw[B0I a1n AO2];rw[WZ c es.size]
  .have hp:=a3s (xs:=t.place) (i:=i) (AE D.ok.size c);rw[hp];have hs:B0U=AE4:=by
    show C6J AE4=_;rw[hf',MF]
   rw[hs]at h;rw[Array.getElem?_eq_getElem c]at h⊢;exact h
  .rw[JP Array.getElem?_eq_none]at h⊢;exact h
def b6u{Q:B8J}(I:EXX BVX)(D:ADG)(d:ADY)(hi:DFK){v:C56}(f:A51 ((A9J)))
  (q:BVP (DU6 AM es.size ep t) (AH2 v.2 UE)):B8K:=by
 rw[BYT g b e D.ex];rw[FHX]
 case body =>
  rw[FEE (AIJ (wpAny_fieldsOf f1 b ?_)) (wpAny_setState_of e1 e AKM AAE)];simp only[Int.toNat_natCast];rw[AX (b0I D d D3U ?_)];rw[f];rw[DDM];have g1:CQ (DTQ it (CX4 D7U)) it (Obj.mapFields DFB g):=A19 f1 (Obj.isFreed_of_fields (Obj.data_mapFields b _));have c:=Obj.data_mapFields b DFB;rw[F29 b];rw[PY (wpAny_setField (s:=JV _) g1 c AF)];rw[UQ (DJ (A1U (q _ (cM (A19 g1 (Obj.isFreed_of_fields (Obj.data_mapFields c _))) ?_ ?_) (oD Heap.SameBut.update .. (Heap.SameBut.update ..)))))]
  .rw[CG Obj.cls_mapFields Obj.cls_mapFields f2]
  .rw[Obj.data_mapFields c];simp[rawInt]
def b8J{Q:B8J}(g:PH)(I:BVX es.size es.size ep t)(D:ADG)(c:ADY)
  (q:EP8):B8K:=by
 rw[BYT h e f D.ex];rw[FHX]
 case body =>
  rw[FEE (AIJ (wpAny_fieldsOf f1 e ?_)) (D9V AAE)];simp only[Int.toNat_natCast];rw[AX (b0I D c BV ?_)];rw[DUS d EDC es.size ord_perm.length_eq]
  rw[VW Array.getElem?_eq_none b3u d];rw[DDM];rw[F29 e];rw[ASR CMP];rw[FGA]
def SetIt.at{h h':Heap}{a:qE}{n ep:Nat}(x:BY2 (BNL h))(k:CIT it it):BY2 DU6:=F4U x
def SRaw.to{h h':Heap}(x:AQP)(k:EK1):BK2 h':=⟨F4U x.ex,x.ok,x.plain⟩
def a4Y:AT1 "set_iterator.__iter__" Builtin.«dict_keyiterator.__iter__» :=
 FF3 "dict_keyiterator.__iter__"
def a7e(a:qB):CCN "set_iterator.__iter__":=by
 rw[BRU]
def b6t{n:Nat}{Q:qH}(I:E33)(h:E59):AXE pyIter it:=by
 rw[C1S I.typ a1d (sG a1d I.typ a4Y ?_ a7e)];show KZ _ (RH ret it);exact wpAny_pure (ET0 I.typ h)
def b9L:(A9J).size=es.size:=by rw[AI0 ord_perm.length_eq Array.length_toList]
def b6v(p:PH)(J:qE)(j:a≠J)(g:ADY) :
  FCS a EOS (EXX (SetIt w h J a)) AQP where
 sub:=λb d=>ABT (List.mem_singleton.mp d)
 frame:=A1S k ⟨WW (dS).at (k J List.mem_cons_self o e),WW (iL).to (k a B7Z o e)⟩
 item:=FEM c (by
  rw[FZ f (i<EDC) b9L hi]
  exact b6u dS iL g hi (Array.getElem?_eq_getElem f) λh' m l=>F3X c (MW (Array.getElem?_eq_getElem f)) m (l.extBut a o j e) d l.extBut d)
 done:=λs Q E st c=>b8J p dS iL g λh' n=>c h' s.toks (mP d n (λz=>B4B d))
 self:=λ_ _ _ _ st c=>b6t dS c
def SRaw.lt{h:Heap}(x:AQP):BAV:=let ⟨_,h1,_⟩:=x.ex;Heap.lt_size h1
def c4A(b:ADY):eY KdlSrc "set" a a es.size EOS (λh=>AQP) where
 type:=E03
 there:=EPH
 keep:=XD D d (WW D.to (d a OP o e))
 notList:=AH
 notTuple:=AH
 hint:=F4A c3n
 iter:=XD c D (F3L (b8K D q) (b6v c _ DNY b))
#where
universe Tab
universe L2
namespace L2
open PySem PySem.Spec PyProof.Rows
section
open PySem.W Tab
noncomputable def a8P(P:qG)(w:World)(a:qE)(xs:nY):HO:=BE1 (∃es ep t,AQP/\ED9 (Tab.ent P w)/\ADY)
def c7j{P:qG}{w:World}{H:Hp}{h:Heap}(ok:VM){r:qI}{b:qE}(x:W1 GV r):TK P w h r b:=by
 rw[ABC e q x];rw[CI];obtain⟨_,its,c,o,h1,h2,n,d⟩:=(AG9 (A58 P w h b DI9) (ok b _ q));refine⟨o,its.toArray,n,h1,DVA,d,?_⟩;have:∀{r:qI}{its:AN},AIV r.map V.int its->ItemsAre DIQ r its:=by
  intro r;induction r with
  |nil=>intro its c;cases c;rw[A0E]
  |cons x r f =>
   intro its c;cases c with
   |cons h t =>
    rw[LN tk h];exact .cons (oQ intKind_is) (f t)
 simpa using this c
inductive rSetT(K:qF)(P:qG)(w:World)(ys:A0)(H:Hp)(Q:VK):Prop
 |mk (k:Bool) (p:qE) (vs:A0) (rss:LLI) (_:DZ5) (_:D7W vs) (_:TD) (_:DH5) (_:∀a xs,A2C->BCN->(∀r,r∈xs.map (·.1)↔r∈rss)->RZ xs BG7->IR a (A2O A15)):F1X rSetT
inductive rSortS(P:qG)(w:World)(ys:A0)(H:Hp)(Q:VK):Prop
 |mk (a:qE) (xs:nY) (_:DZ4) (_:ZA A15) (_:(B98 BG7)) (_:(B98 (0<QT ET))) (_:MO) (_:FCR (qO.Perm (xs.map (·.1)))):F0W rSortS
section
variable {X:Cx}
def b7P(K:qF)(P:qG)(w:World)(S:HM)(hc:DM)(hK:AT:=by rfl)(hP:nW:=by rfl)(hw:nX:=by rfl):hX A4N E2T:=by
 subst hK hP hw;rw[bO ys us rv];obtain⟨k,p,vs,g,rfl,R,hI,O,q⟩:=h;rw[VA D rv.one D];have N:X.A.handled=none:=D5S;have step:F0B (∀(h':Heap) (tk:Nat) (xs:nY) (c:ACD),AGF its.toArray.size (E51/\EN6) ->
   a1N X.prog X.w (CQK X.w.params.followText) h' s.heap.objs.size xs->Came c its.toArray.size xs->AHU->sH kR bY):=by
  intro its r h' tk xs c d n l A;obtain⟨o,es,ep,t,e1,e2,T,U,V,W,e7,e8,Y⟩:=n;have B:its.toArray.size=g.length:=by rw[<-GW,r.length];simp
  have F:A2D:=cQ;have E:dL BG7:=λx J=>by
   rw[dJ j m EE8];exact AA4 d m
  refine FEA (CXD a8P xs) A ⟨es,ep,t,⟨CE1 o T,V,W⟩,U,Y⟩ e1 (F4V q1) (F4V (q1.to kk)) (q _ xs F l.nd (LR r) E);constructor
  .intro hr;rw[FT x J hr];rw[dJ j m EE8];rw[D29 (d j m).1]
  .intro hr;rw[vX j m hr];have y:j<its.toArray.size:=by rw[ACG B m]
   rw[GJ h1 (d j y).1 m h1];rw[CGN]
   rw[AB h1 (l.all j y)]
 have R0:F0B (∃c:ACD,(∀i v,i<its.toArray.size->C5U->rP D2U)/\uX its.toArray.size (E51/\EN6)):=by
  intro its r;have f:∀i,∃x:AHS,i<its.toArray.size->(∀v,C5U->rP OQ)/\CC g ET/\BG7:=λi=>by
   rw[WZ hi its.toArray.size]
   .have hi':i<vs.length:=by rw[r.length];simpa using hi
    rw[XV eu D (B6P r.get hi')];obtain⟨M,er,b,Z,hb⟩:=B0S hI.2 i hi';rw[AW Z D D];rw[EC (M,b) (D2 (GZ (u5 G) er b hb))];have:AM3:=DGJ
    rw[TU eu];rw[ED2]
    exact this.symm
   .rw[AQ ([],0) (λz=>absurd z hi)]
  rw[AU (OS (Classical.choose (f i))) (λi v hi G=>(ET1).1 v G) (cJ (ET1).2)]
 cases k
 .rw[A3A pl hz R];rw[FLG a7C pl.isList]
 .rw[AD9 pl hz R];rw[FLG a7b pl]
def b4p(P:qG)(w:World)(hc:DM)(hP:nW:=by rfl)(hw:nX:=by rfl):DM3 DIR:=by
 subst hP hw;rw[bO ys us rv];obtain⟨a,xs,rfl,ha,L,R,hn,q⟩:=h;rw[D98];obtain⟨⟨es,ep,t,D,z,M⟩,_⟩:=(CSH (EEE a8P xs) (BSV ha));obtain⟨d,G,te⟩:=U6 (f:=CSU Tab.ent) ((ord_perm (w:=X.w) (a:=a) (ep:=ep)).trans z) rfl;have A:GP d YA:=λx B=>G.mem_iff.mp B;have g:es.size=d.length:=by rw[E4A z.length_eq G.length_eq]
 have hI:OD ENA ((d.map (·.1))):=CZV (QH v (by
  rw[B6H e];cases e2:d[i]? with
  |none=>rw[GM e2]
  |some x =>
   rw[GM e2];rw[NH ET (L x (MA A x e2))]))
 have W:PZ ENA BFQ:=a1Q (λx:AHS=>OQ) d;rw[SZ S]
 rw[FZ l (GY d.length) G.length_eq hn]
 have p:EUY Y J J BFQ a J Y:=λY J k=>by
  rw[FEJ (c4A M) (VD 0x11e784104c21e2a9a1e2e1346c81b8a157 g S l) j BFQ (by
   rw[CN9 d.length]
   .rw[CMS j.1 g]
    rw[CN1 F O j];rw[<-Array.getElem?_toList,<-te,List.getElem?_map,UY]at F;injection F with F
    rw[CLU O F]
   rw[CP9 j.1 g])]
  rw[F7H]
 rw[DC9 W.length W t1 (a1P W GW)];rw[FLS p (λr hr=>by rw[FT x B hr];exact R x (A x B)) (IL (lq 0x6c60327aa08821f4d5e40dae S l))];obtain⟨m,p1,p2⟩:=U6 (f:=CTF) hp t1.symm;rw[COW Z (BCT k1) E m N (by
  rw[CPB N r3 a1 q1 r3 q1 q1];rw[CM0 e5 (AC0 BFQ t.1) t1]
  rw[FCT a0 e5 r3])]
 have U:CK (QT ((m.map (·.2.1)))):=by
  rw[F8M K K K];exact lq 0x11c692ec7037e827700c05cba0d5e40daf S l K
 rw[CMT O ((m.map (·.2.1))) N E N]
 rw[FCL Z.laid (DW ((m.map (·.2.1)))) U O (C7G ((m.map (·.2.2))) Z.hok.fresh (CFO n) (by rw[KP (p1.map (BLE A6I)) t3];exact this.trans (G.map _)) ?_)]
 .rw[B6H n];cases e2:m[i]? with
  |none=>rw[iH n n]
  |some t =>
   rw[CIQ n n E]
 rw[CPV B C (E x B) E C C]
variable {e:Expr}{es:BT}{t:TA}{p pos:Pos}
def c6t(K:qF)(P:qG)(w:World)(j:HM)(h:DIX)(i:DK8)(d:FC)(f:DM:=by rfl)(b:AT:=by rfl)(c:nW:=by rfl)(hw:nX:=by rfl)(g:DE:=by rfl)(a:HZ:=by rfl):DT8 E2T:=(FGW (b7P K P w j f b c hw))
def c3e(P:qG)(w:World)(g:C3R)(h:C4P)(c:FC)(d:DM:=by rfl)(b:nW:=by rfl)(hw:nX:=by rfl)(f:DE:=by rfl)(a:HZ:=by rfl):A1L "sorted" DIR:=(CTU (b4p P w d b hw) a4q)
#where
#where
section
variable {A:Around}{E Q:qH}{H:Hp}{X:Cx}{e:Expr}{kw:uN}{pos:Pos}{prog:qG}{s:qC}{t:TA}{vs:AN}{w:World}
section
variable {a b:Expr}{ta tb:TE}
#where
def a7T:FHW
 |[],[],_,_,_,_,_=>rfl
 |[],A2G,_,_,_,_,h=>F30
 |iY,[],_,_,_,_,h=>F2Z
 |iY,A2G,ra,rb,na,nb,h=>by
  rw[FLZ (by
   rw[EYV]
   .rw[EZ5]
    .rw[AZ z I9 y]
    rw[vZ i]
   .rw[EZ6]
    .rw[AZ z I9 x]
    .exact k y z)]
  rw[FDS a7T]
  .rw[EQW]
   rw[oR z hv f]
   rw[NT]
  .rw[F3Y]
   rw[oR z hv c]
   rw[NT]
structure Srt(rss srt:LLI):Prop where
 ri:DNC
 nd:srt.Nodup
 mem:EU1
def Srt.eq{rss a b:LLI}(h:B08 a)(g:CBK):iR:=FFB a7T
section
open PySem.SeqAt
open PySem.AutoSeq1 (wpAny_loadPart')
open PySem.MeetsSeq PySem.MeetsSeq2 PySem.MeetsSeq3
def a7g(l b p q:qE)(k k2:Nat)(dd o:IN)(sl z:aW)(n m:Int)(t u:Tok)(ns ms:qI) :
  EU5
   (BGN (CSW (.seq #[.int n t,II] k)/\B78 (A67 gJ o (.seq #[YO m u,ABP] k2) z) /\
    BF2 A.in1 II ABP decide (ns=ms) /\
    (∀(prog:qG) (w:World) (E:qH) (Q:qH),D5L HT.lexLt->C9O A.in1 (BD2 II ABP)) /\
    B0R BYB s)) :=
 (wW (by
  rw[nN j];rw[QP D B r v h];have f2:=AutoSeq1.sub_tuple_tuple
  rw[EVR (wpAny_loadPart' D) (wpAny_loadPart' B) (LG=none/\s'=B0Q /\
   ((CGY [(DXO,Value.int m u),nC II q] BYB)∨(CGY [(II,ABP)] (HT.lexLt ns ms)) ∨
    (CGY [] false)))]
  case turn =>
   rintro⟨y,x⟩ rest b s' ⟨f,rfl,⟨a,hR⟩|⟨a,hR⟩|⟨a,hR⟩⟩
   .rw[CGC a]
    rw[CLP]
    subst hy hx hrest;rw[HT.lexLt_cons]at hR;rw[A8H C c (HT.eqAt_int A.in1 B0Q n t m u)];rw[CMD C];cases e with
    |true =>
     rw[B6M c.mp rfl]at hR
     wp_walk
     rw[NH rfl (AAT hR)]
    |false =>
     rw[ELL c.mpr];have i:=HT.rcLt_int A.in1 B0Q n t m u prog w
     wp_walk using i
     rw[C57]
   .rw[CGC a]
    rw[CLP]
    subst hy hx hrest;rw[CMD r];rw[FO ns ms]
    .rw[A22]
     wp_walk
     refine sN (XN vK);rw[e,I9]at hR;exact hR
    .rw[ANW];have i:=AWU v
     wp_walk using i
     rw[C57]
   .cases a
  case fin =>
   rintro⟨F,G⟩ s' ⟨f,rfl,⟨a,hR⟩|⟨a,hR⟩|⟨a,hR⟩⟩
   .cases a
   .cases a
   .simp only at f;subst f
    wp_walk
    rw[EY5]
  case h =>
   rw[NH rfl (B7N h)]))
#where
section
variable {qK:DL}{σ:St}
def c5V(I:AL){l b a c:qE}{n m:Int}{ns ms:qI}(L:CEG l B1F)(K:CEG b (fG m ZC))(C:BVV zJ)(D:CEG c DIA)
  (y:BTY 9) (h:DVG):sZ (BD2 IX GV):=by
 rw[AIP its P (I.tuple L) o R (I.tuple K)];obtain⟨e,f,rfl,⟨t,rfl⟩,U⟩:FE7 its n a:=by
  rw[FA1 P]
 obtain⟨Y,Z,rfl,⟨u,rfl⟩,W⟩:FE7 o m c:=by
  rw[FA1 R]
 rw[gM U W];rw[B5R F g k p1];rw[AHZ B v r z j d k2 i p2];rw[BER g d i g d i];obtain⟨G,S,N,_⟩:=I.tuple C;obtain⟨J,T,O,_⟩:=I.tuple D;exact FIQ F (MW j) (a7g l b a c k k2 dd v sl z n m t u ns ms)
  ⟨F,j,(EqV.ints (k:=true) C D).at I (CGJ 0x42163268ec02a4be6 y) rfl rfl,λprog w E Q M=>(HT.lt_tupInts N O (a2M S) (a2M T) (CGJ 0xc5a20a69e4be6 y) M:C9O A.in1 (compareOp .Lt CM ZC)),
   EVS (Value.bool (HT.lexLt iB CV0)) DVG⟩ (BJ 0x70f128744be6 y)
#where
section
variable {I l S:qE}{R:vM}{h₀:Heap}
noncomputable def M3(h h':Heap):Prop:=E0S
def a7Y(B:C8F)(hh:PH)(L:l≠I)(r:S≠I)(J:DEH I)(K:DEH S)(hl:BOA h₀.IsList)
  (D:CQ8 X Y AQU X Y B (richCompare .Lt X Y))
  (hR:∀v h' tk,AMK (argBest B C1P)->EW2->A91 v bY) :
  ∀(k j:Nat) (h:Heap) (t:Nat) (p:qB) (c:Nat),vs.length-(j+1)=k->JL<=vs.length->h.IsListIter I l JL->AQU->GD vs EGO p->nB S (EQ6 (.seq #[p,p] c)) ->
   codeAny LM A (CY6 "min.loop" [BPS,.none,AI S]) R (eU s h t):=by
 rw[COE m]
 rw[DB9 (COP hh I l L vs.toArray) G];have gI:DAV AQU I EW2:=COJ u u J;have gS:∀{h:Heap}{f:EB6},AQU->M3 h₀ (h.update S f):=λg b o e=>DAN K CXB;rw[DBU AQU (by
  rw[CPH hl])]
 intro k;induction k with
 |zero =>
  rw[FLU];have F:BZD JL:= AR 0x11e445716d92b4a725b90d6170fad366d6 u T
  rw[FBQ];rw[FAH (ECN (B21 G F y))];have a:=ETZ;rw[D81 C2K];refine wpAny_updateSeq a rfl (wpAny_bind BAH);exact hR p _ tk (OV F n) (gS EKG)
 |succ k V =>
  rw[FLU];have x:JL<vs.length:= BJ 0x291e662bf1df8ecd21ab6d7 u
  rw[FBQ];rw[ALN (CN5 JL (AE G x) (ECN y) tk Z q d)];rw[MD U (AMK JL) Z]
  rw[AC a ETZ H EKG];rw[BQZ (holding [v,v] (richCompare .Lt v p>>=_))];rw[ALN (xZ wpAny_holding (AJ D JL EGO v p _ _ H U n ?_))];rw[sM (fA wpAny_holding wpAny_truthy_bool) BAH];cases P:B JL (argBest B j)with
  |true =>
   simp only[if_true];rw[QQ];refine wpAny_updateSeq a rfl DRB;rw[m];rw[EZ oI M N O id CZ];rw[UQ ⟨ADM,V JL _ _ v _ DXA x ⟨oI,AKI r M,N,O⟩ (gS H) (by simp only[argBest,P,if_true];exact U) (A19 a rfl)⟩]
  |false =>
   simp only[Bool.false_eq_true,if_false];rw[DIK];rw[A0N m ⟨ADM,V JL _ _ p c DXA x CZ H (by simp only[argBest,P,Bool.false_eq_true,if_false];exact n) a⟩]
#where
def a4r(a v:qB):argsOk "min" (D59 LF v):=BZL
def a3w{id:String}{b:Builtin}{args:AN}(i:FD builtinKind id)(hp:EO plainId id)
  (h:AT1 id b) (g:argsOk id (cO args))
  (d:FU LM A.in1 (b DNO) (λfin s'=>match fin with
   |.done f=>(match (Except.ok f:Result)with | AWJ v=>BUT | ANJ=>False | C1H=>EH9)
   |.again c'=>AY c'.quiet/\codeAny LM A c' (λr s'=>match r with | AWJ v=>BUT | ANJ=>False | C1H=>EH9) s') E s) :
  EOE (.builtin id):=by
 rw[B26 (codeAny_call_builtin hp h ?_)];simp only[checkBuiltinCall,i];cases a:Manifest.signature? id with
 |none=>rw[iN d]
 |some sig =>
  have c:AOX (Bind.checkArgs id sig DNO):=by simpa only[argsOk,a]using g
  simp only[c];rw[iN d]
def b7S{l:qE}(u:C8F)(N:PH)(t:DV4)
  (k:CQ8 O P B0X O P u (BD2 O P))
  (U:vs=[]->∀h' tk,BS2->Q .none bY) (h1:EUT (argBest u C1P)) :
  E8C (AXG "default" .none):=by
 rw[COE a]
 obtain⟨ol,I,_⟩:=id t;have D:BQL:=Heap.lt_size I;refine a3w PySem.F.kind_min PySem.F.plain_min PySem.F.entry_min (BZ a4r) ?_;rw[FHC ETL ETL [none,AO .none] (wpAny_pyIter_list t ?_) M];have m:DWN:=AG1 D;rw[F2E M]
 rw[UQ (HJ ADM)];have r:F7N:=EFZ;have gI:EJY :=
  AOD
 rw[FHB R];have K:DZR:=EDR M;rw[FGI K (COP N s.heap.objs.size l m vs.toArray) J (by
  rw[CPH t])]
 rw[FBR];have L:F6N:=COJ X X R;rw[BI n vs []]
 .subst n;rw[FAH E98];rw[AX (yI wpAny_rule)];exact U rfl h' tk E54
 .have hpos:C2A:=List.length_pos_iff.mpr n;rw[ALN (CN5 0 (AE J hpos) E98 a0 V p d)];rw[MD Y (AMK 0) V]
  rw[FEV (BVL d c gS) T E54];rw[EZ Z F G H id CU];rw[WL wpAny_pure ADM (F0K u N m c R K t k (λv' B q C y=>h1 v' B q C y) _ 0 _ _ v _ rfl hpos ⟨Z,AKI c F,G,H⟩ (EHP K T) Y E7D)]
noncomputable def PrI(K:qF)(H:Hp)(vs:A0)(rss:LLI):Prop:=F66 (BHZ r p (A81 B8L/\BA6/\E0F/\DY0))
def PrI.same{K:qF}{H':Hp}{vs:A0}{rows:LLI}(h:EPN)(s:BL):PrI K H' vs rows:=BL8 (let ⟨n,r,p,a,e1,e2,e3,e4⟩:=A6T;⟨n,r,p,a,e1,e2,DHP,GQ e4⟩)
def PrI.snoc{K:qF}{vs:A0}{rows:LLI}(h:EPN){n:Int}{r:qI}{p a:qE}(hp:E0F)(c:DY0):PrI K H (vs++[II]) (rows++[B8L]):=by
 rw[EC C45 C72];rw[C98]
 .rw[BRE];rw[AB CUY A6T]
 .have hi':vs.length<=i:= hY O1
  rw[List.getElem?_append_right hi']at e;have b:DQN=0:=by rw[A7W A3K]
  rw[GM b];rw[A6B List.getElem?_append_right CB hi',<-CB,b];exact FEB hp c
def a6A{rss:LLI}:∀(k:Nat),k<rss.length->F2O<=k/\∀j,ACS->t8 EFI (rss.getD F2O [])
 |0,_=>(ECM I9)
 |BX,b=>by
  rw[IM (a6A (rss:=rss) k (~~~a2G b))];rw[dU argBest]
  .rw[EVO BV]
   .rw[AZ e I9 _]
   .have h3:=h2 j E72;cases e2:HT.lexLt EFI (rss.getD BX [])with
    |false=>rfl
    |true=>rw[AW (A4J a1Y e2 hb) h3 h3]
  .rw[EVO DQ7]
   .rw[e];simpa using hb
   .exact h2 j E72
inductive rMinD(K:qF)(xs:A0)(H:Hp)(Q:VK):Prop
 |mk (p:qE) (ys:A0) (rss:LLI) (_:jI) (_:BRH) (_:PrI K H ys rss) (_:(rss=[]->Q .non H)) (_:∀v r,DKU->A0W->(BHZ t q (r=DO2/\rP q/\E0G/\DXZ))->DF r' rss (t8 r' r)->APA):eO rMinD
section
variable {p kp np:Pos}{nk:Nat}
def c6s(K:qF)(U:HM)(S:C3Q)(T:C4O)(O:oP)(P:DM:=by rfl)(N:AT:=by rfl)
  (R:backTo pos C1L=ATW CDE:=by rfl) (z:AGJ C1L:=by rfl) :
  CY (FEC "min" fD "default" .none) (BKF rMinD):=by
 rw[B68 N E2B];rw[BSW (a2J I S T b4v ?_ AH AH)];refine callWith_kw (CEO O.h zz) R z;rw[EYN k Z B zz Constant_none];obtain⟨l,ys,c,rfl,hs,D,W,B⟩:=B;rw[VA ru Z.one ru];rw[RV C sq hz k.list hs];have b:its.length=c.length:=by rw[<-C.length,D.1]
 have d:dQ x qB (OE its) (BHZ r p (CC c B8L/\C4M/\II∈ys/\H1 p=BK .tup B1F/\RO H1 DI9)):=λi x hi=>by
  have f:i<ys.length:=by rw[ACG C.length hi]
  obtain⟨n,r,p,a,e1,e2,m,o⟩:=CDH D.2;obtain⟨v',w,G⟩:=B6P C.get f;rw[AW hi w w];rw[iH G G];exact⟨n,r,p,a,e1,rfl,EBS e2 List.getElem_mem,m,o⟩
 refine b7S (λi j=>DAD c.getD c.getD) (k.ok.hd P) sq.isList (λh tk i j x vj Q' E' g hi y E=>?_) (BS e h' tk g) (CJ0 F g)
 .obtain⟨n,r,p,a,e1,rfl,_,m,o⟩:=d i x hi;obtain⟨n',Y,p',a',f1,rfl,_,L,M⟩:=d j vj y;refine c5V CJI DFR (GE L) (GE o) (GE M) (CGJ 0xca6596e1f6d846b12a6 U) ?_;rw[CE4 e1 f1 E];exact E
 .refine GZ .non H1 CJI (W ?_);rw[e]at b;exact List.length_eq_zero_iff.mp b.symm
 .obtain⟨n,r,p,a,e1,rfl,e2,m,o⟩:=d _ v F;have q:DFF<c.length:=by
   rw[MM (LX F) 0x90f8d363ecef1b220deecbd57 b]
  obtain⟨b1,J⟩:=a6A (rss:=c) _ q;refine GZ II H1 CJI (HU (B _ B8L e2 DOS (FEB m o)) Y A);rw[vX j y A];have:=J j (DD5 (List.getElem?_eq_some_iff.mp y).1 c1A b);rw[CE4 e1 y this];rw[QB]
#where
section
def a7j(xs:CO):slicePick xs none none D2J=xs.toList.reverse.toArray:=by
 rw[<-b9t];unfold slicePick;have e:sliceRange (BK6-1) (-1) (-1)=DLP λ(PN k)=>TW (A1F+LW*AZR):=by
  unfold sliceRange;have:TW (if A7V > 0 then(yQ (A1F < -1) ((A7V-A1F + -1-1) / -1) 0)else(B22 (A1F > -1) ((A1F - -1 - -1-1) / (- -1)) 0))=xs.size:=by
   rw[MF];split
   .rw[WX (ABJ (BG (- -1)=1)) Int.ediv_one]
   .omega
  dsimp only;rw[this];refine HU List.map_congr_left k _;rw[Int.mul_comm]
 show AL4 (((sliceRange ((xs.size:Int)-1) (-1) (-1)).filterMap (xs[·]?)))=_;rw[e,List.filterMap_map];rfl
variable {te:TE}{p2:Pos}
noncomputable def d0R(K:qF)(te ts:TE):TE:=NG te x (VB ts y (AH5 (-1)/\∃a xs,JH/\SqL K H2 a xs/\∀p,FD H2 p->A55 H2 xs.reverse))
def c9S(K:qF){st:Expr}{ts:TE}(p:aV)(hs:CY st ts)(n:AT:=by rfl):BAG e FA2 (d0R K te ts):=by
 rw[B68 n E2B];refine Subscript_ (cZ p.h g);rw[SN x l B z g];rw[HI wpAny_Slice];rw[DVM];rw[AK9];rw[evalPart_some];rw[v9 (FJ (A5N hs.h l z) u c g) y k m C A g];obtain⟨rfl,a,xs,rfl,t,q⟩:=A;rw[LN tk C];cases B;have f:JN k FF4:=EOM m.kept c.toks w;rw[RV r i j f.list t];have d:=r.length;show FU RE X.A (subscriptTail e FA2 CM D2C) B3F X.xe FF4;refine tail_any (ops:=[CM,D2C]) i.isList.typeIs slot_list_getitem.lookup ?_ CV;refine wpAny_getItem_list_slice (st:=D2J) i.isList DL9 .none .none (BZ .int) AH ?_ (ANK (N0 j d));rw[a7j];refine A8Y _ (A9K f.laid c.toks (DW xs.reverse) w ?_) (q _ (YM f.hok.fresh));rw[EF (AE List.length_reverse j) _ 0 r.reverse KF]
#where
section
variable {I l S:qE}{R:vM}{h₀:Heap}
#where
section
variable {p kp np:Pos}{nk:Nat}{d:Int}
#where
section
variable {es:BT}{p:Pos}
#where
#where
section
open PySem.W
variable {X:Cx}
section
variable {tg:Expr}
#where
section
variable {o e:Expr}{es:BT}{to:TE}{t:TA}{qN qM:Pos}
#where
section
variable {k:Nat}{ps:AA}{sp:Sp}{x:Str}{p pos qM:Pos}{e:Expr}{es:BT}{t:TA}
#where
#where
section
section
variable {X:Cx}
variable {e:Expr}{es:BT}{t:TA}{p pos:Pos}
#where
#where
section
open PySem.W
variable {X:Cx}{prog:qG}{w:World}
section
variable {κ:Type}[ARN]{knd:E6Z}{A:Around}{E:qH}{s:qC}
def c4C{d a:qE}{xs:BLN κ}{k:κ}{v:qB}{Q:qH}(t:knd.room A)(c:EPL)(z:EQQ)(hz:ZR)
  (h1:∀p,ES8->Q HS AJH)
  (h2:F59->F0S (storedH xs k a v) (Q v DOK)):F1 (EHQ v):=by
 obtain⟨o,es,ep,f,u,hd,i,g,l⟩:=z;unfold dictSetDefault
 rw[DDL]
 rw[qY knd.pyHash t c];rw[AX (EB (wpAny_dictFind_heap (s:=AJH) t c f hd i g l DIB) j p r)]
 .have hnot:k∉BA4:=not_mem_keys_of_get h;have b:=atKey_none_of_get h;rw[AX (DN8 (sI (BC wpAny_updateDictKeys hz (by have e:=size_of_entries i;exact b3r hz e) s AJH f hd) (h2 b _ ⟨_,_,C0F,A19 f (Obj.isFreed_of_dict (Obj.data_mapDictKeys hd _)),u.mapDictKeys _,Obj.data_mapDictKeys hd _,?e,?k,?n⟩ APB)))]
  case e =>
   rw[storedH_new b];simp[i,entryOfKey]
  case k =>
   rw[storedH_new b];intro x m;rw[OZ B9G]
   .exact knd.keeps (g x q) f hd APB
   .rw[AB B9L (knd.keeps c f hd APB)]
  case n =>
   rw[storedH_new b,List.map_append,List.nodup_append];rw[FK l AF (λx m y B e=>hnot ?_)];have:y=k:=BQ B
   rw[<-this,<-e];exact m
 .rw[AX (wpAny_dictEntries (s:=AJH) f hd ?_)];rw[F2 (entry_at i j) r wpAny_bind (sI wpAny_rule (h1 p (atKey_of_get l r)))]
#where
section
variable {κ:Type}[ARN](knd:E6Z)
def b8L(d a:qE)(hd:AQ7)(b:qB) :
  eY MeetsIn (Builtin.«dict.setdefault» (MZ [ALC,CM,b])) (BGN (knd.room A.in1/\∃k xs,EPL/\EQQ/\ZR /\
   (∀p,ES8->A91 HS AJH) /\
   (F59->F0S (storedH xs k a b) (A91 b DOK)))) :=
 .of_wp λA R s ⟨j,k,xs,c,g,l,h1,h2⟩=>by
  rw[ABG Builtin.«dict.setdefault» Builtin.Dict.keyAndDefault (wpAny_notOrdered_dict g.typeIs ?_)];show KZ _ (hH (d,AYO,AO b));rw[AK9];change KZ _ (if YJ d sysModules then _ else(EHQ b>>=_));rw[AZ (PU (by rw[bA hd])) wpAny_bind (c4C j c g l (λp i=>A1U (D4 HS (h1 p i))) λh h' e f=>A1U (D4 b (h2 h h' e f)))]
#where
section
variable {qK:DL}{σ:St}{H:Hp}{s:qC}{a b:qE}{z:V}{r:qB}{qL:aO}{k:YT}{A:Around}{E:qH}
def RelO.sdv{o:aJ}{p:CRV}(h:RelO o (Option.map (·.2) (some p))):∃v,lQ o/\AFI HS:=by
 cases o with
 |none=>exact h.elim
 |some v=>rw[NH v h]
def d0p{Q:qH}(D:wC)(I:AL)(e:A46)(l:AD8)(y:AD7)(G:RelV z r)
  (h1:∀v o s',C7D->AA5->AFI o->rZ o) (h2:∀s',ATC->JN (D56 (AX0 z)) s'->rZ r) :
  BV2 "dict.setdefault" [CM,GV,r]:=by
 obtain⟨F,hd,xs,f,dd⟩:=xT c7W;have j:CK xs.length:=by rw[JY (Paired.length f) F]
 have g:=f.val k;rw[CP3 i z z y]
 rw[D9W PySem.F.slot_dict_setdefault PySem.F.entry_dict_setdefault PySem.F.args_dict_setdefault_3 (F3A b8L) ⟨tupleKind_room_in1 D,k,xs,a1y I.hok l,dd,j,AA0 C,BS B h' h hs⟩]
 .rw[C]at g;rw[DI v e1 e2 RelO.sdv g];exact h1 v _ _ e1 WD e2
 .rw[B]at g;have d:mZ=none:=by
   cases e1:mZ with
   |none=>rfl
   |some v=>rw[iE e1 g g.elim]
  refine h2 _ d ?_;obtain⟨q,es,ep,n,t,u,w,_,x⟩:=h;rw[FE2 (ABF n) ⟨i,hd,_,(F39 f.put l G m),q,es,ep,n,t,u,w,x⟩ m m]
#where
noncomputable def b8B(td ty tx:TE):TE:=EUP (∃qL k b,H3 a=BK .dT qL/\ADD/\YG H3 CSS/\AD7 /\
 (∀v,C7D->Q v H3)/\(ATC->Q z (TM H3 a .dT (AX0 z))))
section
variable {o e f:Expr}{qN qM:Pos}{td ty tx:TE}
def b9C(F:A38)(E:A3E)(C:C8A)(D:EER)(m:E3O):DR ENS E2A:=by
 rw[DCD PySem.F.slot_dict_setdefault PySem.F.type_dict_setdefault (AAL E R) j L J R];rw[COY L O P (b4e j d) O P (ADZ C j J (λG s2 (aA y p M K) =>
  EAX D p K S T ⟨z,n,q,l,qL,k,b,g1,r,t,w,A,B⟩))]
 rw[AV4 r (C8J G) M];exact d0p F q g1 t w l (λv U N g c i=>⟨_,n,c,i,A v g⟩) λN g c=>nA _ c l (B g)
def c6D(d:HM)(c:w5)(a:C7H)(b:EE0)(m:E3O:=by rw[CMX]):CY ENS E2A:=(FEU b9C)
#where
def b8x{d:qE}(hs:AQ7)(es:A25)(ep:Nat)(c:Obj)(n:c.ExactDict)(hd:c.data=AS6) :
  eY MeetsIn (Builtin.«tuple.__new__» (MZ [gJ,ALC])) (BGN (A.handled=none/\A5V d c/\CK es.size /\
   AHY h' Heap tk qP CO ((RW RP WJ)->ItemsOf CKL qP es.size->AMC h'.objs.size EGW))) :=
 .of_wp λA R s h=>by
  rw[AG2 l dd tk os s];rw[XG r j p h];rw[AC m sub_tuple_self f init_tuple_lookup];have u:=madeHere_tuple;have q:Shared.TypeIs ⟨l,g,dd,tk,os⟩ ALC "dict":=⟨c,j,n.1⟩;have D:AW6 l:=⟨c,j,n,hd⟩
  wp_walk using wpAny_loadPart' j,wpAny_typeOf q,kdu_collect (EW5 hs) (BVK r) D p
  intro h' k qP t a;rw[RK (Builtin.Tuple.tupleExact qP.toList.toArray>>=λv=>ret v)];unfold Builtin.Tuple.tupleExact;have e:qP.toList.toArray=qP:=by simp
  rw[e];rw[AX (CY5 (by show CK qP.size;rw[AB QR p]))];rw[iN (DJ (h h' k qP t a))]
inductive rTupleD(xs:A0)(H:Hp)(Q:VK):Prop
 |mk (d:qE) (qL:aO) (rss:LLI) (_:DL0) (_:CJH) (_:CCH) (_:∀l zs,A84->AEX zs->D55 zs):jU rTupleD
section
def b2f(A:DM):hX gJ rTupleD:=by
 rw[kZ J];rw[SO d qL F rfl hd C q];rw[VA G J.one G];obtain⟨t,l,c,v,E,es,ep,e1,e2,y,p,K⟩:=AG9 (A58 X.prog X.w s.heap d BC1) DZL;obtain⟨hI,r⟩:=b5B v C;rw[ANV k c.length (Paired.length v)];rw[BG4 f c.length p]
 refine callType_newIn PySem.F.called_tuple AH (PySem.F.typeCall_tuple_1 _) (PySem.F.newCall_tuple_1 _) (λm=>PySem.F.args_object_init_2 m _) PySem.F.entry_tuple_new (b8x l es ep E e2 y) ⟨D53 DW9,e1,~~~b3U t k f,DB0 g⟩;have z:qP.toList=DVJ:=by
  rw[CN9 c.length]
  .rw[CMS UU f]
   rw[CN1 B D g];rw[A2P a (CC es.toList e) B]
   rw[BZW p UY a];injection a with a
   rw[CLU D a]
  rw[CP9 UU f]
 have j:qP=DDT DVJ:=by rw[<-z,Array.toArray_toList]
 have n:DG0:=BCT kp;have w:JN (gU h'.objs.size E24) EGW:=by
  rw[AB j (n.laid (t':=tk) DLG BV (FD9 (GN E24) (IL (N0 t k)) _ (a1Q EMF c)))]
 rw[IO ALR (AI h'.objs.size) _ w rfl (AJ q (YM n.hok.fresh) hI)]
variable {e:Expr}{es:BT}{t:TA}{p pos:Pos}
def b7q(f:DIU)(g:DK5)(b:FC)(c:DM:=by rfl)(d:DE:=by rfl)(a:HZ:=by rfl):A1L "tuple" rTupleD:=(rE (N4 (b2f c) f g b2h) b.h d)
#where
#where
section
open PySem.AutoSeq1 (wpAny_loadPart')
section
variable {prog:qG}{w:World}{A:Around}{E:qH}{s:qC}
#where
section
variable {X:Cx}{e:Expr}{es:BT}{t:TA}{p pos:Pos}
#where
#where
section
open PySem.W
open Sem (wp)
section
variable {prog:qG}{w:World}{κ:Type}[ARN](kd:AGV KeyKind κ)
variable {kd}
variable {A:Around}{E:qH}{s:qC}
#where
noncomputable def h2(kss:LLI):Int:=reduceHash (Builtin.Tuple.tupleHashOf (kss.map λks=>reduceHash (Builtin.Tuple.tupleHashOf (ks.map hashInt))))
noncomputable def LdO(d:qE)(xs:DSY):HO:=BE1 ((d==sysModules)=false/\ZR /\
 ∃ob es ep,E70/\ob.ExactDict/\ob.data=AS6/\EDE (λx=>⟨h2 ET,AI cD,x.2.2⟩)/\BCN)
inductive Tq(H:Hp)(a:qE)(kss:LLI):Prop
 |mk (vs:_) (_:CXH) (_:OD vs kss):Tq H a kss
noncomputable abbrev K2(H:Hp):EL DHK DSY:=CJ8 (CM6 (Tq H BT7 CU))
inductive LD(H:Hp)(d:qE)(qL:DHK):Prop
 |mk (xs:_) (_:ID d (LdO d xs)) (_:K2 H qL xs):LD H d qL
section
variable {P:qG}{w:World}{H:Hp}{h:Heap}{a:qE}
#where
section
variable {X:Cx}{o i e f value:Expr}{pos pos' qN qM:Pos}{td ty tv tx:TE}
#where
#where
section
open PySem.W
section
variable {prog:qG}{w:World}{A:Around}{E:qH}{s:qC}
#where
section
variable {X:Cx}
#where
#where
section
variable {A:Around}{E:qH}{X:Cx}{e:Expr}{es:BT}{k:Nat}{pos:Pos}{prog:qG}{s:qC}{sp:Sp}{t:TA}{w:World}
section
variable {qK:DL}{σ:St}{H:Hp}{h':Heap}
#where
section
variable {a:Expr}{ta:TA}{te:TE}{p p2 pos2:Pos}
#where
section
variable {tg:Expr}{te:TE}{p:Pos}
#where
section
variable {k':Nat}{ps ps':AA}{sp':Sp}{x x' y:Str}{p p' ipos qM cpos' pos':Pos}{e' c:Expr}{es':BT}{t':TA}{tc:TT}{i:Nat}
#where
structure MethOkE(P:qG)(w:World)(K:qF)(mg:BF)(base:Heap)(C:qE)(m:Str)(k:Nat)(ps:AA)(sp:Sp):Prop where
 ex:CNQ v1 DYU
def MethAt.fnE{P:qG}{K:qF}{mg:BF}{base:Heap}{C:qE}{m qual:Str}{st:Stmt}{N ps:AA}(F:E3B)(S:A4C)(len:pE)
  (b:ATS qual (fZ ->
   B4M (BND AF1 qZ))):EZJ BX:=by
 rw[A48 g F.ex];refine⟨f,fd,h1,g,?_⟩;rw[FG9]
def a9L{P:qG}{K:qF}{mg:BF}{base:Heap}{N:AA}{qual:Str}{scope:Scope}{f:qE}{cd:qB}{outer:JD}{b:qC}{a:Hp}{E:XK}
  {C:qE}{m:Str}{ps:AA}{o:Expr}{ta:TE}{qN:Pos}{pl:w6}(O:EZJ k) (c:VL) (q:EHF)
  (n:JE xU o ta) (l:E8R)
  (g:F4H:=by rfl)
  (d:DPC:=by rfl)
  (r:eval B9C zM=(eval o zM>>=λi=>CPA [i] (getMethod i m pl) h h (backTo pos (starEach LK zM)) (backToKw pos (keywordEach [] zM))):=by rfl) :
  JE xU B9C (D8H E ta t):=by
 obtain⟨h,fd,h1,h2,j⟩:=O.ex;exact⟨CMZ b5o n.h j q h2 .nil c7w l.h g d r⟩
def b8j(a:qB):CCN "min":=BZL
def b7U{l:qE}{vs:AN}{Q:qH}(t:C8F)(M:PH)(r:DV4)
  (k:CQ8 N O B0X N O t (BD2 N O))
  (d:C2A) (h1:EUT (argBest t C1P)) :
  E8C []:=by
 rw[COE a]
 obtain⟨ol,H,_⟩:=id r;have C:BQL:=Heap.lt_size H;refine a3w PySem.F.kind_min PySem.F.plain_min PySem.F.entry_min (b8j _) ?_;rw[FHC DJI DJI [none,none] (wpAny_pyIter_list r ?_) L];have n:l≠s.heap.objs.size:=Nat.ne_of_lt C;rw[F2E L]
 rw[UQ (HJ ADM)];have K:F7N:=EFZ;have gI:EJY :=
  AOD
 rw[FHB P];have J:DZR:=EDR L;rw[FGI J (COP M s.heap.objs.size l n vs.toArray) I (by
  rw[CPH r])]
 rw[FBR];have T:F6N:=COJ V V P;rw[ALN (CN5 0 (AE I d) ⟨AVA gI,lst K⟩ Z U p m)];rw[MD X (AMK 0) U]
 rw[FEV (BVL m c gS) R (T K m)];rw[EZ Y D F G id CU];rw[WL wpAny_pure ADM (F0K t M n c P J r k (λv' y q B u=>h1 v' y q B u) _ 0 _ _ v _ rfl d ⟨Y,AKI c D,F,G⟩ (EHP J R) X E7D)]
def b1M{ns:qI}:∀k:Nat,D8W<=k/\∀j,ACS->DZS<=yS
 |0=>(ECM Int.le_refl)
 |BX=>by
  rw[IM (b1M (ns:=ns) k)];rw[argBest];rw[nZ (BT1 BX<DZS)]
  .rw[ARH];rw[EOK BV]
   .rw[AZ q Int.le_refl _]
   .have:=h2 j ELQ;rw[QE 0xe7ecd3ece7b8e e]
  .rw[PU (by rw[zO])];rw[EOK DQ7]
   .rw[AB q (lq 5177713851250 e)]
   .exact h2 j ELQ
def b7R(K:qF)(A:DM)(y:AT:=by rfl):vY "min" rMinL:=by
 subst y;rw[kZ n];obtain⟨p,c,rfl,hs,o,q⟩:=h;rw[VA D n.one D];rw[A3A E L hs];have b:its.length=c.length:=by rw[ECW]
 have d:dQ k qB (CC its k) (∃t,k=A75 vL):=λi k hi=>by
  have e:i<c.length:=by rw[<-b];exact LX hi
  rw[nG M f n (show E6R=DS vL by rw[EKO DEZ DEZ])];rw[AW hi f f];exact n
 refine b7U (λi j=>bX vL DGL) DW9 E.isList (λh tk i j k F J G g hi m B=>?_) (~~~c1c o b) (CJ0 C g)
 .rw[HQ (d i k hi)];rw[LN u (d j F m)];exact AG (oQ (oQ HT.rcLt_int)) B
 .rw[HQ (d _ v C)];obtain⟨w,x⟩:=b1M (ns:=c) DFF;rw[F6V (BCT g) z]
  .rw[B5A (KA (VD 0x402e883897e400912b7054ee67e85f o b w))]
  .rw[AV7 j m z];have:=x j (~~~c1A b m);rw[List.getD_eq_getElem?_getD (l:=c) (i:=j),KA m]at this;rw[QB]
def c6v(K:qF){p:Pos}(g:C3Q)(h:C4O)(c:oP)(d:DM:=by rfl)(b:AT:=by rfl)(f:wR:=by rfl)(a:wH:=by rfl):CAL "min" rMinL:=(ASD b7R b4v)
#where
section
open PySem.W
variable {X:Cx}
section
variable {e:Expr}{es:BT}{t:TA}{p pos:Pos}
#where
section
variable {k v:Expr}{tk tv:TE}{pos:Pos}
#where
#where
section
open PySem.Builtin PySem.Builtin.Str PySem.StrLaws
def a3D:∀{ys:AA}{us:AN},EL7 us->∃l:AEU Tok,us=strValues l/\l.map (·.1)=ys
 |[],us,h=>by cases h;rw[NH [] rfl]
 |HX,us,h=>by
  cases h with
  |cons r q =>
   rw[HQ r];rw[DI l rfl e a3D q];rw[NH ((y,t)::l) (GT List.map_cons e)]
inductive rJoin(K:qF)(x:V)(vs:A0)(H:Hp)(Q:VK):Prop
 |mk (sep:Str) (p:qE) (ys:AA) (B:Nat) (_:DT3) (_:oN) (_:SqL K H p DJ3) (_:CD8) (_:F86) (_:EEA) (_:ELA):CB3 rJoin
section
variable {X:Cx}
def c5S(K:qF)(f:AT:=by rfl):DWY C51:=by
 subst f;rw[jY n m];rw[FKY d g c n k m.one k];rw[B6E j o (I.list hs)];rw[mU l b a3D j];have i:EEW:=by
  rw[AB b (joinFits d g)]
 rw[FEX meets_str_join_list i o.isList]
 match l,b with
 |[z],b =>
  rw[FFX]
  rw[F2J]
 |[],b =>
  rw[BIA]
  rw[F9E c]
  rw[F4M]
 |F21,b =>
  rw[BIA]
  rw[EZ1 c]
  rw[ERJ]
#where
def a7L:∀(ys:AA) (tk:Nat),EL7 (strsFrom tk ys)
 |[],_=>.nil
 |HX,tk=>.cons (UP tk) (a7L ys (tk+1))
inductive rSplit(x:V)(vs:A0)(H:Hp)(Q:VK):Prop
 |mk (a b:Str) (_:A1B a) (_:A7F DFV) (_:1<=b.length) (_:CK (a.length+2)) (_:APO (eZ p (JR (Txt.split a b).map))):A32 rSplit
section
variable {X:Cx}
def c0m:MtR X "str.split" rSplit:=by
 rw[jY n m];rw[SO a b rfl rfl j g q];rw[HQ n];rw[HG u l m.one];rw[LN f l];have c:=split_le a b;have one:Txt.split a b=LF->sH kR (A5I (BN5 (AL4 [Value.str a t]))):=λe=>by
  rw[e]at q;exact mM (A9K I.laid s.toks (DW [D2L]) k (nA (A06 1) 0 (.cons B3D .nil) KF)) AP7
 by_cases h1:A0P EI3 EI4
 .rw[COA (meets_str_split_cannot_occur a b t f h1) (one ?_)];rw[FY Txt.split B2T]
 .have h1':(EI3 || EI4)=false:=by simpa using h1
  have i:(b.length==0)=false:=by
   rw[AZ beq_eq_false_iff_ne c0E j]
  by_cases d:AY FF0
  .rw[COA (meets_str_split_not_found a b t f h1' i d) (one ?_)];unfold Txt.split;rw[AOE,EA d]
  .have hf':FF0=false:=by simpa using d
   have e:Txt.split a b=partsBetween a DBC b.length:=by
    unfold Txt.split;rw[AOE,BD d]
   rw[e]at q c;rw[COA (meets_str_split_sep a b t f h1' i hf' AD (~~~c1o g c)) ?_];exact mM (A9K I.laid (AF5 _) (JR (partsBetween a DBC b.length).map) k (nA (IL (c1o g c)) 0 (BZ a7L) KF)) AP7
#where
def c3K{α:Type}{c:α}:∀{a b u v:CJ},c∉a->c∉b->a++c::u=b++c::v->a=b/\u=v
 |[],[],_,_,_,_,h=>by rw[AN8 _ h];rw[AQ rfl h]
 |[],A2G,_,_,_,e,h=>by
  rw[AN8 h1 _]
  rw[DT (ABT h1) e]
 |iY,[],_,_,d,_,h=>by
  rw[AN8 h1 _]
  rw[DT (OV h1 List.mem_cons_self) d]
 |iY,A2G,u,v,d,e,h=>by
  rw[AN8 h1 h2]
  rw[XH e1 e2 (c3K (CBB d) (CBB e) h2) (GT h1 e1) e2]
def a1D(c:Nat)(x y:Str)(r:AA):CFC oM=x.cps.toList++c::CFC kT:=by
 show(EQU).cps.toList=_;rw[Str.cps_append,Str.cps_append,Array.toList_append,Array.toList_append,List.append_assoc];rfl
def b1H{c:Nat}:∀{ps qs:AA},DJ9->HH qs->DF a ps C9Y->DF a qs C9Y->Str.join KW ps=B31 qs->ps=qs
 |[],_,h,_,_,_,_=>A43
 |_,[],_,h,_,_,_=>A43
 |[p],[q],_,_,_,_,h=>WO (show p=q from h)
 |[p],q::q2::r,_,_,b,_,h=>by
  rw[F6O p.cps.toList this EG7]
 |DTI,[q],_,_,_,d,h=>by
  rw[F6O q.cps.toList this.symm DU3]
 |DTI,q::q2::s,_,_,b,d,h=>by
  rw[DB7];rw[a1D,a1D]at this;obtain⟨e1,e2⟩:=c3K EG7 DU3 this;have f:B31 (p2::r)=B31 (q2::s):=EDA e2;rw[EDA e1,b1H AF AF (λa e=>b a AOF) (λa e=>d a AOF) f]
def a2r{c:Nat}{ps:AA}(h0:DJ9)(h:∀a∈ps,C9Y):Txt.split DXR KW=ps:=by
 refine b1H (c:=c) ANZ h0 (BH a b) h (BZ join_split)
 .have:=split_pos DXR KW;rw[TU z];simp at this
 .exact split_free _ c a b
#where
section
open PySem.NumText
noncomputable def E9(n:Nat):Str:=Str.ofString (toString (EU n))
def a1I(n:Nat):ARY=EI2 map Char.toNat:=PySem.W.KIN.signs_num n
def W9(n:Nat):AllDigits ARY:=λc b=>by
 rw[a1I]at b;rw[DI ch a e List.mem_map.mp b];have r:=digit_range (Nat.isDigit_of_mem_toDigits AH AH a);rw[JY e r]
def a1H{n k:Nat}(a:0<k):BBC k↔n<rN k:=by
 rw[<-Nat.length_toDigits_le_iff (b:=10) AH a,show BDA=BNE cps.toList.length by rw[Array.length_toList];rfl,a1I,List.length_map]
def a3u(n:Nat):HH ARY:=by
 rw[a1I];intro e;have h:=Nat.length_toDigits_pos (b:=10) (n:=n);rw[List.map_eq_nil_iff.mp e]at h;rw[DT h AH]
def b4k{n:Nat}(h:BBC 4300):PySem.intText? (E9 n)=some EV:=by
 have e:=intText_digits (W9 n) DI3 h;rw[a1I,PySem.W.KIN.val_back]at e;exact e
def a8m:∀n:Nat,0<n->BNE cps.toList.head?≠AO 48:=by
 have key:∀n:Nat,0<n->∃d,0<d/\d<10/\EI2 head?=BK Nat.digitChar d:=by
  intro n;induction n using Nat.strongRecOn with
  |_ n g =>
   intro f;by_cases h:n<10
   .rw[BW n f h (XA (Nat.toDigits_of_lt_base h))]
   .rw[A7Q d a e (g D6T AD AD)];refine⟨d,a,c,?_⟩;rw[GJ t (Nat.toDigits_append_toDigits (b:=10) (n:=D6T) (d:=n % 10) AH AD (BNW AH)) Nat.div_add_mod t];rw[<-t,List.head?_append,e];rfl
 intro n f;rw[A7Q d a e (key n f)];rw[a1I,List.head?_map,e];have:∀d:Nat,d<10->0<d->AO (((Nat.digitChar d).toNat))≠AO 48:=AH
 exact this d c a
def b7A:EDF (E9 0):=rfl
inductive rIntT(xs:A0)(H:Hp)(Q:VK):Prop
 |mk (x:Str) (n:Int) (_:xs=[VH]) (_:AXS 640) (_:HN PySem.intText? n) (_:SI n):jU rIntT
inductive rStrI(xs:A0)(H:Hp)(Q:VK):Prop
 |mk (n:Nat) (_:xs=WN n) (_:E6L) (_:Q (A57 E9 n) H):jU rStrI
section
variable {X:Cx}{e:Expr}{t:TA}{p pos:Pos}
def b8a:hX B2D rIntT:=by
 rw[mW];obtain⟨x,n,rfl,a,b,q⟩:=h;obtain⟨u,rfl,t,rfl⟩:=r.one;exact PySem.W.KIN.call_text b a (nU C17)
def b7O:hX DEM rStrI:=by
 rw[mW];rw[XG n rfl b q];refine cK a9X _ us Q I r (HE n ?_ q);have h1:AM1 1900:=Nat.lt_trans b FV;rw[CEY]
 .subst a;decide
 rw[F8A (Nat.lt_trans h1 FV)]
def c6A(d:DIW)(f:DK7)(b:oP)(c:wR:=by rfl)(a:wH:=by rfl):B4D "int" rIntT:=E8I b8a
def a2b(d:KD "str")(f:NA "str")(b:oP)(c:wR:=by rfl)(a:wH:=by rfl):B4D "str" rStrI:=B5D N4 b7O c3U
#where
section
variable {X:Cx}{o e:Expr}{es:BT}{to:TE}{t:TA}{qN qM:Pos}
def Y6(K:qF)(h:aU)(g:FC)(f:AT:=by rfl)(b:DO9:=by rfl)
  (d:jZ:=by rfl)
  (c:TL:=by rfl) (hs:DE:=by rfl) (a:TH:=by rfl) :
  E79 C51:=(F5U c5S)
def a6D(K:qF)(h:aU)(g:FC)(f:AT:=by rfl)(b:cW "split":=by rfl)
  (d:jZ:=by rfl)
  (c:TL:=by rfl) (hs:DE:=by rfl) (a:TH:=by rfl) :
  D4V "split" rSplit:=(D4X PySem.F.slot_str_split PySem.F.type_str_split c0m)
#where
#where
section
variable {K:qF}{Q:qH}{X:Cx}{qN qM pos:Pos}{e:Expr}{es:BT}{k:Bool}{t:TA}{te:TE}{w:World}
noncomputable def Itc(x:Str):It:=⟨B8F DFL,AMR v (H'=H/\∃c,CC x.cps c/\v=.str KW),B8F DIL⟩
def b6n{P:qG}{tg:Expr}(it:qE)(x:Str)(t:Tok):BYO C22 (h.IsStrIter it "str_ascii_iterator" x t i) where
 mem:=AF
 obj:=AS7 b (by
  rw[A14 it f]
  rw[CPO])
 keep:=A1S k (let ⟨o,ho,r⟩:=st;WS (DVV ho) r)
 item:=by
  rw[FKZ DFL];refine EB (wpAny_pyNext_ascii_item st (c:=D3H) C44) h' st' B;have y:kG BUU:=I.turned (t':=kO) (BXL B.extBut) j f1 l m n;rw[DBR];exact DJ (DC8 BUU (.str (pV D3H)) y QD (A8F _ C44 rfl))
 done:=by
  rw[FKZ DIL];exact wpAny_pyNext_ascii_end (I.ok.hd u) st C44 λh' A=>DZ (B1L (BXL A) j l m n)
 self:=BI7 wpAny_pyIter_striter_ascii
inductive iSignI(R:jA)(v:V)(H1:Hp):Prop
 |mk (x:Str) (_:CIL) (_:B7R x.cps.all) (_:R (Itc x) H1):iSignI R v H1
noncomputable def c7T(tl:TE):TI:=DVZ tl iSignI
section
variable {tg:Expr}
def c5l{l:Expr}{tl:TE}(f:ASL):B15 EB1:=by
 rw[B2Y];refine cZ f j;rw[SN x a i g j];rw[A7Q x rfl q g];rw[HQ i];rw[DCG wpAny_pyIter_ascii c a.kept (b6n _ x t)]
 rw[EQG]
def b5G{l:Expr}{tl:TE}(a:CGR):JI X tg l EB1:=⟨c5l a.h⟩
#where
def b7J{src:NQ}{g:TG}{h:TT}{σ:St}{Q:VK}{x:Str}{H1:Hp}(f:CK x.cps.size)(a:A2H)(h0:DW2)
  (e:CPD)
  (hs:∀i c ys H,CC x.cps c->B0M->F40 DU8 d d (CIJ a))
  (hd:AKY a x.cps.size A95):ASW h C22 :=
 a3v x.cps.size a h0 (FHH e v (by obtain⟨rfl,c,k,rfl⟩:=y;exact hs i c ys _ k p))
  (F2N e _)
section
variable {prog:qG}{A:Around}{E:qH}{s:qC}
def a6j{T qR:String}{b:qB}{rest:AN}{kw:uN}(e:D97 "__init__" "object.__init__")
  (f:AVB Bind.madeBy T=pJ some qR) (c:ESO) :
  AB0 Builtin.«object.__init__» (cO lJ) (s.TypeIs b T/\D57 s):=by
 refine Meets.of_wp (EE prog w A R s ⟨d,a⟩);cases rest with
 |nil =>
  cases kw with
  |nil=>rw[iN (DJ a)]
  |cons y kw =>
   rw[VN]
   exact DJ a
 |cons y rest =>
  rw[VN]
  exact DJ a
def b2g{T qR:String}{i:Builtin}{args:AN}{kw:uN}{S:PySem.Spec}(b:TypeCalled T qR "object.__init__")
  (d:ESO) (n:AOX (checkTypeCall T (cO args))) (c:AOX (checkBuiltinCall qR (cO EBO)))
  (e:∀a,argsOk "object.__init__" (cO (a::args))) (m:AT1 qR i) (g:Meets (i (cO EBO)) S)
  (h:S A.in1 (wants (λa s₁=>s₁.TypeIs a T/\Q a s₁) E) s):EOE AA1:=by
 obtain⟨y,z,k⟩:=b.mro;rw[D1B o b.made p b.sub (rO callAny T _) F.entry_type_call];rw[D0K T args kw (units_type_call_type T args kw)];rw[AC q b.notType t b.canCreate]
 rw[VN]
 refine JQ codeAny_mono (codeAny_call_builtin b.plain m (wpAny_of_eq c (g prog w A.in1 _ s h))) r s₁ f;rcases r with x|fl
 .exact f
 cases fl with
 |ret a =>
  rw[ABE l f];rw[AC u b.init.lookup v (b.init.bind a)]
  rw[VN]
  rw[D1F (codeAny_call_builtin b.init.plain F.entry_object_init (oQ (oQ b.init.check) j (e a) ((a6j b.init.lookup b.made d) prog w A.in1 (CSV (Q a s₂)) s₁ (D4 j l))))];rcases r₂ with x|fl₂
  .exact hr₂
  cases fl₂ with
  |ret r =>
   obtain⟨rfl,l⟩:=hr₂
   rw[VN]
  |_=>rw[B64]
 |_=>exact f.elim
def b7E(l:qE)(xs:CO)(t:Tok) :
  AB0 Builtin.«enumerate.__new__» (BCP [C14,IX] (A75 1)) (DSD /\
   AMC C5Q (JV ((s.heap.push AYZ).push DC6))) :=
 (wW (by
  rw[nN e];rw[yZ b h];have c:=sub_enumerate;have a:AFX (CFY e) xs:=b
  wp_walk using N8 a
  intro Γ p f;change FU _ _ (hH (_:Bool)) _ _ _;rw[AK9];rw[LV c8d ?_]
  .wp_walk using N8 a
   rw[vW]
  .wp_walk using N8 a
   rw[vW]))
def b4l{e it l:qE}{i:Nat}{z:Int}{items:CO}{x a:qB}(N:ATH s.heap z)(J:BGA)(V:A3O)(W:C3E)(ne:ECG)
  (U:∀(h':Heap) (t:Tok) (tk:Nat),DB8 h' s.heap.objs.size->ENC->C8K (EJB t)->E3Z ->
   (RW B2R (C2Z->RP->WJ))->zY bY) :
  FEW Builtin.«enumerate.__next__» e:=by
 rw[A9E e 2 N A0I];rw[AX (EB (a2X J V W) h1 L u)];have h:ATH h1 z:=AJ u.extBut ne N;rw[A9E e 3 h (rawInt z)];rw[A9E e 4 h .none];rw[F3R wpAny_mkInt];rw[AX (EB (EXA (eU s h1 kO) h) h2 j y)];replace j:ATH h2 AJS:=j;rw[AX (EB (EXA (eU s h2 kO) j) d f B)];replace f:ATH d AJS:=f;rw[EFV K d.objs.size (by rw[B.1,dF,u.1])]
 have r:e<d.objs.size:=Heap.lt_size f;have m:ATH (d.push (sF #[.int z s.toks,x])) AJS:=PQ f;rw[DCE m];rw[F3R wpAny_rule];rw[BKG m a];rw[AX (EB (AAF m) S n C)];replace n:CK4 S AJS x:=n;rw[QQ];rw[A7C Builtin.SmallTypes.ownedTupleHandOut (EB (wpAny_setField_rec n AF) T p D)];replace p:EAG T:=p;refine EB (wpAny_setField_rec p AF) G g F;replace g:EAG G:=g;rw[DIK];have P:BYE (c≠e) (AFG d.get?) G.get?:=λc o I q=>F0P I I I rG;have M:CQ G.get? d.objs.size (EJB s.toks):=F0P C4B C4B C4B KF;have O:G.objs.size=d.objs.size+1:=by rw[F.1,D.1,C.1,Heap.size_push]
 rw[UQ sW];show IR d.objs.size _;rw[K]at M O g⊢;refine U G s.toks kO g (((AH0 L.extBut y.extBut ne.symm B.extBut ne.symm)).at λo q=>P it o ne.symm q) M O λb o H R q=>P b o H (AJ B.extBut H (bR y.extBut H u.extBut R q))
def b7F{e it l:qE}{i:Nat}{z:Int}{items:CO}{f:qB}{Q:C3I}(m:PH)(j:CK4 s.heap z f)(a:BGA)(n:A3O)(p:C3Z)
  (h:CZ0 x (B51 (c≠e) (c≠it->A7L->B3E)) (HN h'.get? o) (KB E x UE)) :
  F1 (BVY Builtin.«enumerate.__next__» e):=by
 rw[A9E e 2 j A0I];rw[ABO (a8G m a n p λh1 x b d=>h h1 x (λc o _ g q=>AJ b g q) d)]
def a5x(a v:qB):AOX (checkTypeCall "enumerate" (BCP LF v)):=MC
def a7y(a v:qB):AOX (checkBuiltinCall "enumerate.__new__" (BCP [C14,a] v)):=MC
def b4x(a b v:qB):argsOk "object.__init__" (BCP bD v):=BZL
def b4m{l:qE}{xs:CO}{t:Tok}(b:DSD)
  (h:∀h',IsEnum h' HK s.heap.objs.size 1 .none->EJC h'->D1Z A1D->EOQ->C29 HK) :
  BQW C14 AXD (AXG "start" (A75 1)):=by
 refine b2g F.called_enumerate AH (BZ a5x) (BZ a7y) (λd=>b4x d _ _) F.entry_enumerate_new (b7E (k:=k) l xs t) (HJ b);have e:C5Q=HK:=BU7;have a:CQ EM4 C5Q _:=KF;have g1:A70 EM4 AYZ:=AOD;show _/\_;rw[e]at a;rw[e];rw[EC (MW a) (h _ a ?_ (GT Heap.size_push e) λc o x=>sC x)];rw[C09 k g1]
#where
noncomputable def It1(K:qF)(k:Bool)(a:qE):It :=
 ⟨DAE BBP,
  AMR v (∃p x,BA6/\TZ/\H'=gU p CHJ/\D78 BBP),
  D8C BBP⟩
structure ETurn1(k:Bool)(e it a:qE)(i:Nat)(h:Heap):Prop where
 en:∃old,CK4 h (1+UJ) old
 t1:ItAt k h it a i
def b2w{P:qG}{kt:Nat}{tp:Pos}{a e it:qE}(ne:ECG) :
  Turn P w K (BR9 kt tp) AT8 B0H e (A7H (ETurn1 k e it a i h)) where
 mem:=AF
 obj:=AS7 c (by
  rw[BG9]
  .rw[SK l st.en];exact ES q AMB
  rw[COR st.t1.get])
 keep:=A1S k ⟨ED3 l ⟨l,AQL e q⟩,st.t1.at λo q=>DVV q⟩
 item:=by
  rw[FHS];obtain⟨xs,x,j,C⟩:=L;rw[EZ us O N zu I.sqk j];rw[DI u hu R O.get C];rw[FFJ (ENP
   (DDO F.slot_enumerate_next p F.entry_enumerate_next
    (b4l g st.t1 N (x:=u) DGI ne λh' t tk V W Y a4 Z=>AAE) (F.args_enumerate_next_1 _)))]
  rw[A2F];refine EB (wpAny_letOwnedTupleGo_enum (s:=bY) V) h2 J n;have y:A0D B0H DKL:=λc f q=>by
   have:∃o,A7L:=by
    rw[BG9]
    .exact EM g
    rw[CFG st.t1.get]
   obtain⟨o,z⟩:=this;exact rL Heap.lt_size z (BBJ q)
  have m:A2D:=cQ;have M:=AJ n.extBut (y e AF).symm Y;have kk:F4K B0H:=λc o f q=>by
   rw[B5N f];exact AJ n.extBut hJ (Z c o hJ f.2 q)
  have S:ETU CHJ :=
   I.turnedT (ch:=[e,it]) B rfl kk (F6U [A75 (1+i),u] B3D R M)
  have U:=S.tok tk;refine cN kR _ U ⟨_,x,rfl,m,rfl,BH zs hz⟩ ⟨EM ((show WT+EU AM=1+i+1 by rw[PD 0x583e9b863a2e2026d]) ▸ J),W.extBut n.extBut ne.symm⟩ CEE
  .rw[AB (I.sqk_inj hz j) C]
  .rw[A6 (y c f)];exact(B c f).1
 done:=by
  rw[FHS];obtain⟨xs,j,r⟩:=L;rw[EZ us O N zu I.sqk j];have l1:=O.length;rw[FFJ (ENP
   (sG F.slot_enumerate_next p F.entry_enumerate_next (b7F DJQ g st.t1 N (AZO N0 r l1) (BS h' x hk C)) F.args_enumerate_next_1))]
  rw[FEG C (I.turnedL (ch:=B0H) B (BS c o f q))];exact hk c o hJ f.2 q
 self:=λA i s Q E st h=>ED3 _ (wpAny_pyIter_enum q h)
inductive iEnum1I(K:qF)(R:jA)(vs:A0)(H1:Hp):Prop
 |mk (k a:_) (_:AC8) (_:FBF k) (_:R AT8 H1):E2F iEnum1I
noncomputable def d0g(K:qF)(ta:TA):TI:=ENT iEnum1I
section
variable {M:Model}{A:Around}{E:qH}{s:qC}{env:Env}
def a7c{T:String}{rest:BT}{kws:AF0}
  (h:MV M (EWN CIY) ((λvs s₁=>wpAny M A (evalAll ((backToKw pos (keywordEach kws env)).map (·.2))) (λqL s₂=>wpAny M A (call (.type T) vs (((backToKw pos (keywordEach kws env)).filterMap (·.1)).zip qL)) Q E s₂) E s₁)))
  (c:backTo pos CIY=ATT (BLR env) (D8T rest):=by rfl)
  (f:AGJ CIY:=by rfl) (b:EO (EWK all) ((·.1.isSome)):=by rfl) (d:KN (EWK any) ((·.1.isNone)):=by rfl) :
  MV M (callWith pos AA1 [] E9X F2L) Q:=by
 have h2:MV M (evalArgs AA1 true E9X F2L) (λa s₁=>FU M A (call AA1 ([]++a.pos) a.kw) Q E s₁):=by
  rw[c]at h⊢;exact evalArgs_kwB b h
 unfold callWith;rw[PP wpAny_holding (cT h2 (λa s₁ h₁=>AHL wpAny_standAt) x x)];simp only[f,d,Bool.or_false];rw[uM];rw[ABO (cT h₁ (λr s₂ g=>E4E (sI wpAny_point g)) x x)]
#where
def c3d(K:qF){v:Nat}{z:Pos}{a:Expr}{ta:TA}{p kp np:Pos}{nk:Nat}(o:KD "enumerate")(r:NA "enumerate")(m:JA X LF ta)(l:AT:=by rfl)
  (n:backTo pos DFA=ATT AXY CDE:=by rfl) (e:AGJ DFA:=by rfl) :
  JI X (.Tuple es v z) (FEC "enumerate" LF "start" (BP 1)) (d0g K ta):=by
 rw[B68 l (AMW R ?_)];rw[BSW (a2J I o r b0d ?_ AH AH)];refine a7c (CEO m.h C) n e;rw[EYN j y x C wpAny_Constant_int];obtain⟨k,D,rfl,⟨xs,t⟩,q⟩:=x;rw[VA g y.one g];have d:=j.tok BPQ;rw[EZ us g w F d.sqk t];refine b4m w (DQ h' i A E B);refine wpAny_pyIter_enum (s:=eU s1 h' BPQ) i ?_;refine⟨C0G,[C0G,s1.heap.objs.size],_,_,H1,rfl,DQ9 BPQ B,b2w (nne (XW 13776102005)),⟨EM i,A⟩,CEE,q⟩;have b:DNN:=by
  rw[BG9]
  rw[ANU]
  rw[DSZ]
 exact d.fpOk b (d.hok.fresh b)
def b7w{a:qE}{xs:A0}{g:TG}{tb:TS}{D:Ends}{σ:St}{H:Hp}(c:ACC)(h0:C7J)
  (j:CL5 BBP)
  (hs:∀i x σ H p,cH->AXL->TZ->AH9 (CKR σ CHJ) A03 A03) (hd:CDG) :
  ASA (ADJ ->
   ASC (AT8).stop (AT8).go f f (W AM f σ' H') (AT8).yld):=by
 rw[DAM EII];have d:=D8G j;rw[D7S]
 .rw[B5K (BRT d DFY) A03 (QF _ D4K b p')];obtain⟨l,x',e,e2,h,n⟩:=y;subst e h;exact hs i x' σ _ l (n xs d) p e2
 .rw[CNN]
  rw[ATG (B4E d)]
inductive rInS(x:V)(y:V)(H:Hp)(Q:VK):Prop
 |mk (c:Nat) (z:Str) (_:A1B KW) (_:y=.str z) (_:BQF BAC):aT rInS
inductive rLenS(xs:A0)(H:Hp)(Q:VK):Prop
 |mk (z:Str) (_:xs=[DHH]) (_:C1B) (_:DM2):jU rLenS
noncomputable def c8c(i j:Int):Prop:=0<j/\j<C6N
section
variable {a b c o i:Expr}{ta tb tc td ty tv:TE}{p:Pos}
def c9h:B9S rInS:=by
 rw[OX a b];rw[QP c z rfl rfl q];rw[HQ a];rw[kQ b];rw[HI PySem.P.in_str];rw[StrLaws.found_one];exact CAG
def c2W(c:CP)(d:DN)(e:BBO):ACR .In rInS:=AVM a1V c9h e
def a9K(i:B8M)(j:B92)(f:oP)(g:wR:=by rfl)(d:wH:=by rfl):DYH rLenS:=⟨F3 (r:=rLenS) (λp s σ H x u Q I r h=>by rw[XG z a b c];exact a9Z p s σ H x u Q I r (ERR z)) i j b0c f.h AH AH g d⟩
def c7S(c:CP)(d:DN)(hs:B7J:=by rw[AS9]):CMM rIxS:=AVM b9A c9Z hs
def c6p(d:CP)(e:DN)(f:EDZ)(g:E2Y:=by rw[pN]):JT X E0V (S4 (a8E A3C A3C ta tb tc)):=FG1 b9f
def b9P:EQ0 c8c:=ATP i j (by
 rw[FCJ C6N];refine floordiv_int DQ8 ETC (fA .inl PyProof.noPylong_of_log2);refine dH Nat.log2_lt AD ?_;rw[ABR b (j.natAbs<rN 100)]
 exact Nat.lt_trans b FV)
def c6C(c:CP)(d:DN):EQ5 c8c:=YF b9P
def W7(b:HM)(a:w5)(hi:ARR)(hs:d0G i:=by rw[AS9]):BAG o i E2Q:=⟨c5t DQW a.h hi.h hs⟩
#where
structure JPs(X:Cx)(pos:Pos)(keys:AO9)(values:BT)(trs:A3Y):Prop where
 h:AR8 keys values trs
section
variable {k v:Expr}{ks:AO9}{vs:BT}{tk tv:TE}{trs:A3Y}
def c9O:BVF [] [] []:=⟨c4Z⟩
def a5l(a:CY k tk)(c:CY v tv)(b:BVF ks vs trs):EQE EX1:=fO b9n a.h c.h b.h
def c9W(h:EQE trs)(a:EO (AAY).all ((·.isSome)):=by rfl)(c:IW AAY=IW AAP:=by rfl)(b:IW AAY<=15:=by decide):yF .Dict AAY AAP EAZ:=⟨c5s h.h a c DD4 b⟩
#where
noncomputable def c3k(items:CO)(x:qB)(i:Nat)(_:CIH):Sem (ForInStep CIH) :=
 match CX2 with
 |BT2=>do
  let b <-eqBool y x
  if b=true then do
    let r <-retInt (i:Int)
    pure (ForInStep.done (some r,()))
   else pure (ForInStep.yield (none,()))
 |x=>DXM
def b5J{prog:qG}{w:World}{B:Around}{E:qH}{s:qC}{items:CO}{x:qB}{f:jD}{k:Nat}{Q:OH ((CIH))}(n:DMW)(a:CH4)(l:EOH)(i:∀j y,DTZ->BF2 B y x f j)
  (q:Q (AO (Fin.done (.ret EF6)),()) gW):∀m j,j+m=items.size->ACS->C9O B (forIn (List.range' j m) (BWG Fin,()) (c3k items x))
 |0,j,h,b=>AD
 |m+1,j,h,b=>by
  rw[List.range'_succ,List.forIn_cons];have c:j<items.size:= dZ 0x1ccf59f7ad1b835d7
  have hi:AVG items items:=by simp[c]
  rw[QQ];rw[FY c3k hi];rw[AX (i j _ hi prog w _ _ ?_)];rw[FO j k]
  .rw[DB];rw[a];rw[nN o]
   wp_walk
   exact q
  .rw[A0N (l j (C8M c1S)) ?_];exact b5J n a l i q m JL (dZ 0x119033b1dd71f9a50a135d7) (C8M c2h)
def c3i(l:qE)(items:CO)(n:Nat)(dd:IN)(sl:aW)(x:qB)(f:jD)(k:Nat)(i:DMW)(a:CH4)(c:EOH) :
  D71 Builtin.«tuple.index» x
   (BGN (AMN/\(∀j y,DTZ->BF2 A.in1 y x f j)/\A91 EF6 gW)):=by
 intro prog w A R s h;rw[nN o];rw[v5 m b h];unfold Builtin.«tuple.index»;simp only[Std.Legacy.Range.forIn_eq_forIn_range',Std.Legacy.Range.size]
 wp_walk using PySem.AutoSeq1.wpAny_loadPart' m
 have e:(min items.size items.size-0+1-1) / 1=items.size:=by simp
 rw[e];refine b5J i a c b ?_ items.size 0 (XW 6111941725) (Nat.zero_le _);rw[C7F]
inductive rIndex(K:qF)(x:V)(vs:A0)(H:Hp)(Q:VK):Prop
 |mk (a:qE) (xs:A0) (y:V) (n:Nat) (f:jD) (k:Nat) (_:JH) (_:BBG) (_:A2Z) (_:n<=8) (_:(∀j z,E0I->AZ0 n z (f j))) (_:ACW) (_:CH4) (_:(∀j,j<k->D7B)) (_:SI k):CB3 rIndex
section
def c0p(D:HM):vC "tuple.index" (rIndex X.K):=by
 rw[jY G F];obtain⟨a,xs,y,n,f,k,rfl,rfl,p,C,w,B,e,A,q⟩:=h;cases G;rw[mU u E a4x F];obtain⟨z,its,r,o,l,t,m,hd⟩:=BNM B7T p;obtain⟨cls,dd,data,sl⟩:=o;have d:cls=.type "tuple":=AM4 t;simp only at hd;subst d hd;have b:=r.length;rw[sQ PySem.F.slot_tuple_index (MW l) PySem.F.entry_tuple_index PySem.F.args_tuple_index_2 (CKV c3i sl u f k (BZJ b B) e A) (CNU l (EI j J c) k QD)];rw[MD c (IZ its J) c]
 have i:eB:=by rw[ACG b c]
 obtain⟨K,hw,g⟩:=r.get (List.getElem?_eq_getElem i);rw[AW c hw hw];exact EqV.at I (B0S w j i) (by rw[iU CUW 0x43cc610c9cffc0327d312a7 D C]) g E
noncomputable def d0X(r:A3F)(to:TE)(t:TA):TE:=NG to x ((∃a xs,JH/\E8B a)/\VB t vs (r x vs H2 Q))
variable {o:Expr}{to:TE}{name:Str}{id:String}{r:A3F}
def c8W(j:CK1 "tuple")(l:COG)(B:vC id r)(C:AQI)(A:oT)
  (d:C7K:=by rfl)
  (g:LQ (AVU
   && AVT):=by rfl)
  (f:TL:=by rfl) (hs:DE:=by rfl) (c:TH:=by rfl) :
  CH2 (d0X r to t):=by
 rw[EY1 d g f C K];obtain⟨x,H1,n,G,⟨a,xs,D,k⟩,E⟩:=K;subst D;cases G;obtain⟨z,its,rr,u,i,q,m,hd⟩:=AG9 (BEI H1 s1.heap a B7T) (n.hok a _ k);refine⟨"tuple",id,PySem.F.plainAttrs_tuple,j,l,B63 i (AM4 q),(λb y=>by cases y;rw[AU u i (DLR q)]),?_⟩;have p:=AEJ A qM n E;rw[EVQ p ((by show(false || (backTo qM (starEach es X.env)).any (·.1))=false;rw[c]<;>rfl)) p w J F (AIQ B CM vs CM us Q w rfl J F)]
def b7o(K:qF)(i:HM)(h:aU)(g:FC)(f:AT:=by rfl)(b:DOA:=by rfl)
  (d:jZ:=by rfl)
  (c:TL:=by rfl) (hs:DE:=by rfl) (a:TH:=by rfl) :
  CY (AFT "index") (d0X (rIndex K) to t):=by
 subst f;exact⟨c8W PySem.F.slot_tuple_index PySem.F.type_tuple_index (c0p i) h.h g.h b d c hs a⟩
#where
noncomputable abbrev TF:=St->Hp->EL Str ((DHC))
noncomputable def d1Q:TF:=λ_ H qP Q=>Q qP H
noncomputable def d1R(te:TE)(t:TF):TF:=EU8 (∃x,CIL/\CGT x/\CO4 x)
noncomputable def d1S(te:TE)(t:TF):TF:=EU8 ((∃x,CIL/\CK x.length/\CGT x/\CO4 x)∨fW n (v=.int n/\E6L/\CGT AOK/\CO4 AOK))
noncomputable def tFs(t:TF):TE:=kL (YY t Str.empty λx H1=>CK x.length/\Q (.str x) H1)
structure JFs(X:Cx)(es:BT)(t:TF):Prop where
 h:FJK qP Str Q DHC (t σ H qP Q) (Joins RE X.A X.xe (kE evalEach es) qP (λx s1=>∃H1,CGV/\Q x H1) s)
section
variable {e1 e2:Expr}{t:TF}
def a3l:JFs X [] d1Q:=CPN ⟨H,I,h⟩
def a0M(b:aV)(d:E05):CCP JFs d1R:=CPN (by
 show KZ _ pM;refine cZ b.h i;obtain⟨x,H1,a,g,y,f,c,q⟩:=i;subst f;rw[LN tk g];rw[EF y tk rfl c (iC d.h _ Q a q)])
def O4(g:aV)(c:E05):JFs X (F9M::es) (d1S te t):=CPN (by
 show KZ _ (RA F9M);refine wpAny_FormattedValue_plain (cZ g.h k);rw[SN x b d q k];rcases q with⟨y,rfl,j,a,q⟩|⟨n,rfl,i,a,q⟩
 .rw[LN tk d];exact wpAny_formatField_str (QF y tk a (iC c.h _ Q b q)) (QF y _ a FG2) j
 .rw[LN tk d];refine wpAny_formatField_int ?_ (QF _ _ a FG2);rw[BI f n 0]
  .subst f;decide
  rw[F8A (Nat.lt_trans i FV)])
def b1G{M:Model}{A:Around}{E:qH}{Q a:OH Str}:∀(ps:qA (Sem qB)) (qP:Str) (s:qC),EXT qP Q s->(∀x s1,Q x s1->a x s1)->EXT qP a s
 |[],_,_,h,k=>ALD h
 |_::ps,_,_,h,k=>thn h λ_ s1 (F2V q)=>F2V (b1G ps _ s1 q k)
def c3g(h:JFs X F22 t):CY (.JoinedStr F22 pos) (tFs t):=⟨ATO Q q (by
 rw[HI wpAny_JoinedStr];exact JC b1G (cK h.h Str.empty _ I q) λx s1 (ERR H1)=>⟨b,VH,H1,a.tok _,QD,c⟩)⟩
#where
section
variable {a b c:Expr}{ta tb tc:TE}
def c6o(d:CP)(e:DN)(f:EDZ)(g:E2Y:=by rw[pN]):CY E0V (a8E A3C A3C ta tb tc):=FG1 b9H
#where
inductive rCount(x:V)(vs:A0)(H:Hp)(Q:VK):Prop
 |mk (l:qE) (xs:A0) (y:V) (_:vT) (_:BBG) (_:YB) (_:ADP) (_:AMI) (_:SI EGH):A32 rCount
inductive rIndexL(x:V)(vs:A0)(H:Hp)(Q:VK):Prop
 |mk (l:qE) (xs:A0) (y:V) (k:Nat) (_:vT) (_:BBG) (_:YB) (_:ADP) (_:AMI) (_:ACW) (_:(∀z,ANM k z->AY BRY)) (_:(∀j z,j<k->E0I->pR eqV z y)) (_:SI k):A32 rIndexL
section
noncomputable def bkV:qB->V
 |.none=>.non
 |B7I=>dX
 |CH1=>dW
 |EE6=>VH
 |_=>.non
def c8b{x:V}{v:qB}(f:wA)(h:cU):bkV v=x:=by
 cases x<;>first | (cases h;rfl) | rw[CGI h]|cases f
def b5T{xs:A0}{its:AN}(r:uD)(h:AMI)(y:V){u:qB}(k:ADP)(l:NL):∃e:DP0,(FBZ e):=by
 classical
 rw[EC (λv=>EG (∃x,wA/\cU/\AY B33)) (DQ j x v f i)];rw[nG m a g f];rw[AW i a a];have d:wA:=List.all_eq_true.mp h x (List.mem_of_getElem? f);cases e:B33 with
 |true=>rw[B6S ⟨x,d,g,e⟩]
 |false =>
  rw[HI decide_eq_false];rintro⟨x',b,c,e'⟩;have:x'=x:=by rw[<-c8b d g,c8b b c]
  rw[S1 this e e' e']
def c0q(p:HM):vC "list.count" rCount:=by
 rw[jY C B];obtain⟨l,xs,y,rfl,rfl,k,i,fs,q⟩:=h;rw[B66 C m B.one];rw[A9I o (I.lstM k)];obtain⟨d,a⟩:=b5T r fs y i m;rw[sQ F.slot_list_count iP F.entry_list_count F.args_list_count_2 (EYO SeqAt.list_countAt _ u d) (CNU e CGQ EGH ?_)]
 .rw[vX j hj CK0];have b:eB:=by rw[ACG o hj]
  have f:=DFY;rw[nG D c g f];rw[AW hj c c];rw[AB (a j _ _ f hj) (F85 (.flat (BXP fs b) i) p g m)]
 .have:F7R:=by
   clear q e k;have key:∀(xs:A0) (its:AN),uD->(FBZ d)->F7R:=by
    intro xs its r;induction r with
    |nil=>rw[jW]
    |cons r1 _ A =>
     intro h;rw[List.countP_cons,List.countP_cons,A λj x v f t=>h JL x v f t,h 0 _ _ rfl rfl]
   exact key xs its r a
  rw[KG s.toks];rw[show(its.toArray.toList)=its by simp,this]
def b7b(G:HM):vC "list.index" rIndexL:=by
 rw[jY K J];obtain⟨l,xs,y,k,rfl,rfl,E,A,fs,g,i,o,q⟩:=h;rw[B66 K C J.one];rw[A9I B (I.lstM E)];obtain⟨D,b⟩:=b5T r fs y A C;have d:k<its.toArray.size:=by rw[lX B];exact g
 rw[sQ F.slot_list_index iP F.entry_list_index F.args_list_index_2 (EYO SeqAt.list_indexAt _ u D k d (by rw[KP z sizeLine_eq];omega) ?_ ?_) (CNU e CGQ k QD)]
 .rw[CCX g];rw[AB (b k _ _ a B7M) (i _ a)]
 .intro m hm hmk;have p:m<xs.length:= ~~~b3Q g hmk
  rw[CCX p];rw[AB (b m _ _ a (BQ hm)) (o m _ hmk a)]
 .rw[vX j hj CK0];have c:eB:=by rw[ACG B hj]
  rw[CCX c];obtain⟨L,f,t⟩:=r.get a;rw[AW hj f f];rw[AB (b j _ _ a hj) (F85 (.flat (BXP fs c) A) G t C)]
variable {o:Expr}{to:TE}
def c3c(K:qF)(i:HM)(h:aU)(g:FC)(f:AT:=by rfl)(b:cW "count":=by rfl)
  (d:jZ:=by rfl)
  (c:TL:=by rfl) (hs:DE:=by rfl) (a:TH:=by rfl) :
  ADT "count" rCount:=ADU PySem.F.slot_list_count PySem.F.type_list_count (c0q i)
def b7p(K:qF)(i:HM)(h:aU)(g:FC)(f:AT:=by rfl)(b:DOA:=by rfl)
  (d:jZ:=by rfl)
  (c:TL:=by rfl) (hs:DE:=by rfl) (a:TH:=by rfl) :
  ADT "index" rIndexL:=ADU PySem.F.slot_list_index PySem.F.type_list_index (b7b i)
def b5I:ET8 b8D:=⟨b9E⟩
def c6F{td ty:TE}(c:HM)(b:w5)(a:C7H)(m:FIR:=by rw[CMX]):CY (BDS fD) E2R:=⟨b9G CYM b.h a.h m⟩
def c6E{f:Expr}{td ty tx:TE}(d:HM)(c:w5)(a:C7H)(b:EE0)(m:E3N:=by rw[CMX]):CY (BDS A0Y) E29:=(FEU b9F)
#where
#where
universe L2
namespace L2
variable {D:AA}
namespace TabS
open PySem L2.Tab
structure CameS(rows:B87)(i:Nat)(D:AA):Prop where
 nd:D.Nodup
 mem:∀x,B8W↔ESL
 le:D.length<=i
noncomputable abbrev SetS(prog:qG)(w:World)(h:Heap)(a:qE)(D:AA):Prop:=h.SetOf (AWU strKind) a (λk=>EG (k∈D)) D.length
section
variable {prog:qG}{w:World}{A:Around}{R:vM}{I:qE}{fp wr:EW}{G:EE3}{n:Nat}{P:DZT}{St:C3G}
def d1X{S:qE}{x:Str}{t:Tok}{s:qC}{E:qH}{Q:jG}(b:E8Y)(f:C6M D.length)
  (h:∀h' c,DRJ S->tS h' S (if B8W then D else x::D)->Q c BUU):F1 (setAdd S B3Q):=by
 unfold setAdd;have hi:AY (AZB strKind is x B3Q):=by show AY (DEO B3Q);simp[Value.isStrOf]
 rw[EEG (AZB strKind pyHash hi ?_)];refine wpAny_setAddHashed_of (s:=gW) hi rfl b f λh' d a=>h h' _ d ?_;rw[VG B8W]
 .rw[jE];rw[FHO]
  .rw[DB];simp[c]
  .simp[e]
 .rw[BD c];rw[FHO]
  rw[C32]
  .simp[e]
def b7M{rows:B87}{i:Nat}(h:EPZ):BUQ AM (if DWQ then D else AVE::D):=by
 rw[VG DWQ]
 .rw[jE];rw[EXF h.nd (EBT h.le)]
  rw[F4L b]
  .rw[ADL q]
   .subst q;rw[AB e c]
   .exact ETA
 .rw[BD c];rw[EXF (List.nodup_cons.mpr ⟨c,h.nd⟩) (EVC h.le)]
  .rw[BM AC3]
   .rw[AU i B6F z]
   rw[F4L z]
  .rw[ADL q]
   .subst q;rw[AB e List.mem_cons_self]
   .exact IS ETA
def setS_at{h h':Heap}{a:qE}(x:tS h a D)(k:EK1):tS h' a D:=by
 obtain⟨o,es,ep,t,e1,e2⟩:=x;rw[IO o es ep t (k o e1) e2]
def b6s(W:FKC)(S:qE)(l:DZC)(rows:B87)
  (y:ENG ET6) (N:CW<scanBound) :
  FC0 D AA (n-i=k->B8Q->EEM->E8Y->EPZ ->
   FFO L (tS s'.heap S L) (BUQ n L) ->
   F3U):=by
 have m:DZD:=λh=>l E4H;have d:EN9:=λb p=>IS p;intro k;induction k with
 |zero =>
  rw[FKO];have J:i=n:= bV c2F C
  rw[FGE J f q];exact wpAny_pure (hR s' D (q.mono d) F8Y B)
 |succ k O =>
  rw[FKO];have a:NB:= ~~~c2z C
  rw[BYV (CMH a f (DQ v s' M x q))];rw[LN tk (y i v a M)];have F:tS s'.heap S D:=F8Y;rw[FF9 (Value.str (rows i) tk) (D6D tk) (d1X F (by have:=B.le;exact lq 0x73d9a3a233055e5338 N a this) (BS h' c u H))];rw[UQ ⟨BOC plainId_quiet,O AM _ _ (~~~c7N C) a (FFE x p) H (b7M B) (DQ K z r j g)⟩]
  .rw[AB (BEZ u.2 (A6B l h p)) e]
  .refine hR K z (Moved.trans W.gtrans ((q.mono d).then_heap A71 (BS b o p e)) r) j g;rw[AB (BEZ u.2 (AY2 p h)) e]
#where
section
variable {prog:qG}{w:World}{A:Around}{E:qH}{s:qC}
def c6Q{b:Bool}{h:Heap}{a:qE}(e:ZY (AU1 b)):tS h a [] :=
 ⟨_,#[],0,_,e,C81,rfl,(λe h=>yY),(λk=>AF),(AH),(BIG),rfl⟩
def call_set_strs{l:qE}{items:CO}{rows:B87}{Q:qH}
  (hh:PH) (hl:DV3) (y:D9C ET6) (hn:C6M items.size)
  (h:DBE AA D8S (D4W ->
   CF6)) :
  CME:=by
 rw[CQA]
 rw[VN]
 rw[CQ3];cases r with
 |error e=>exact K
 |ok fl =>
  cases fl with
  |ret z =>
   rw[LN rfl K];generalize a2:(AFU)=a;rw[DCL]
   rw[VN]
   rw[CPM (BPD D8S (D4W /\
     AHU))]
   .rw[DCP];have u:F6C:=D2Y;rw[AC V a2W U V3];rw[DAA DRK]
    rw[CQ1 IsList u]
    wp_walk
    rw[EAO]
    have q:l≠AIG:=by
     rw[AE5 p]
    rw[CJ6 (by
     rw[CN3])]
    have m:EAF
       = C12:=PQ P
    refine b6s EAJ s.heap.objs.size D rows y hn D64 0 _ [] D22 GH
     CKO (c6Q m) ⟨List.nodup_nil,(λx=>⟨(DSK),(λ⟨j,hj,_⟩=>DAJ)⟩),BV⟩ ?hR
    case hR =>
     rw[CQB (by
      rw[AE5 S])]
     rw[CNS]
   .cases r₂ with
    |error e=>exact hr₂
    |ok fl₂ =>
     cases fl₂ with
     |ret r =>
      rw[CQ2]
      rw[VN]
      rw[CPF]
     |_=>rw[B64]
  |_=>exact K.elim
#where
universe TabS
open PySem PySem.Spec PyProof.Rows
noncomputable def b0K(P:qG)(w:World)(a:qE)(n:Nat):HO:=BE1 (∃D:AA,TabS.SetS P w h a D/\D.length=n)
inductive rSetS(K:qF)(P:qG)(w:World)(ys:A0)(H:Hp)(Q:VK):Prop
 |mk (p:qE) (ws:AA) (_:DZ5) (_:SqL K H p AYS) (_:C6M ws.length) (_:∀(a:qE) (D:AA),A2C->D.Nodup->(∀x,B8W↔x∈ws)->D.length<=ws.length->IR a (A2O (BN7 D.length))):F1X rSetS
inductive rLenN(P:qG)(w:World)(ys:A0)(H:Hp)(Q:VK):Prop
 |mk (a:qE) (n:Nat) (_:DZ4) (_:ZA (BN7 n)) (_:DV8) (_:SI n):F0W rLenN
section
variable {X:Cx}
def b4s(K:qF)(P:qG)(w:World)(E:DM)(A:AT:=by rfl)(C:nW:=by rfl)(hw:nX:=by rfl):hX A4N E2U:=by
 subst A C hw;rw[bO ys us R];obtain⟨p,d,rfl,L,J,q⟩:=h;rw[VA O R.one O];have F:X.A.handled=none:=DRM;rw[B6E r B (I.list L)];have c:its.length=d.length:=by rw[ECW]
 refine TabS.call_set_strs (rows:=OS (d.getD i Str.empty)) F B.isList (BS i v hi l) (BU3 c J) (EE h' tk D z m G)
 .rw[MD l AM3 l]
  have g:i<d.length:=by rw[<-c];exact LX l
  rw[nG T k y (show dI (VZ d.map)=BK V.str d[i] by rw[B2Q DHV])];rw[AW l k k];rw[HQ y];rw[AQ t (B9K DHV)]
 .have hfr:A2D:=cQ;have n:=z;obtain⟨o,es,ep,t,g1,S⟩:=n;refine FEA (CXD b0K D.length) G (QX D z) g1 ⟨D,M,N⟩ ⟨D,TabS.setS_at M kk,N⟩ (q _ D hfr m.nd (λx=>?_) (by rw[A20 m.le List.size_toArray c];rw[QB]));rw[m.mem];constructor
  .rintro⟨j,f,rfl⟩;rw[List.size_toArray,c]at f;show EFJ∈d;rw[EGM BTS f]
  .intro hx;rw[vX j f hx];rw[OU j (by rw[List.size_toArray,c];exact LX f)];show x=EFJ;rw[B83 f]
def b7X(P:qG)(w:World)(i:nW:=by rfl)(hw:nX:=by rfl):B9Y DIS:=by
 subst i hw;rw[bO ys us m];obtain⟨a,n,rfl,k,r,q⟩:=h;rw[VA l m.one l];obtain⟨⟨D,j,g⟩,_⟩:=(BNM (EEE b0K n) k);obtain⟨o,es,ep,t,g1,c,d,_,_,p,e,f⟩:=j;rw[lF b es.size n f g]
 refine call_len_set g1 c d e (SD b) (UA C17 WD (EM (WO b)) q)
variable {e:Expr}{es:BT}{t:TA}{p pos:Pos}
def c6u(K:qF)(P:qG)(w:World)(h:DIX)(i:DK8)(d:FC)(f:DM:=by rfl)(b:AT:=by rfl)(c:nW:=by rfl)(hw:nX:=by rfl)(g:DE:=by rfl)(a:HZ:=by rfl) :
  DT8 E2U:=(FGW (b4s K P w f b c hw))
def c6z(P:qG)(w:World)(f:B8M)(g:B92)(c:FC)(b:nW:=by rfl)(hw:nX:=by rfl)(d:DE:=by rfl)(a:HZ:=by rfl) :
  A1L "len" DIS:=(rE (F3 (b7X P w b hw) f g b0c) c.h d)
#where
open PySem PySem.Spec PyProof.Rows PySem.Builtin PySem.Builtin.Str PySem.StrLaws
inductive rJoinT(K:qF)(x:V)(vs:A0)(H:Hp)(Q:VK):Prop
 |mk (sep:Str) (p:qE) (ys:AA) (B:Nat) (_:DT3) (_:oN) (_:AI9 p DJ3) (_:CD8) (_:F86) (_:EEA) (_:ELA):CB3 rJoinT
section
variable {X:Cx}
def c0o(K:qF)(i:AT:=by rfl):DWY DKP:=by
 subst i;rw[jY y w];rw[FKY g j f y r w.one r];rw[B6E m A (B5W hs)];rw[mU l b a3D m];have k:EEW:=by
  rw[AB b (joinFits g j)]
 rw[FEX meets_str_join_tuple k (by rw[A0F e c n d A];rw[EF o n e c d])]
 match l,b with
 |[z],b =>
  rw[FFX]
  rw[F2J]
 |[],b =>
  rw[BIA]
  rw[F9E f]
  rw[F4M]
 |F21,b =>
  rw[BIA]
  rw[EZ1 f]
  rw[ERJ]
variable {o e:Expr}{es:BT}{to:TE}{t:TA}{qN qM:Pos}
def c3b(K:qF)(h:aU)(g:FC)(f:AT:=by rfl)(b:DO9:=by rfl)
  (d:jZ:=by rfl)
  (c:TL:=by rfl) (hs:DE:=by rfl) (a:TH:=by rfl) :
  E79 DKP:=(F5U c0o)
noncomputable def a2C(z:Str)(n:Nat):Str:=⟨CUG n z.cps.toList⟩
inductive rRepX(x:V)(y:V)(H:Hp)(Q:VK):Prop
 |mk (z:Str) (n:Nat) (_:A1B z) (_:C8Q) (_:z.length<=10) (_:TB) (_:A8W EFS):aT rRepX
def b1P(c:vG):A1V n a vG ((xD n c foldl (λb d=>b++d) a).toList=a.toList++rT n c.toList)
 |0,a=>AF
 |CW,a=>by
  rw[EVU (b1P c n) List.replicate_succ List.flatten_cons Array.toList_append]
def c5R(z:Str)(n:Nat):PySem.Txt.mul z n=EFS:=by
 rw[fE PySem.Str.ext' Array.toList_inj.mp];unfold PySem.Txt.mul a2C;rw[CEY]
 .subst a;rfl
 rw[BD (aM 0x1df7de1e8b03418125)];by_cases h1:A0P (EV==1) (z.length==0)
 .rw[EA h1];simp only[Bool.or_eq_true,beq_iff_eq]at h1;rcases h1 with h1|h1
  .have:n=1:= B7P 0x346f1040d8627f7e555
   rw[iF];simp
  .have hz:z.cps.toList=[]:=by
    rw[<-List.length_eq_zero_iff,Array.length_toList];exact h1
   rw[hz];have:∀m:Nat,rT m ([]:HW)=[]:=λm=>by induction m with
    |zero=>rfl
    |succ m b=>rw[CD2 b]
   rw[this]
 .rw[BD h1];rw[L1 b1P]
def c5x:AQ0 rRepX:=by
 rw[OX b c];rw[SO z n rfl rfl a h1 q];rw[BV7];refine ZB PySem.SB.mul ?_ EDU EDU λd k=>UA (.str (a2C z n)) ?_ (EM (WO c5R)) q
 .rw[AO4,AO4];rfl
 .rename_i hn _;have h2:BG 1000<=CYD n:=Int.le_ediv_of_mul_le (BJ 0x1a5a29350491955 hn) AD;omega
 .have hm:z.length*(EV).toNat<=10*1000:=Nat.mul_le_mul a AD;show ZS (_ > sizeLine);exact decide_eq_false (SD sizeLine_eq)
 .exact I.tok _
def c9T{a b:Expr}{ta tb:TE}{pos:Pos}(c:CP)(d:DN):AQ8 rRepX:=(YF c5x)
#where
universe L2
namespace L2
open PySem PySem.Spec PyProof.Rows
section
open PySem.W
noncomputable def c6J:BAP
 |.non=>true
 |_=>false
noncomputable def a8i:DP0
 |.none=>true
 |_=>false
inductive rInN(K:qF)(x:V)(y:V)(H:Hp)(Q:VK):Prop
 |mk (p:qE) (xs:A0) (_:BOG) (_:AGQ p) (_:ARG) (_:(SX xs EC6)) (_:C5H xs.any c6J):BCV rInN
section
variable {X:Cx}
def c9i(K:qF)(d:HM)(k:AT:=by rfl):B9S DKQ:=by
 subst k;rw[OX z B];rw[SO p xs rfl rfl l m q];cases z;cases B;rw[A3A t C l];have c:=r.length;have key:A1V i hi (i<its.length) (BF2 X.A.in1 AOY .none a8i AOY/\∃b:A27,a8i AOY=c6J AXF):=λi hi=>by
  have o:B7C (xs[i]'(BVC)):=AOP c;rw[nG D e1 e2 o];rw[AKU UY];rcases m _ (List.getElem_mem (BVC:A27))with e|⟨a,vs,e,g⟩
  .rw[e]at e2;have f:AOY=.none:=e2;rw[EPO];rw[f];rw[T6 ((DBY X.K .non (y:=.non) rfl rfl).at I (A:=X.A.in1) (u:=.none) (v:=.none) (by rw[F8Q 0xdcfc0ed2fdb2db95c0d9a7312a7]) rfl rfl) (b1V rfl)]
  .rw[e]at e2;have f:VX AOY a:=e2;obtain⟨j,_,pt,_⟩:=EWO g;rw[EPO];rw[AB f (SeqAt.EqAt.tuple_none pt (by rw[F8Q 0x293bb827e6abf67e0a7312a7]))]
 have g:its.any a8i=xs.any c6J:=by
  rw[E8J List.any_eq_true]
  .rw[FC9 (mH key)];exact ES (List.getElem_mem b) (OV e' e)
  .rw[FC9 (key i E67)];rw[AU (its[i]'(E67)) (List.getElem_mem _) (u0 e')]
 refine SeqAt.in_listAt a8i t.isList CGQ (BLX ?_)
 .rw[iK CK0];exact(mH key).1
 .rw[CG (show its.toArray.any a8i=its.any a8i by simp) g q]
variable {a b:Expr}{ta tb:TE}{pos:Pos}
def c9K(K:qF)(g:HM)(d:CP)(e:DN)(f:BBO)(c:AT:=by rfl):YE .In DKQ:=(BGU K7 (c9i K g c))
#where
#where
section
section
variable {prog:qG}{w:World}{A:Around}{I l S:qE}{vs:AN}{kw:uN}{R:vM}{h₀:Heap}{s:qC}
#where
section
variable {prog:qG}{w:World}{A:Around}{E:qH}{s:qC}
#where
section
variable {X:Cx}{e:Expr}{es:BT}{t:TA}{p pos:Pos}
#where
#where
universe L2
namespace K53
open PySem PySem.Spec PyProof.Rows L2
section
variable {C a b c p:qE}{F L W rss:LLI}{H H':Hp}{P:qG}{Q:VK}{base:Heap}{cs:AK}{i j k:Nat}{qL:aO}{mg:BF}{o:HO}{r u v:qI}{vs:A0}{w:World}{σ:L2.St}
noncomputable def top(i:Nat):Stmt:=PySem.Challenge.pw_leastlays_k53_whole_two_desks.main.body.getD i (.Pass CMY)
noncomputable abbrev b2T:Stmt:=BA 1
noncomputable abbrev a5H:Stmt:=BA 2
noncomputable abbrev a3I:Stmt:=BA 11
noncomputable abbrev b2P:Stmt:=BA 12
noncomputable abbrev a1h:Stmt:=BA 13
noncomputable abbrev a3J:Stmt:=BA 14
noncomputable abbrev a8Z:Stmt:=BA 15
noncomputable abbrev a9a:Stmt:=BA 17
noncomputable abbrev b2R:Stmt:=BA 18
noncomputable abbrev a8X:Stmt:=BA 19
noncomputable abbrev a8T:Stmt:=BA 20
noncomputable abbrev b2Q:Stmt:=BA 21
noncomputable abbrev a5K:Stmt:=BA 22
noncomputable abbrev b2O:Stmt:=BA 23
noncomputable abbrev a2y:Stmt:=BA 24
noncomputable abbrev a1i:Stmt:=BA 25
noncomputable abbrev Z6:Stmt:=BA 27
noncomputable abbrev a5I:Stmt:=BA 28
noncomputable abbrev a8U:Stmt:=BA 29
noncomputable abbrev a1g:Stmt:=BA 31
noncomputable abbrev a0y:Stmt:=BA 32
noncomputable abbrev a8Y:Stmt:=BA 34
noncomputable abbrev a2t:Stmt:=BA 36
noncomputable abbrev a8W:Stmt:=BA 37
noncomputable abbrev b2S:Stmt:=BA 38
noncomputable abbrev a2x:Stmt:=BA 40
noncomputable abbrev a3M:Stmt:=BA 41
noncomputable abbrev b2U:Stmt:=BA 43
noncomputable abbrev a2z:Stmt:=BA 44
noncomputable abbrev a3K:Stmt:=BA 49
noncomputable abbrev a0z:Stmt:=BA 50
noncomputable abbrev V6:Stmt:=BA 51
noncomputable abbrev Z5:Stmt:=BA 52
noncomputable abbrev a5J:Stmt:=BA 54
noncomputable abbrev a1f:Stmt:=BA 55
noncomputable abbrev a0w:Stmt:=BA 56
noncomputable abbrev a2w:Stmt:=BA 57
noncomputable abbrev Z1:Stmt:=BA 58
noncomputable abbrev a2u:Stmt:=BA 61
noncomputable abbrev Z4:Stmt:=BA 62
noncomputable abbrev Z2:Stmt:=BA 64
noncomputable abbrev a1e:Stmt:=BA 65
noncomputable abbrev a0v:Stmt:=BA 66
noncomputable abbrev a2v:Stmt:=BA 67
noncomputable abbrev V5:Stmt:=BA 68
noncomputable abbrev Z3:Stmt:=BA 69
noncomputable abbrev a8V:Stmt:=BA 71
noncomputable abbrev a0t:Stmt:=BA 72
noncomputable abbrev a5N:Stmt:=BA 73
noncomputable abbrev a5O:Stmt:=BA 74
noncomputable abbrev a0x:Stmt:=BA 76
noncomputable abbrev b8R:Stmt:=BA 77
noncomputable abbrev a3L:Stmt:=BA 82
noncomputable abbrev a5M:Stmt:=BA 83
noncomputable abbrev V4:Stmt:=BA 84
noncomputable abbrev a0u:Stmt:=BA 85
noncomputable abbrev a2A:Stmt:=BA 88
noncomputable abbrev a1k:Stmt:=BA 89
noncomputable abbrev a3N:Stmt:=BA 90
noncomputable abbrev a0B:Stmt:=BA 91
noncomputable abbrev a0A:Stmt:=BA 92
noncomputable abbrev a1l:Stmt:=BA 93
noncomputable abbrev a1j:Stmt:=BA 94
noncomputable abbrev a5L:Stmt:=BA 95
noncomputable abbrev N9:Stmt:=A35 0
noncomputable abbrev a7o:Stmt:=A35 1
noncomputable abbrev K1:Stmt:=A35 2
noncomputable abbrev a5P:Stmt:=A35 3
noncomputable abbrev Z7:Stmt:=A35 4
noncomputable abbrev V7:Stmt:=A35 5
noncomputable abbrev V8:Stmt:=A35 6
noncomputable abbrev Q8:Stmt:=APS 0
noncomputable abbrev a0C:Stmt:=APS 1
noncomputable abbrev M9:Stmt:=APS 2
noncomputable abbrev Q5:Stmt:=APS 3
noncomputable abbrev Z8:Stmt:=APS 4
noncomputable abbrev T0:Stmt:=A36 0
noncomputable abbrev a2B:Stmt:=A36 1
noncomputable abbrev Z9:Stmt:=A36 2
noncomputable abbrev S8:Stmt:=A36 3
noncomputable abbrev L7:Stmt:=A36 4
noncomputable abbrev V9:Stmt:=A36 5
noncomputable abbrev W3:Stmt:=A36 6
structure Tx(mg:BF):Prop where
 b_ValueError:NS "ValueError"
 b_abs:NS "abs"
 b_all:NS "all"
 b_any:NS "any"
 b_enumerate:NS "enumerate"
 b_int:NS "int"
 b_isinstance:NS "isinstance"
 b_len:NS "len"
 b_list:NS "list"
 b_max:NS "max"
 b_min:NS "min"
 b_range:NS "range"
 b_set:NS "set"
 b_sorted:NS "sorted"
 b_str:NS "str"
 b_sum:NS "sum"
 b_tuple:NS "tuple"
 b_zip:NS "zip"
noncomputable def pk(b:qE)(l t k:Int):MQ:=[(DC "own",GV),C9K "left" l,C9K "seed" t,C9K "many" k]
section
variable (b:qE)(l t k z:Int)
def c8J:G7 lC BQE=C1Y:=CV
def c5g:G7 lC AJA=B2P:=CV
def c5d:G7 lC AJB=DS t:=CV
def c5e:G7 lC AJC=C2N:=CV
def b9s:COI AJA F7T:=CV
def b9q:COI AJB EY2:=CV
def b9r:COI AJC (AUE z):=CV
def c5f:a3T [] (FCI l k)=lC:=CV
#where
structure PotAt(H:Hp)(a b:qE):Prop where
 ne:AQR
 ex:∃(cs:qI) (l t k:Int),BLZ/\C7Q
def PotAt.same(h:NW)(s:BL):QN:=by
 rw[SO ne c l t k h1 h2];exact⟨ne,c,l,t,k,C2U,DHN⟩
def J9(h:NW){xs:A0}(d:D66):C65:=by
 rw[CPS e h (XE d h1) (XE d h2)]
def E5(h:NW)(d:EN c):C65:=by
 rw[CPS e h (tG h1 d) (tG h2 d)]
def U5(h:NW)(d:C65):BIR B0B:=by
 rw[B5N d];rw[SO ne e l t k e1 e2];exact⟨ne,e,l,t,k,AE (A6 (Ne.symm XT)) e1,AE (A6 (Ne.symm iV)) e2⟩
def IT.pot{v:V}{ns:qI}(h:BCD)(d:NW)(o:NF):DPK:=by
 rw[IJ c e q h c e (o c _ (J9 d q) q)]
def Its.pot{H H':Hp}{vs:A0}{rss:LLI}{a b:qE}(h:TD)(c:NW)(o:NF):AST:=(CJ2 (IT.pot e2 c o))
def a3Q{l:EW}(s:AOW)(hp:TZ):FB1:=RX u a (by
 rw[AB (A8Z hp) BGL])
def a3d(o:NF)(c:QN)(hp:tD):TZ:=by
 rcases e:H p with _|u
 .rfl
 .rw[ABS (AJ o (E5 c hp) e) hp]
section
variable {K:qF}
inductive IspPot(K:qF)(vs:A0)(H:Hp)(Q:VK)(E:XK):Prop
 |mk (a:qE) (ns:qI) (_:AC8) (_:BFL) (_:GY ns.length) (_:∀p b H',TZ->MB->PotAt H' p b->BL->zZ):EMD
noncomputable def c7r(K:qF):Sp:=AEZ EMD
def sc__law_pot:DNG ["_law_script","_law_seed","_law_own","_law_cell"] a2A:={}
def c9p(F:XI "_law_pot" a2A "_law_script")(T:AV):F1N:=by
 rw[BO sc__law_pot m j r]
 rw[TJ a ns]
 .obtain⟨a,ns,rfl,hS,hl,k⟩:=h;rw[VJ n]
  rw[BU (DUY A7
 (ADE 2 sc__law_pot.nd
 (A3 (BB4 3 sc__law_pot.nd
 (DUY (C67 (O9 (O9 (yM a3p A7) DY9) A7))
 (A5 (C3 (GC d1t 3 EHY)
 (oU 2 tO)
 B6))))
 (SE c9W (FDM aE (FDM U3 c9O))))))]
  rw[aR b d];rw[PX q H OO d];rw[CF (AF9 a (EM (q.seq hS)))];rw[LV (O5 (K:=K) (a:=a) (xs:=zJ) (λi σ H2=>Ex3 λ(BG t) (c:qI) (v:aJ)=>An3 (σ=[RQ,DS t,C1Y,v]) (c.length<=i) (H2=eZ b BQ5)) (BCO 17 [] none BV)
   (λi σ H2 _ ⟨_,_,_,_,_,e⟩=>A16 e ((A7E d).seq hS))) ?_]
  .rintro i x σ H2 hx ⟨t,c,v,rfl,hcs,rfl⟩;have hi:i<ns.length:=by rw[A7W DL3]
   rw[cX z (K9 hx)];rw[CF ⟨_,rfl,_,_,rfl,rfl,CK6,_,rfl,_,_,rfl,rfl,(A89 2147483587),_,_,rfl,rfl,_,_,rfl,rfl,_,_,rfl,rfl,CCO,?_⟩];rw[CF ⟨_,rfl,_,_,rfl,rfl,ERS,_,_,rfl,rfl,_,rfl,lN⟩]
   .refine BI9 (ED (eX _ YQ)) b A2 (IL (lq 0xd566f1c41ba601cf01163667ddc80e8 hl n hcs hi));rw[IO _ (c++[z]) _ rfl (by rw[A8E];simpa using hcs) (BQG a2U)]
   .exact BCO _ c _ (ABV hcs)
  .rintro σ H2 ⟨t,c,v,rfl,hcs,rfl⟩;refine λp g=>AZK A2 (FCI 0 0) (bP (4<=15)) ?_;rw[c5f,a2U];have l:rQ:=EZE BQ5;rw[XR BQ5 d];exact k p b _ (s1.free g) d ⟨l.symm,c,0,t,0,A2,B8Z l⟩ (s1.upd g)
inductive IspNext(vs:A0)(H:Hp)(Q:VK)(E:XK):Prop
 |mk (a b:qE) (m:Int) (_:A00 AA2) (_:NW) (_:0<m) (_:m<C6N) (_:∀r H',0<=r->r<m->QN->NF->A4S .int r):HF IspNext
noncomputable def a3F:Sp:=IB IspNext
def sc__law_next:DA ["_law_pot_here","_law_many","_law_drawn","_law_mixed"] ["_law_pot_here","_law_many"] a1k:={}
def c5I(F:C79 "_law_next" a1k "_law_many")(T:AV):AEL:=by
 rw[BO sc__law_next O I R]
 rw[AEF a b m]
 .obtain⟨a,b,m,rfl,⟨ne,r,l,t,k,u,y⟩,hm0,hm1,kk⟩:=h;have n:=R.u60;rw[VJ G]
  rw[BU (A3 (AEB (K3 kD A7) (c2X K n kD (E4 jaN))
 (A5 (BH3 (b1J K kD UC)))
 B6)
 (A3 (B0W Y5 kD
 (CA 2 sc__law_next.nd (DXK kD)
 (A3 (BH3 (c6C kD (jv 1)))
 ARU))
 B6)
 (A3 (BH3 (API kD))
 (CA 3 sc__law_next.nd (a3q (a3p (O9 kD (a3p kD A7)) A7) A7)
 (A3 (BH3 (C67 (GC a3p 3 (API DY9))))
 (FH (DXK (c3h kD A7))))))))]
  have B:BIC "left" B2P:=BI8 c5g AJA
  have L:BIC "own" C1Y:=BI8 c8J BQE
  have gS:BIC "seed" (DS t):=BI8 c5d AJB
  have J:BIC "many" C2N:=BI8 c5e AJC
  have N:CQ5 "left" F7T:=CPZ b9s AJA
  have U:CQ5 "seed" EY2:=CPZ b9q AJB
  have S:CQ5 "many" (AUE z):=CPZ b9r AJC
  rw[uZ (σ=[RQ,B02,none,none]/\NF/\∃(r:qI) (l:Int),A4O a .dK lC/\YG H' DI1) ?fin]
  case fin =>
   clear u y;rintro σ H1 ⟨rfl,d,r,l,u,y⟩;rw[FLF a (B u)]
   .refine⟨_,rfl,a,_,rfl,B u,_,rfl,_,_,rfl,rfl,hm0,?_⟩;rw[CF ⟨_,rfl,a,_,rfl,B u,_,rfl,_,_,rfl,rfl,⟨hm0,hm1⟩,_,rfl,a,_,rfl,N u,?_⟩];rw[VE (kk _ _ ESB E4G (FHM y) DME)]
   .refine⟨_,rfl,a,_,rfl,J u,_,_,rfl,rfl,_,rfl,a,_,rfl,S u,?_⟩;rw[FZ j (IH H1 a EAT b DI1) (A6 ne.symm) y]
    have g:upd H1 a EAT a=BK .dK BQJ:=A2;have v:C3O F32:=DME;rw[ANA F32 g j v];refine⟨_,rfl,a,_,rfl,gS g,_,rfl,a,_,rfl,J g,_,_,rfl,rfl,CK6,_,_,rfl,rfl,_,_,rfl,rfl,CK6,_,_,rfl,rfl,CCO,?_⟩;generalize M:(t+A6L*104729)*48271 % 2305843009213693951=x;rw[dG x0 RJ M (D2A AH)]
    rw[dG X (x<2305843009213693951) M (D2B AH)]
    rw[CF ⟨_,rfl,_,rfl,_,_,rfl,rfl,(A89 1009),_,_,rfl,rfl,_,_,rfl,rfl,BF6,_,_,rfl,rfl,CCO,_,rfl,a,_,rfl,U g,?_⟩];refine⟨_,rfl,a,_,rfl,gS A2,_,_,rfl,rfl,⟨AH,AH⟩,_,rfl,_,_,rfl,rfl,hm0,?_⟩;exact kk _ _ ESB E4G (FHM j) (UT v.set)
  refine AT4 a (B u) _ rfl (BJ8 (λe=>C5A (oA A0L r l u y)));refine HU (BC d0O b b cs r (λW q=>ZV a _ (L u) q) y) p D;rw[AC g (EQ9 u) j (EQ9 y)];have d:C3O BCE:=(A0L).upd D;rw[AN9 BCE g j d];cases r with
  |nil=>exact C1 (LY (oA d [] l g j))
  |cons c r =>
   rw[tZ ⟨_,rfl,a,_,rfl,L g,OW j,b,_,0,0,_,rfl,rfl,j,AH,AH,seqIndex_of AH AF,rfl,?_⟩];have C:upd H1 b (kF (FE (c::r) V.int).eraseIdx 0) a=BK .dK lC:=by rw[AB (A6 ne) g]
   refine ZV a _ (N C) (LY (oA (BA3 d.set AF) r c A2 ?_));rw[A6 ne.symm,A2];rfl
inductive IspOf(vs:A0)(H:Hp)(Q:VK)(E:XK):Prop
 |mk (a b l:qE) (xs:A0) (_:A00 IX) (_:NW) (_:YB) (_:C66) (_:DGV) (_:MO) (_:∀r H',r∈xs->QN->NF->VY r):HF IspOf
noncomputable def c4u:Sp:=IB IspOf
def b2N:wB "_law_pot_here" "_law_some" "_law_pot_here" "_law_some" a3N:={}
def d1l(F:C79 "_law_of" a3N "_law_some")(T:AV)(c:AEL):BHW:=by
 rw[BO b2N m g o]
 rw[gZ a b l xs]
 .obtain⟨a,b,l,xs,rfl,hP,hl,hn,h0,h1,k⟩:=h;rw[GL (pP F4 1 (BK8 o.mono C1J))];have n:EU xs.length<rN 100:=iI (show GY ALE by exact c0V h1);refine⟨_,rfl,_,rfl,_,rfl,l,_,rfl,APR,a,b,_,rfl,hP,~~~c0X h0,n,EE r H1 q p e d⟩;rw[AB4 j j (r=j) r.toNat];have i:eB:= ~~~c1z p
  refine⟨l,_,_,_,rfl,rfl,B7F d hn hl,K0 (j:=j) (List.getElem?_eq_getElem i),k _ H1 (List.getElem_mem i) e d⟩
#where
def a1K{ns:qI}(h:k<ns.length):CA1 ns.map LW=DS (BT1 k):=by
 rw[FDZ]
def sqt{K:qF}{xs:A0}(h:A2Z):BKT true:=GE h
noncomputable def Bel(xs ys:qI):Bool:=AGG (zQ (EG (a<=b))) all id
def d0I(xs ys:qI):AGG (zQ (A01 (a<=b))) all trV=DLN:=by
 unfold Bel;induction xs generalizing ys with
 |nil=>rfl
 |cons x xs c =>
  cases ys with
  |nil=>rfl
  |cons y ys=>simp only[List.zipWith_cons_cons,List.all_cons,c ys];rfl
def a5d{γ:Type}(f:A3H)(g:C9V):F6Z
 |[],_=>rfl
 |EY,[]=>rfl
 |EX,HX=>COC a5d
section
variable {K:qF}
#where
def c3v(n:Nat):rT n AN3=AH3 n map V.int:=by
 induction n with
 |zero=>rfl
 |succ n a=>rw[F5T]
noncomputable def dot(xs ys:qI):Int:=AGG (zQ (a*b)) sum
noncomputable def Ans(rss:LLI)(ys:qI):Bool:=WF rss.all r E9U
noncomputable def Sm(ys:qI):Prop:=v4 ys (-ALK<z/\APC z)
section
variable {K:qF}
inductive IspRowSum(vs:A0)(H:Hp)(Q:VK)(E:XK):Prop
 |mk (x:_) (y:_) (xs:_) (ys:_) (_:BDD) (_:AQJ) (_:jV) (_:MO) (_:AQX) (_:APK DLO):HF IspRowSum
noncomputable def a0f:Sp:=IB IspRowSum
def b2J:BCQ "row" "row" a3I:={}
def b3b(F:A2I "row_sum" a3I "row")(T:AV):BH9:=by
 rw[BO b2J d c l]
 rw[ATL]
 .obtain⟨_,_,xs,ys,rfl,⟨a,rfl,ha⟩,⟨b,rfl,hb⟩,hl,hs,k⟩:=h;rw[GL (W2 b4a T.b_sum (RU (BFZ
 AT0) (ACQ a3p)))]
  refine B1S;rw[ER (b6i (caps:=[]) (BUX (x*y)) hl BS6 rfl (λx y H1 j _ g _ q=>FCN (.inr (hs y g)))) H1 p s e];rw[BWF a5d (x*y)];exact FEL DF0
inductive IspSums(vs:A0)(H:Hp)(Q:VK)(E:XK):Prop
 |mk (a:qE) (y:V) (us:A0) (rss:LLI) (ys:qI) (_:C96) (_:jL) (_:MR) (_:jV) (_:aN) (_:BAO) (_:AQX) (_:A3J BA8):HF IspSums
noncomputable def b2G:Sp:=IB IspSums
def c4G:E5D b2P:={}
def c5E(F:B8A "sums" b2P)(T:AV)(b:BH9):CMU:=by
 rw[BO c4G g e d]
 rw[AEC a y ys]
 .rw[FLX c];rw[GL (ZZ (bT "row" "one" xV A8T
 (WG (A4R "row"))) (tU d.mono WV))]
  refine uS a ha;rw[ER (UZ a8C [BT2] (λr=>CKD) c DO5 hI rfl (λv r H1 n d m s1 q=>BDQ v y r ys m (hy.same s1) (hl2 r d) hs q)) H1 p s j];rw[B5J (CFA (AFS CKD) BA8) c j c]
inductive IspIsAns(vs:A0)(H:Hp)(Q:VK)(E:XK):Prop
 |mk (a:qE) (y:V) (us:A0) (rss:LLI) (ys:qI) (_:C96) (_:jL) (_:MR) (_:jV) (_:aN) (_:BAO) (_:AQX) (_:A1K DMQ):HF IspIsAns
noncomputable def a1T:Sp:=IB IspIsAns
def a8R:E5D a1h:={}
def a9j(F:B8A "is_answer" a1h)(T:AV)(b:CMU):AED:=by
 rw[BO a8R j d m]
 rw[AEC a y ys]
 .rw[FLX hl];rw[GL (AMT (A08 "total" (F5 K (tU m.mono WV))
 (mL "total")) (AJD a1A))]
  refine FG7 hl hl2 c;rw[HG q g c];refine BBV q g;rw[ER (b0s (caps:=[]) (λx=>EKL) (ENY hl) (ZU g) rfl (λx H2 n _ _ q=>AON _ q)) H2 p s2 l];rw[BHX ?_]
  .rw[B1H c];rw[DOD x];rfl
  .have e:(FE BA8 λx=>EKL).all trV=DMQ:=by
    rw[List.all_map,List.all_map];unfold Ans;rw[B9B r];show aB (EG (yD CKD 0)) E9U;simp
   rw[AB e (LZ (s1.trans (s2.upd l)))]
#where
def b0f{α β γ:Type}(f:BEU Int)(g:C9V):∀(xs:CJ) (ys:ABK),DCC
 |[],_=>rfl
 |EY,[]=>rfl
 |EX,HX=>COC b0f
noncomputable def X7(rss:LLI)(ts:qI)(j:Nat):Int:=BGC QU ts
noncomputable def a3B(rss:LLI)(ys:qI)(j:Nat):Int:=A04 BA8
noncomputable def Rs(n:Nat)(rss:LLI):Prop:=yJ (ALJ n (Sm r))
def Sm.at(h:Sm r)(a:j<r.length) : -ALK<QU/\APC QU:=by
 rw[EVH]
section
variable {K:qF}
inductive IspPullOf(vs:A0)(H:Hp)(Q:VK)(E:XK):Prop
 |mk (a:qE) (y:V) (us:A0) (rss:LLI) (ts:qI) (j n:Nat) (_:vs=[CM,y,gK]) (_:jL) (_:MR) (_:W1 y ts) (_:GY ts.length) (_:iA) (_:TB) (_:Rs n rss) (_:APK DRD):HF IspPullOf
noncomputable def b0A:Sp:=IB IspPullOf
def b2K:DA B52 B52 a3J:={}
def b3c(F:HA "pull_of" a3J B52)(T:AV):F34:=by
 rw[BO b2K e c d]
 rw[AEG a y us rss ts j n]
 .obtain⟨a,_,us,rss,ts,j,n,rfl,ha,hI,⟨b,rfl,hb⟩,hl,hj,hn,hR,k⟩:=h;rw[GL (W2 b4a T.b_sum (RU (A4K C4 (N:=["total","row","j"]) (src:=[none,none,AWS]) (AGE AKA)
 (mR D8E D8E)) (GC a3p 0 E76)))]
  refine AXQ b a hb ha;rw[ER (UZ b8l [B03] (λt r=>DO (t*QU)) hl (AID CTB CTA) hI rfl (λx v r H1 m _ d l _ q=>?_)) H1 p s g]
  .rw[HG va hva l];obtain⟨e1,e2⟩:=AC4 d;exact⟨_,rfl,_,rfl,_,rfl,va,_,_,_,rfl,rfl,GE hva,DUA e1,_,_,rfl,rfl,pI e2.at (D77 e1),q⟩
  .rw[b0f (BOU (List.getD r j 0)) V.int];exact FEL DHW
inductive IspFalls(vs:A0)(H:Hp)(Q:VK)(E:XK):Prop
 |mk (a:qE) (y:V) (us:A0) (rss:LLI) (ys:qI) (_:C96) (_:jL) (_:MR) (_:jV) (_:aN) (_:C2H) (_:CAI) (_:AQX) (_:A3J (BXK (FE (AUX List.range ys.length j BOM)))):HF IspFalls
noncomputable def a8L:Sp:=IB IspFalls
def sc_falls:DA (AF8 "one" "totals") A6Q a8Z:={}
def c0e(F:B8A "falls" a8Z)(T:AV)(b:F34)(c:CMU):CJ3:=by
 rw[BO sc_falls n m e]
 rw[AEC a y ts]
 .obtain⟨a,y,us,rss,ys,rfl,ha,hI,hy,d,hn,hR,hs,k⟩:=h;rw[BU (ASO 2 sc_falls.nd (F0 c e.mono WV)
 (FH (ASQ (A4K C4 (N:=["j","rows","totals"]) (src:=[none,bK,AWS]) (AT2 dC)
 (WG ["j","rows","totals"]) (B7Q a8e (tU e.mono (DV 1 (DV 2 WH))) A7) (TN DY)))))]
  rw[XU (FG7 d (λr e=>AE (AQ9 e) hn) t)];rw[mU x g hy.same s1];rw[CP8 x g AD];rw[FB2 RQ UO C6T hn B o]
  .refine⟨_,rfl,_,rfl,_,rfl,a,v,us,rss,_,i,ys.length,rfl,ELP,DZG hI.same,t.same s2,ENY d,hi,hn,hR,BH z u⟩;exact BNR (q _ u)
  .refine mE p l d;exact AJ k (s1.trans ((s2.upd o).upd d)) (AXC l)
#where
def S6(x y:Int)(xs ys:qI):dot EX HX=x*y+DLO:=by unfold dot;rw[List.zipWith_cons_cons,List.sum_cons]
def a8o:∀(xs ys:qI),C6U->dot xs ys=(CFF lS).sum
 |[],[],_=>rfl
 |EX,HX,h=>by
  rw[S6,a8o xs ys oK,List.length_cons,List.range_succ_eq_map,List.map_cons,List.sum_cons,List.map_map];rfl
def b4Z(l:HW)(f g:IQ):(l.map λj=>f j+g j).sum=CB8 f+CB8 g:=by
 induction l with
 |nil=>rfl
 |cons x l a=>simp only[List.map_cons,List.sum_cons,a];rw[PD 0x1c8c351a6415ce1357caa]
def a8F(l:HW)(c:Int)(f:IQ):(l.map λj=>c*f j).sum=c*CB8 f:=by
 induction l with
 |nil=>simp
 |cons x l a=>simp only[List.map_cons,List.sum_cons,a,Int.mul_add]
noncomputable def bump(now:qI)(j:Nat):qI:=now.set j DDY
noncomputable def Pl(rss:LLI)(now xs:qI):HW:=B36 xs.length λj=>CHT && (C6H || EG C8N)
noncomputable def Under(now xs:qI):Prop:=now.length=xs.length/\∀j,eB->gC<=lS
noncomputable def Goes(rss:LLI)(xs:qI):qI->EL HW qI
 |now,[],e=>now=e
 |now,j::js,e=>(EGR tH)/\zN APU js e
def Goes.snoc{rss:LLI}{xs:qI}:∀{a:HW}{now e:qI}{j:Nat},E7Y->(EGR (BJI e))->zN now (a++[j]) (AFR e)
 |[],_,_,_,rfl,h=>(UP h)
 |EY,_,_,_,(B6A h2),h=>(B6A (Goes.snoc h2 h))
def b5m(rss:LLI)(xs:qI):BJI xs=[]:=by
 rw[FY Pl List.filter_eq_nil_iff];intro j _;simp
def Goes.one{rss:LLI}{xs:qI}:∀{a b:HW}{now:qI},zN now a xs->ENF->iR
 |[],[],_,_,_=>rfl
 |[],j::a,now,h,h'=>by
  rw[FGJ h' h]
 |j::a,[],now,h,h'=>by
  rw[FGJ h h']
 |j::a,i::is,now,⟨⟨rest,e⟩,h⟩,⟨⟨rest',e'⟩,h'⟩=>by
  rw[e]at e';rw[AHD e' _]
  subst e1;rw[Goes.one h h']
def K6(now:qI)(j:Nat):KQ bump now j=now.length:=List.length_set
def a6a{now xs:qI}(h:BBS):eB/\CG3:=by
 rw[EYT Pl List.mem_range Bool.and_eq_true];rw[AQ CB XM]
def a3y(now:qI)(j k:Nat)(a:C2J):E1L now k 0=if k=j then DDY else now.getD k 0:=by
 unfold bump;rw[List.getD_eq_getElem?_getD,List.getElem?_set];rw[FO j k]
 .rw[DB];rw[EK,XX,EK];rfl
 .rw[GA,CER,List.getD_eq_getElem?_getD]
def Under.bump{now xs:qI}(h:AQD)(a:BBS):Under APU xs:=by
 rw[IM (a6a a)];rw[EQ (B71 CB) k b];rw[AB8 (JC a3y (AZW CB)) k]
 .rw[F2 IP e c1E h2]
 .rw[AB GA (DK k b)]
def b4Y:AHY xs qI k z Int (ACW->(xs.set k z).sum=B1W C9L+z)
 |[],_,_,h=>eI
 |EX,0,z,_=>by rw[List.set_cons_zero,List.sum_cons,List.sum_cons,List.getD_cons_zero];rw[PD 0x30c3a41451915c8e]
 |EX,BX,z,h=>by rw[List.set_cons_succ,List.sum_cons,List.sum_cons,List.getD_cons_succ,b4Y xs k z oK];rw[PD 0x1c978819e44407a5df2aa]
def a3x(now:qI)(j:Nat)(h:C2J):(bump now j).sum=now.sum+1:=by
 unfold bump;rw[AZ (JC b4Y h) lq 4640591445492082]
def Under.tail{x y:Int}{xs ys:qI}(h:Under EX HX):B9J/\C5V :=
 ⟨BQ (DK 0 AF),BQ CB,λj a=>BQ (DK JL dY)⟩
def Under.sum:ERW (C5V->xs.sum<=ys.sum/\(ECH->xs.sum<ys.sum))
 |[],[],_=>⟨Int.le_refl _,λh=>A43⟩
 |[],EY,h=>BEM
 |EY,[],h=>BEM
 |EX,HX,h=>by
  rw[C59];rw[fN a b Under.sum h2];rw[List.sum_cons,List.sum_cons];rw[EC (AGO 0x81a56ed276f2e4c6aa a) (LR ne)];rw[FO xs ys]
  .rw[EXC];rw[QE 0x3f1f6b0a8e64cd698684c5ee8e h1]
  .rw[MM (b e) 0x8b8402bf5f272286aa h1]
def Under.ne:ERW (C5V->ECH->∃j,ACA/\lS<ZG)
 |[],[],_,h=>A43
 |[],EY,h,_=>BEM
 |EY,[],h,_=>BEM
 |EX,HX,h,ne=>by
  rw[C59];rw[FO xs ys]
  .rw[EXC];rw[AU 0 AF (by simp;rw[QE 0x6baf4101f491accf5ee72 h1])]
  .rw[IJ j q1 q2 (Under.ne h2 e) JL (BQ q1) (BQ q2)]
def b2C(l:qI)(h:BA9):DG2:=by
 induction l with
 |nil=>rw[C7E]
 |cons x l b =>
  rw[AN5];have:=AS1;rw[KR (CIE b)]
def c4s(l:qI)(h:BA9)(y:Int)(b:y∈l)(hp:0<y):DGZ:=by
 induction l with
 |nil=>cases b
 |cons x l e =>
  rw[AN5];rw[AC d AS1 c (BFJ (b2C l))];rw[OZ AC3]
  .exact lq 0x1e53141944ee1751698d4af37ce6e hp c q
  .have:=e (λz a=>CUR) q;rw[ZI c0S d]
def a4B(t:Int):0<=t*t:=by
 rcases Int.le_total 0 t with h|h
 .exact Int.mul_nonneg h h
 .have:=Int.mul_nonneg (a := -t) (b := -t) DTR DTR;rw[vA Int.neg_mul_neg]
def a5y(ys:qI):∀(rss:LLI) (ts:qI),A65 (r.length=ys.length)->BPG ts.length ->
  (CZ2 (A04 ts*ZG)).sum=BGC CUI ts
 |[],[],_,_=>by
  have e:(CFF (X7 [] [] j))=CFF 0:=rfl;rw[e,a8F,Int.zero_mul];rfl
 |[],EY,_,h=>eI
 |EY,[],_,h=>eI
 |jN,DP1,h,a=>by
  have c:=a5y ys rss ts (B50 h) dY;rw[List.zipWith_cons_cons,List.sum_cons,<-c];have e:(λj=>X7 jN DP1 j*ZG)=λj=>t*(QU*ZG)+DRD*ZG:=by
   funext j;unfold X7;rw[List.zipWith_cons_cons,List.sum_cons,Int.add_mul,Int.mul_assoc]
  rw[e,b4Z,a8F,<-a8o r ys (BNQ r)]
def b5a:∀(rss:LLI) (now xs:qI),wF->BGC (AF4 xs) nK=0
 |[],_,_,_=>rfl
 |jN,now,xs,h=>by
  rw[lP Ans];rw[FCG CB (CI2 b5a DK) 0x1ba02323979ac16]
def c8r(rss:LLI)(now:qI)(h:DYO):0<BGC A5C nK:=by
 have e:List.zipWith (BOU A5C) nK rss=AFS CG1:=by
  clear h;induction rss with
  |nil=>rfl
  |cons r rss d=>rw[List.map_cons,List.zipWith_cons_cons,List.map_cons,d]
 rw[e];have:∃r∈rss,A5C≠0:=by
  rw[A2L q];have:DP5:=by
   rw[EGQ];intro r b;rw[AB decide_eq_true_eq (CAW q ⟨r,b,z⟩)]
  rw[AW this h h]
 obtain⟨r,b,a⟩:=this;refine c4s _ (AH1 c) CG1 (wT r b) ?_
 .rw[DOD q];exact a4B _
 .have h1:=a4B (dot r now);have h2:CG1≠0:=λz=>by
   rcases Int.mul_eq_zero.mp z with q|q<;>exact a q
  exact a9A h1 h2
def c7v(rss:LLI)(now xs:qI)(hR:D47 xs.length)(c:AQD)(h:now≠xs)(n:wF):HH tH:=by
 intro a;rw[A7S Pl];rw[List.filter_eq_nil_iff]at a;cases d:C6H with
 |true =>
  rw[DI j h1 h2 c.ne h];refine a j DMU ?_;rw[d,Bool.and_eq_true,decide_eq_true_eq];rw[AQ h2 rfl]
 |false =>
  rw[AC p1 (a5y now rss nK (λr o=>GT (AC4 o) FN) AF) p2 (a5y xs rss nK hR AF)];rw[AC u (c8r rss now d) v (CI2 b5a n)];rw[FN]at p1;have m:(kS xs.length λj=>F5F).sum<=0:=by
   have hs:∀(l:qI),RZ l (x<=0)->l.sum<=0:=λl k=>by
    induction l with
    |nil=>rw[C7E]
    |cons x l t =>
     rw[AN5];have:=k x (List.mem_cons_self ..);rw[KR (t λy s=>k y (IS s))]
   refine HU (hs _) x p;rw[FT j i p];rw[AC f (List.mem_range.mp i) g (SF j f)];have e:F5F = -(A04 nK*(lS-gC)):=by
    rw[KO Int.mul_sub]
   rw[e];by_cases b:CG3
   .have hp:0<=A04 nK:=by
     rw[GJ q (a j i) d q];rw[SH w C8N (q (by simp only[Bool.false_or,Bool.and_eq_true,decide_eq_true_eq];rw[AQ b z]))];show 0<=A6E now;rw[DG 0xe64e1ab0fd816 w]
    rw[E5F hp (ABI (0<=EBD) 0xddb51fef6d772 b) 0xdae8650811236]
   .have:EBD=0:= A2B 0x366b995ee8119bd2526442e72 b
    rw[F2 this Int.mul_zero Int.le_refl _]
  rw[b4Z,a8F,p1,p2,v]at m;rw[FX 0x39bc2734e37eb969d5ae36 u m]
section
variable {K:qF}
inductive IspBelow(vs:A0)(H:Hp)(Q:VK)(E:XK):Prop
 |mk (x:_) (y:_) (xs:_) (ys:_) (_:BDD) (_:AQJ) (_:jV) (_:MO) (_:A1K DLN):HF IspBelow
noncomputable def a8N:Sp:=IB IspBelow
def b8Q:CH7 a9a:={}
def c0h(F:HA "below" a9a AIE)(T:AV):CJC:=by
 rw[BO b8Q d c l]
 rw[ATL]
 .rw[CQ7 hl];rw[GL (AMT (BFZ
 AT0) (ACQ b5D))]
  rw[DBL (λx y=>A01 B9J) hl e];rw[BHX ?_]
  rw[DW4 g g]
  .rw[AB d0I (LZ DF0)]
inductive IspUnit(vs:A0)(H:Hp)(Q:VK)(E:XK):Prop
 |mk (wd:Int) (n j:Nat) (_:QA (BP wd) gK) (_:wd=n) (_:TB) (_:iA) (_:A3J (BR5 BVW)):HF IspUnit
noncomputable def b2E:Sp:=IB IspUnit
def c4F:wB "width" "j" "width" "j" b2O:={}
def b5r(F:ZM "unit" b2O "width" "j")(T:AV):CO3:=by
 rw[BO c4F b a m]
 .obtain⟨_,n,j,rfl,_⟩:=h;rfl
 .obtain⟨_,n,j,rfl,rfl,hn,hj,k⟩:=h;rw[GL (ZZ (bT "k" "j" xV (AAH K8 T.b_range)
 (WG ["k","j"])) (a6F (ACQ K3) A7 A7))]
  rw[DMM (F2G n)];rw[ER (a5U (caps:=[B03]) (OS DFI) hn rfl (BY0 H1 g _)) H1 p s d]
  .refine LC _ rfl _ rfl _ rfl lN
   .have e1:UJ=aC:=by rw[zO]
    have e':i=j:= ~~~b3G e1
    rw[C35]at q;exact q
   .rw[MD e1 (¬UJ=aC) e]
    have e':i≠j:= BJ 0x3d88b437a1ce563f3996 e1
    rw[C2G]at q;exact q
  .rw[B5J (CFA (BR5 DFI) CNF) c d c]
noncomputable def cV:DNE
 |none=>.non
 |AO c=>BP c
noncomputable def b7L(c:EJ)(x:Int):Bool:=F4X (EG (x<=c))
noncomputable def Wi(cs:AK)(xs:qI):Bool:=F03 b7L id
def d0K(cs:AK)(xs:qI):F03 F8R trV=EI7:=by
 unfold Wi;induction cs generalizing xs with
 |nil=>rfl
 |cons c cs a =>
  cases xs with
  |nil=>rfl
  |cons x xs=>rw[List.zipWith_cons_cons,List.zipWith_cons_cons,List.all_cons,List.all_cons,a];rfl
inductive IspWithin(vs:A0)(H:Hp)(Q:VK)(E:XK):Prop
 |mk (a b:qE) (cs:AK) (xs:qI) (_:DR9) (_:DLF) (_:A60 ZN) (_:GY cs.length) (_:A1K EI7):HF IspWithin
noncomputable def b0y:Sp:=IB IspWithin
def b6y:BCQ "caps" "caps" a5H:={}
def b6Q(F:A2I "within" a5H "caps")(T:AV):F04:=by
 rw[BO b6y e d m]
 rw[gZ a b cs xs]
 .obtain⟨a,b,cs,xs,rfl,ha,hb,hl,k⟩:=h;rw[GL (AMT (AZJ "cap" "number"
 (mR D6V D6V)) (d1v (GC c9I 0 L6) (a3o (C7O b5D))))]
  refine B1S;rw[ER (UZ c4h [] cV V.int F8R hl BS6 rfl (λc x H1 l _ _ _ q=>?_)) H1 p s g]
  .cases c with
   |none=>exact eV rfl true (D6 aG)
   |some c=>exact eV rfl false (C1 (CVW aG))
  rw[BHX ?_]
  rw[DW4 j j]
  .rw[AB d0K (LZ DHW)]
#where
noncomputable def T7(n j:Nat):qI:=CNF
noncomputable def X4(cs:AK):LLI:=(EW9 cs.length).filter λu=>EW3
noncomputable def b6c(c:EJ)(x:Int):Bool:=F4X (bX x c)
noncomputable def StP(rss:LLI)(cs:AK)(ys:qI):HW:=ES5 λj=>D9N
section
variable {K:qF}
inductive IspFirst(vs:A0)(H:Hp)(Q:VK)(E:XK):Prop
 |mk (a:qE) (cs:AK) (_:AC8) (_:DLF) (_:C23) (_:C7Y) (_:∀p zs qO H',BL->fK p zs->BBM->qO.Perm (X4 cs)->uV->zZ):HF IspFirst
noncomputable def a8K:Sp:=IB IspFirst
def sc_first_steps:cI ["caps","units"] "caps" Z6:={}
def a6h(F:XI "first_steps" Z6 "caps")(T:AV)(c:CO3)(b:F04):CN4:=by
 rw[BO sc_first_steps U L n]
 rw[TJ a cs]
 .rw[SO a cs rfl ha h1 h2 k];rw[VJ V]
  rw[BU (eM (mV 1 sc_first_steps.nd (N:=["j","caps"]) (src:=[none,bK]) (AT2 APF)
 (C8D "caps")) pT (F0 c n.mono (C0Y dC))
 (FH (ASQ (W2 b1K T.b_sorted (bT "one" "caps" bK DQD
 (ACM "caps") (B7Q J0 K (C8S n.mono)) (TN DY))))))]
  rw[CP8 a ha A0V];refine wX a5W caps AVO C93 (dP (UM ys (EW9 i))) (AG3 .nil) (B5I (BSN XM)) ?_ ?_
  .rw[CNX s' hI];refine⟨_,rfl,a,_,rfl,QM C7Z,_,rfl,_,cs.length,i,rfl,B9Q,C93,hi,λv H2 s2 I=>HJ AOZ⟩;rw[List.range_succ,List.map_append];exact(hI.same s2).snoc I
  .rintro ys H' ⟨s',hI⟩ p hp;rw[FF];rw[AC s1 (s'.upd (o:=fV) hp) e (wD hI.same H' fV hp)];rw[fL e1 H' p fV p ys];rw[AN9 (bI H' ys) s1 e e1];refine aH p e1;have J:ys.length=cs.length:=by rw[L1 GW]
   refine UZ a6x AVO (λu=>EW3) (VD 0x5cde6d514a4e27bcdf1773c4c60e867 h2 V J) (AIO (DP ACV)) e rfl (λv r H2 X n I s2 q=>?_) (EE H2 p2 d s2 m y)
   .rw[HG va hva I];exact⟨_,rfl,_,rfl,a,va,cs,r,rfl,ELP,hva,C93,λt x=>D4 (Wi cs r) (q t x)⟩
   rw[AC x (EEX (o:=DW d) m) g (wD y.same H2 (DW d) m)];rw[PJ O H2 p2 d p2 d];generalize VI p2 d=t at x g O;refine LC p2 d _ (X3 O) g (ANO n) (λl zs M B z D G _=>?_)
   .rw[FT j hj (List.mem_filter.mp n).1];have:=List.mem_range.mp hj;simp[T7];rw[rY c1W]
   refine mE l W C;rw[AC R (MU t (o:=WU) B) S (AO5 (GO t l zs) CWN C)];exact k W zs M _ (GK x.trans R S) A2 (EPC z.same) D G
inductive IspRaised(vs:A0)(H:Hp)(Q:VK)(E:XK):Prop
 |mk (y:V) (ys:qI) (j:Nat) (_:QA y gK) (_:jV) (_:ACA) (_:C2H) (_:A3J AAR):HF IspRaised
noncomputable def b0z:Sp:=IB IspRaised
def b6z:DA C5F C5F a5I:={}
def b6S(F:HA "raised" a5I C5F):EZG:=by
 rw[BG6 b6z]
 rw[AEF y ys j]
 .obtain⟨_,ys,j,rfl,⟨a,rfl,ha⟩,hj,hl,k⟩:=h;rw[GL (a3n (a3n (E7U (J1 (jv 1))) (O8 (BN (API (A7M DY 1))))) (a8g K DY (J1 (yM O9 A7)) J2))];exact wX (BC c8B i 0 j 1 (a:=a) (xs:=ys)) k j (z:=ZG+1) rfl ha hj hl (λH' N s' q=>⟨_,rfl,_,rfl,a,_,_,_,rfl,rfl,B9F ha,DU9,_,_,rfl,rfl,q⟩) k
inductive IspSteps(vs:A0)(H:Hp)(Q:VK)(E:XK):Prop
 |mk (a c:qE) (y:V) (us:A0) (rss:LLI) (cs:AK) (ys:qI) (_:vs=[CM,ZC,y]) (_:jL) (_:MR) (_:AQZ) (_:jV) (_:aN) (_:dD ys.length) (_:BZE cs.length) (_:CAI) (_:AQX) (_:∀p ps H',BL->iQ p ps->EKH ps ARW->zZ):HF IspSteps
noncomputable def b5b:Sp:=IB IspSteps
def c3M(h:j<cs.length):atI (cs.map cV) aC=BK cV A12:=by
 rw[FDZ]
def sc_steps:DA ["rows","caps","one","places"] BV8 a8U:={}
def b9U(F:HA "steps" a8U BV8)(T:AV)(d:CJ3)(b:EZG):F16:=by
 rw[BO sc_steps U I M]
 rw[AEG a c y us rss cs ys]
 .obtain⟨a,c,_,us,rss,cs,ys,rfl,ha,hI,hc,⟨y,rfl,hy⟩,hl,hn,hcl,hR,hs,k⟩:=h;rw[VJ O]
  rw[BU (eM (F1M sc_steps.nd "caps" (F5 K (gD d M.mono a2E (YI JJ)))
 (DJZ "caps")) (TN (W6 (a2k (a1z (a1B CC1 L6) (a0K (a8e DVK CC1)))))) DY
 (FH (RU (bT "j" "one" AWS BCA
 (WG (A4R "j"))) (O8 (A2K (C8S M.mono))))))]
  refine⟨_,rfl,_,rfl,a,_,us,rss,ys,rfl,ha,hI,D4 y hy,hl,DQU,hR,hs,AB2 v G⟩;rw[HG X l G];refine BBV X l;rw[List.map_map]at l;have p:∀j∈A82 ys.length filter C6T,ACA:=λj g=>List.mem_range.mp (List.mem_filter.mp g).1;have n:EH (B36 ys.length) C6T<=ys.length:=BF7;rw[ER (UZ b6q [DX c,DX y] (λ(PN j)=>DO j) DN3 (AR 0x236dfbe0ba924853f62866 hn n) (ZU l) rfl (EE j H2 Y g s2 q)) H2 p2 s2 u]
  .rw[JK hj' (p j g) ⟨_,rfl,_,rfl,c,_,_,_,rfl,rfl,E8T,F6S,rfl,_,rfl,?_⟩];cases e:A12 with
   |none =>
    rw[e]at q;exact D6 aG
   |some z =>
    rw[e]at q;refine C1 ⟨_,rfl,_,rfl,y,_,_,_,rfl,rfl,D6B hy,a1K hj',_,rfl,_,rfl,c,_,_,_,rfl,rfl,E8T,F6S,?_⟩;rw[e];exact BNR aG
  rw[AOB J EEX AL2 u];rw[PJ t H2 p2 AL2 p2 AL2];have D:∀j∈ARW,ACA:=λj g=>p j (List.mem_filter.mp g).1;have C:C8G<=ys.length:=Nat.le_trans cF n;have W:ES5 DN3=ARW:=rfl;rw[W];rw[FF];generalize VI p2 AL2=L at J t;refine aH p2 t;refine R8 (xs:=AL2) (ACP 0xbe501db666aa273044c60e867 hn O C) (OM qs (ANR L/\EKH qs (DQ0 i))) ⟨Same.refl L,Prs.nil⟩ (NM qs (ECL (B25 CB))) ?_ ?_
  .rintro i x qs H' hx ⟨s',hP⟩;rw[CS2 hx];cases r:dI ARW with
   |none=>rw[AW r hx hx]
   |some j =>
    rw[AW r hx hx];rw[JK g (MA D j r) ⟨Sub.one,_,rfl,_,rfl,_,rfl,_,ys,j,rfl,D4 y (A9W (J.trans s') hy),g,DQU,BS v S R G⟩];rw[EQ (E64 O) Z B];rw[eD m S CYP B];rw[KG (GK s'.trans R m)];rw[List.take_add_one,r];exact((hP.same R).same m).snoc A2 (G.same m)
  .rintro qs H' ⟨s',hP⟩ p4 hp4;rw[C7M hP];rw[eC m H' qs hp4];exact k p4 qs _ (GK J.trans s' m) A2 (hP.same m)
noncomputable def Bar(fss:LLI)(ys:qI)(j:Nat):Bool:=fss.any λf=>lG DGO ZG && BRZ
inductive IspBarred(vs:A0)(H:Hp)(Q:VK)(E:XK):Prop
 |mk (l:qE) (y:V) (fs:A0) (fss:LLI) (ys:qI) (j:Nat) (_:vs=[IX,y,gK]) (_:E0P) (_:E0B) (_:jV) (_:ACA) (_:C2H) (_:DF f fss (BZE f.length)) (_:A1K E1K):HF IspBarred
noncomputable def b0F:Sp:=IB IspBarred
def sc_is_barred:DA ["found","one","j","answer"] BXZ a1g:={}
def a9i(F:HA "is_barred" a1g BXZ)(T:AV)(b:CJC):F36:=by
 rw[BO sc_is_barred v t n]
 rw[pC l y fs fss ys j]
 .obtain⟨l,_,fs,fss,ys,j,rfl,hl,hI,⟨y,rfl,hy⟩,hj,hn,hL,k⟩:=h;rw[BU (A3 (BB4 3 sc_is_barred.nd
 (A5 (AEB (K3 (A7M A0K 2) E76) (A61 (tU n.mono (DV 3 IV)))
 jC
 B6)))
 jC)]
  rw[FFZ [A8N,DX y,B03,o] (PR (BVH (fss.take i))) (λi σ H' _ (cM _ s' _)=>DP DP3)]
  .rw[FJC];rw[A3T n p q hx];rw[mU u m q.same s'];have g:=hL r n;have d:BVH (fss.take AM)=(CEU && ASJ):=by
    unfold Bar at hB⊢;rw[F2U p]
   have c:kW CEU ASJ->AY E1K:=λe=>by
    rw[FY Bar List.any_eq_true];rw[AU r n e]
   rw[CF ⟨_,rfl,_,rfl,u,_,_,_,rfl,rfl,DFR,DUA g,_,rfl,_,rfl,y,_,_,_,rfl,rfl,B9F hy,DU9,rfl,_,rfl,?_⟩];have z:aB (EG (A0Z QU ZG)) (QU=ZG):=by simp
   rw[z];cases e:CEU with
   |false =>
    rw[e]at d;rw[fE C1 C1];rw[BW _ rfl s' d]
   |true =>
    rw[e]at d c;rw[tZ ⟨_,rfl,_,rfl,_,_,r,ys,rfl,D4 u m,D4 y (mG hy),EDX g,C9U⟩];cases e2:ASJ with
    |false =>
     rw[e2]at d;exact C1 (HE _ AOZ d)
    |true =>
     rw[e2]at c;rw[FAW (c rfl)]
  rw[FLA]
#where
inductive IsNx(rss:LLI)(cs:AK)(F:LLI)(u v:qI):Prop
 |mk (j:_) (_:EKP) (_:v=BA7) (_:PR (B46 v)):AWM
def a9O{a b:qI}(h:a.map BX2=b.map Sum.inl):iR:=by
 induction a generalizing b with
 |nil=>cases b with|nil=>rfl|cons _ _=>cases h
 |cons x a c =>
  cases b with
  |nil=>cases h
  |cons y b =>
   rw[AN8 h1 h2]
   rw[CGN]
   rw[h1,c h2]
def a6B{a:LLI}(e:B1P a):MY CO1↔r∉a:=by
 constructor
 .intro h hm;rw[LV b0o h];rw[AZ e List.mem_map.mpr (QX r hm)]
 .intro h;cases c:CO1 with
  |none=>rfl
  |some v =>
   rw[KP (b4Q c) e];rw[DI q b e2 List.mem_map.mp this];rw[DT (a9O e2 ▸ b) h]
def c2V{a:LLI}(e:B1P a):aB (G7 qL (BSL r.map)).isSome C6W:=by
 by_cases h:C6W
 .rw[decide_eq_true h];cases b:CO1 with
  |none=>rw[DT h (XC a6B e b)]
  |some v=>rfl
 .rw[B2I,dH a6B e h];rfl
def c2U(r:qI):EYP r.map r.map:=DN7
def c6I{d:qE}(h:TD)(hd:CJH)(o:ALW d):AST :=
 (B5C (AJ o (BQ (XE q hd)) q))
def b0N{H1 H2:Hp}(s:KS)(c:A2C)(o:EHL LF):C1D:=dM (o b u (BQ (AAJ c)) C9P)
structure NxPre(H:Hp)(a c f l:qE)(us:A0)(rss:LLI)(cs:AK)(fs:A0)(F:LLI)(ls:A0)(L:LLI):Prop where
 ha:jL
 hI:MR
 hc:AQZ
 hf:TY f fs
 hF:E0A
 hl:TY l ls
 hL:OD ls L
 us1:aN
 n1:C23
 n2:C7Y
 hR:DTB
 fw:E5Y
 lw:DV6 (Sm v)
 big:CKZ
section
variable {K:qF}
inductive IspNxl(vs:A0)(H:Hp)(Q:VK)(E:XK):Prop
 |mk (a c f l:qE) (r:V) (us:A0) (rss:LLI) (cs:AK) (fs:A0) (F:LLI) (ls:A0) (L:LLI) (_:vs=[CM,ZC,rA,IX,r]) (_:NxPre H a c f l us rss cs fs F ls L) (_:F0T) (_:∀p zs qO H',BL->TZ->iQ p zs->BBM->uV->qO.Nodup->SX qO AT7->(CJP (v∈qO)∨CCC qO.length)->CEP qO.length->FB7 qO.length->zZ):HF IspNxl
noncomputable def c7s:Sp:=IB IspNxl
def sc_next_level:DA ["rows","caps","found","level","room","met","one","j","more"] BYU a0y:={}
def a7v(F':HA "next_level" a0y BYU)(T:AV)(M:F16)(n:F36):F7W:=by
 rw[HP F'.okJ sc_next_level d0 c7 hr]
 .obtain⟨a,c,f,l,r,us,rss,cs,fs,F,ls,L,rfl,_⟩:=h;rfl
 .obtain⟨a,c,f,l,r,us,rss,cs,fs,F,ls,L,rfl,N,hroom,k⟩:=h;have W:=hr.u60;rw[LH hz]
  have hbig:=N.big;rw[BU (CA 5 sc_next_level.nd b5H
 (A3 (mX BCA 6 sc_next_level.nd
 (A3 (BH5 (AC1 (AD1 M b3k (YI (DV 1 C1T)))) 7 sc_next_level.nd 8 sc_next_level.nd
 (A5 (CMR a2L (b7l W DEW ABZ CV) a0L (CBE n 174585852 (DV 2 (DV 8 (eQ 7))))
 (A5 (a2a W ABZ DEW a4g))
 B6)))
 (A5 (AEB (GC b5E 4 L6) (Y5 (c6y rfl T.b_len AO1) (jv 4))
 (A5 c2Z)
 B6))))
 (FH (c3f rfl T.b_sorted AO1))))]
  intro d hd;rw[FF];rw[PX s0 H AII hd];rw[FE0 e0 H];generalize TM H d .dT []=H0 at s0 e0;have fin:∀(qL:aO) (g:LLI) (σ:L2.St) (H':Hp),GD σ 5 (DX d)->BL->A4O d .dT qL->B1P g->g.Nodup->SX g AT7->(CJP B9A∨CCC g.length)->CEP g.length->(FB7 g.length) ->
    c8o (tCB rSortD (CLX 5)) {nx:=λx H'=>VY V.non,rt:=Q} σ H':=by
   intro qL g σ H' hσ s' R y I h1 h2 B O;refine⟨_,hσ,d,qL,g,rfl,R,y,u5 t,λp zs c8 hp hI J c4=>?_⟩
   .obtain⟨u,W,j,hj,rfl,_⟩:=h1 v t;rw[K6];have:=List.mem_range.mp DTX;rw[rY c1W]
   refine k p zs c8 _ (s'.upd hp) (s'.free hp) A2 (hI.same (C2F hp)) c4 (J.symm.nodup I) (λv t=>h1 v (J.mem_iff.mp t)) ?_ (C0V B) λm e=>C0V (O m e)
   rcases h2 with h2|⟨m,e,h2⟩
   .exact .inl λu W v t=>J.mem_iff.mpr F1L
   rw[JM ⟨m,e,C0V h2⟩]
  refine aH l (AG s0 N.hl);refine VF O5 l ls ((λi σ H'=>Ex5 λo6 o7 o8 qL g=>An9 (σ=[some (.ref a),some (.ref c),some (.ref f),some (.ref l),some r,some (.ref d),o6,o7,o8]) (Same H H') (H' d=some (.dT qL)) (qL.map (·.1)=IK g) (g.Nodup) ((∀v∈g,∃u∈L,IsNx rss cs F u v)) ((∀u∈L.take i,∀v,IsNx rss cs F u v->v∈g)) (g.length<=i*cs.length) (∀m:Int,r=.int m->(g.length:Int)<=m)))
   ⟨none,none,none,[],[],rfl,s0,e0,rfl,List.nodup_nil,A17,ED7,AF,ANN e⟩ (NM σ (by rw[ED4];rw[A9V (mG N.hl)])) ?_ ?_
  .rw[C08 e' m' e' hm']
   .rw[GM e']
   .rw[GM e'];simpa using hm'
  .rintro i x σ H' hx ⟨o6,o7,o8,qL,g,rfl,s',R,y,I,h1,h2,B,O⟩;rw[EZ ys b3 b4 c6 N.hL.mem hx];obtain⟨yw,c9⟩:=N.lw ys b3;have c2:i<L.length:=LX b4;have a8:CEP DTD:=DE2 c2;rw[F5L C DTD i]
   rw[FF];rw[FZ b7 CAI yw N.hR]
   refine⟨_,rfl,_,rfl,_,rfl,a,c,x,us,rss,cs,ys,rfl,mG N.ha,N.hI.same s',mG N.hc,c6.same s',N.us1,AE yw N.n2,yw.symm,b7,c9,EE p1 ps H1 s1 a2 a1⟩;rw[AC G C3V a3 (s'.trans s1)];refine HE p1 (rM a2) ?_;rw[XJ c5 j ARW ACA j hj (List.mem_range.mp DTX)];have S:C8G<=cs.length:=by rw[<-yw];exact Nat.le_trans cF BF7
   have b9:d≠p1:=XE G a2;refine VF O5 p1 ps ((λZ σ H2=>Ex4 λo7 o8 qL g=>An10 (σ=[some (.ref a),some (.ref c),some (.ref f),some (.ref l),some r,some (.ref d),some x,o7,o8]) (Off [d] H1 H2) (H2 d=some (.dT qL)) (qL.map (·.1)=IK g) (g.Nodup) ((∀v∈g,∃u∈L,IsNx rss cs F u v)) ((∀u∈L.take i,∀v,IsNx rss cs F u v->v∈g)) ((∀j∈(StP rss cs ys).take Z,Bar F (bump ys j) j=false->bump ys j∈g)) (g.length<=i*cs.length+Z) (∀m:Int,r=.int m->(g.length:Int)<=m+Z)))
    ⟨o7,o8,qL,g,rfl,A0L,G,y,I,h1,h2,ED7,B,λm e=>by rw[B5E];rw[QL 0x49fa49de21c243757]⟩ (λZ σ H2 _ h=>by rw[B6K o2];rw[A9V (ZQ o2 b9.symm a2)]) ?_ ?_
   .rintro Z q σ H2 hq ⟨o7,o8,qL,g,rfl,off2,hd2,y,I,h1,h2,h5,B,O⟩;obtain⟨j,b,v,ej,rfl,hb,t⟩:=a1.2 Z q hq;rw[HG va b2 t];rw[AC b0 (List.mem_of_getElem? ej) hj (c5 j b0)];rw[AC b8 (CIF hb hb) U (CIF b2 b2)];rw[dV a7 a3 N.hf c0 (CIF a7 a7)];have b6:=c6I (N.hF.same a3) G off2;have c1:Z<C8G:=LX ej;rw[ANV X g.length (by
     rw[EOI])]
    have a0:∀D:LLI,SX g (v∈D)->(PR DYF->AAR∈D)->∀j'∈DQ0 (Z+1),PR (Bar F EP0 j')->EP0∈D:=λD b1 c3 j' a9 a5=>by
     rw[ECC ej a9 a9]
     .exact b1 _ (h5 j' z a5)
     .have:j'=j:=BQ z
      rw[fF this c3 a5]
    rw[FQ (tL b (fG j ANB) b8 gK (VT va) ANB []) (F3Q d (DGet.t hd2 (AE c2U U)))];rw[c2V y];by_cases hm:AAR∈g
    .rw[dR hm];rw[fE C1 C1];rw[FL9 off2 hd2 (D2 hm)]
    .rw[GG (nO hm) D6 ⟨_,rfl,_,rfl,_,rfl,f,ANB,fs,F,AAR,j,rfl,c0,b6,D4 va U,B71 hj,by rw[K6,yw];rw[A9Y N.n2 a0V],λv t=>BZI K6 yw N.fw v t,λH3 s3=>sW⟩];have a6:=nQ hd2;cases e:DYF with
     |true =>
      rw[HI C1];rw[FL9 (off2.trans s3.off) a6 (λz=>by rw[cG z z])]
     |false =>
      rw[HI D6];refine AZK d _ (DPut.t a6 (AE c2U (nQ U)) (~~~lq 0xf630520312f412f36f3a4b9b0c569e11b1ceeea0c156937d2b17683275f53c3e032ae0ee5 hz hbig a8 C S B c1 X)) ?_;rw[a5X _ (dH a6B y hm)];refine⟨_,_,_,g++[AAR],rfl,BA3 off2.trans s3.off,A2,by rw[List.map_append,y];simp[IK],a9m I hm,u5 t,λu W v t=>UX F1L,a0 _ (λv t=>UX t) (D2 AF),by rw[DL2];exact c0z B,λm e=>by rw[B5E];rw[DL2];rw[QL 0x2b686806c21ede7b9c0b58]⟩;rw[BM DKE]
      .exact h1 v z
      .rw[ZF];exact⟨ys,b3,j,b0,rfl,e⟩
   .rintro σ H2 ⟨o7,o8,qL,g,rfl,off2,hd2,y,I,h1,h2,h5,B,O⟩;rw[cY a1.1 h5];rw[ANV X g.length (by
     rw[EOI])]
    have Y:=a1.1;have s2:C1D:=b0N a3 hd off2;have a4:∀u∈L.take AM,CYZ B9A:=λu W v t=>by
     rw[ECC b4 W W]
     .exact h2 u z v t
     .have:u=ys:=BQ z
      rw[iF];obtain⟨j,hj,rfl,hb⟩:=t;exact h5 j hj hb
    rw[C08 rfl m rfl d1]
    .refine IE (fA C1 C1);exact⟨_,_,_,qL,g,rfl,s2,hd2,y,I,h1,a4,FD7,λm e=>by rw[CI]⟩
    .rw[FQ (IE AP1) ⟨_,rfl,d,qL,rfl,hd2,_,rfl,_,_,rfl,rfl,_,rfl,lN⟩]
     .have e':DK1:=oF;have b5:=O m rfl;exact FB6 H2 s2 hd2 (DC (D4 m (AR 0x7c2da9532ebe98813d58 X e'))) (~~~lq 0x579545243ee8723ec81ee55c4a39825137db a8 C S B Y) λm' e2=>by cases e2;exact lq 0xa3a80bdb4398deca7f886f234af6b35a S Y b5
     .rw[SH e' DK1 A30];exact⟨_,_,_,qL,g,rfl,s2,hd2,y,I,h1,a4,FD7,λm' e2=>by cases e2;rw[FX 0xd9612a51d7fd5622d3d58 X e']⟩
  .rintro σ H' ⟨o6,o7,o8,qL,g,rfl,s',R,y,I,h1,h2,B,O⟩;rw[cY DD7 h2];exact FB6 H' s' R (ED h2) (by rw[iE DD7 B B]) λm e=>by rw[B5E];rw[QL 0x7b194d4c5c8f8ef83758]
#where
noncomputable def ffl(ra ca:qE)(b:Bool)(ah af aw:qE):QW:=[DQ4 ra,DQ5 ca,("begun",dX),nC "here" ah,nC "found" af,nC "walked" aw]
section
variable (ra ca ah ah' af aw:qE)(b b':Bool)
def b1T:AR2 "rows" ra:=CV
def b1U:AR2 "caps" ca:=CV
def a8n:BKP (xA "begun")=BK .bl b:=CV
def a1J:AR2 "here" ah:=CV
def a4m:AR2 "found" af:=CV
def a6P:AR2 "walked" aw:=CV
def b0S:C9 "here" (AI ah') AGD=AFH b ah':=CV
def b6G:C9 "begun" (.bl b') AGD=AFH b' ah:=CV
def b0R:AV0 "walked" aw "found" af (C9 "here" CW8 (C9 "begun" dX F9C))=AGD:=CV
def c3w:BC7 "told":=CV
def b7C:BC7 "paper":=CV
def b7D:BC7 "ended":=CV
def a4X:BC7 "step_within":=CV
#where
structure FiTx(K:qF)(C:qE):Prop where
 cl:VL
 n1:DOO
 n2:DOP
 n3:gX "begun"
 n4:gX "here"
 n5:gX "found"
 n6:gX "walked"
structure FAt(C:qE)(H:Hp)(p ra ca af aw:qE)(b:Bool)(L F W:LLI):Prop where
 ob:∃dx ah hs,B0O AGD/\TY ah hs/\OD hs L/\ah≠af/\ah≠aw
 hf:∃fs,TY af fs/\E0A
 hw:∃ws,TY aw ws/\OD ws W
 ne:af≠aw
def FAt.same{C:qE}{H H':Hp}{p ra ca af aw:qE}{b:Bool}{L F W:LLI}(h:pB)(s:BL):BKH (A5Y FAt ra):=by
 rw[B5V a c d g e f h];rw[BW ⟨dx,ah,hs,C2U,DHN,a.same s,c,d⟩ (CG9 fs f1 f2.same) (CG9 g e f.same) ne]
structure SyAt(H:Hp)(a c:qE)(rss:LLI)(cs:AK):Prop where
 ex:∃us,jL/\MR/\aN
 hc:AQZ
 n1:C23
 n2:C7Y
 hR:DTB
def SyAt.same{H H':Hp}{a c:qE}{rss:LLI}{cs:AK}(h:FA5)(s:BL):FAK:=by
 rw[FD8 b d e f];rw[EF ⟨us,C2U,h2.same s,b⟩ (GQ d) e f hR]
structure StR(rss:LLI)(cs:AK)(b:Bool)(L F:LLI)(r:V)(L':LLI):Prop where
 ri:G6 L'
 nd:L'.Nodup
 fst:PR b->uG L' BF9
 snd:A9X->FP L' AT7
 all:A9X->CJP (v∈L')∨CCC L'.length
 len:L'.length<=cs.length+L.length*cs.length
 few:∀m:Int,BLC->DA4 L'.length
def a1R(n j i:Nat)(hi:NB):EFN n=BVW:=by
 unfold T7;rw[AL7 hi]
def Q0(n j:Nat):KQ T7 n j=n:=IF T7
def a4k(cs:AK):(X4 cs).Nodup:=by
 unfold X4;rw[LV List.Nodup.sublist ((List.filter_sublist))];rw[CX6 List.Nodup];refine(List.nodup_range (n:=cs.length)).imp_of_mem (FBY b a);have h1:(T7 cs.length i).getD i 0=EFN cs.length:=DJG (λl:qI=>l.getD i 0);rw[E5T,E5T,EK,aK]at h1;omega
def lp{f:Str}{v:V}{fs:QW}(h:fs.length<=k):FAO BX:=by
 refine Nat.le_trans ?_ (Nat.succ_le_succ h);clear h;induction fs with
 |nil=>rw[DO3]
 |cons p r a =>
  obtain⟨g,x⟩:=p;show IW F2M<=_;split
  .simp
  .rw[BZZ]
section
variable {K:qF}
inductive IspFInit(C:qE)(vs:A0)(H:Hp)(Q:VK)(E:XK):Prop
 |mk (p dx ra ca:qE) (_:vs=[II,A1X,AI ca]) (_:CBT) (_:∀(af aw:qE) (H':Hp),DGR->EN aw->DBS false [] [] []->DAW false->E4D->AGR):zT IspFInit
noncomputable def b5d(C:qE):Sp:=AP6 IspFInit
def a2s:DA ASZ ASZ N9:={}
def c0d(I:kX "__init__" "Finder.__init__" N9 ASZ)(U:ACK):rK "__init__" 1 ASZ b5d:=by
 rw[HP I.fnJ a2s J G L]
 rw[gZ p dx ra ca]
 .rw[SO p dx ra ca rfl hp k];rw[BU (EX5 1
 (EX5 2
 (AJ4 a4g
 (BE6
 (BE6
 (A5 (BP2 E4)))))))]
  have t:([]:QW).length<=0:=BV;refine FK0 hp U.n1 (Nat.lt_of_le_of_lt t AH);refine FK0 A2 U.n2 (Nat.lt_of_le_of_lt (lp t) AH);rw[a2U];refine iD A2 U.n3 (Nat.lt_of_le_of_lt ES4 AH);rw[a2U];generalize D:C9 "begun" (V.bl false) F9C=r;have F:r.length<=3:=by rw[A7T D lp ES4]
  have k1:fC A6C rQ (IH H p ATF b o):=λb o e c=>GI c e
  have e1:IH H p ATF p ATF:=A2;have u:∀b,MY (upd H p ATF b)->MB:=λb e=>by
   rw[BI c b p]
   .rw[BZY c]
   .rwa[B7S]at e
  rw[AN9 (eZ p ATF) k1 e1 u];rw[aR ah n];have x:p≠ah:=A8 e1 n;refine iD (AE (A6 x) e1) U.n4 (BJ 0x25c2b6fbea393465 F);rw[aR af m];have y:DOE:=λz=>by subst z;rw[AW A2 m m]
  have g:upd H1 ah OO af=none:=by rwa[C2C]at m
  have j:ah≠af:=EZE OO;have d:ALG af:=by rwa[A6 j.symm]at g
  refine iD (B8Z y) U.n5 (AL5 (lp (f:="here") (v:=CW8) F) 0x4214c038d9ecee065);rw[aR aw q];have B:DOF:=λz=>by subst z;rw[AW A2 q q]
  rw[GJ a q C2D a];have i:af≠aw:=EX7;rw[A6 i.symm,C2D]at a;have l:ah≠aw:=EX7;rw[A6 l.symm]at a;refine iD (B8Z B) U.n6 (AL5 (lp (f:="found") (v:=AI af) (lp (f:="here") (v:=AI ah) F)) 0x162273630afc27290c465);rw[ER (k af aw _ (u _ d) (u _ a) ⟨⟨dx,ah,[],?_,?_,.nil,j,l⟩,CKN,CKN,i⟩ ⟨dx,ah,by rw[A2,<-D,<-b0R],u _ n⟩) b o e c]
  .rw[A2,<-D,<-b0R]
  .rw[C2E,A6 l,C2E,A6 j,C2E,A2]
  .rw[C2C,A6 i,C2C,A2]
  .rw[C2D,A2]
  .have e2:=cE k1 c;rw[B7S,C69 a,B7S,C69 d,B7S,C69 n];exact e2
def b5L:∀{vs b:A0}{rss a:LLI},TD->OD b a->OD (vs++b) (rss++a):=by
 intro vs b rss a h g;rw[CM4 (ELI CB UU) C72 vs.length]
 rw[CKE r A6T r]
 .rw[CAB];rw[IJ r e1 e2 (g.2 _ v e) r (B21 D58 CB e1) e2]
def a5n{o':HO}(h:TD)(b:A7G o)(d:CKC):CY1 (eZ c o') :=
 (B5C (GI (F6 q b (d _)) q))
def a6I(h:TD)(b:A7G o)(d:CKC)(off:ALW c):AST :=
 (B5C (ZQ off (F6 q b (d _)) q))
def c4r(h:FA5)(d:A6C)(e:CKC)(off:pS [b]):FAK:=by
 rw[FD8 g f i j];rw[EF ⟨us,ETX h1 h1,a6I h2 d e off,g⟩ (ETX f f) i j hR]
def c4w{B:Int}(h:ALO u B)(b:BEK):ALO BA7 (CUB+1):=by
 rw[EQM]
 .rw[KR (h x z)]
 .rw[E7M]
  .rw[FDJ];omega
  .rw[E32];omega
inductive IspStepW(C:qE)(vs:A0)(H:Hp)(Q:VK)(E:XK):Prop
 |mk (p ra ca af aw:qE) (b:Bool) (L F W rss:LLI) (cs:AK) (r:V) (B:Int) (_:t9 r) (_:pB) (_:CLL) (_:F0T) (_:(E6G E23)) (_:BEK) (_:E14) (_:CKZ) (_:DZ2) (_:DQ1) (_:F8S L' (F91 F r L') (EAL L' E1X E43) L'.length):zT IspStepW
noncomputable def a8I(C:qE):Sp:=AP6 IspStepW
def b8W{ra ca af aw:qE}{b:Bool}{r:V}{B:Int}(hi:BD7)(h:xR B35 r)(D:pB)(Y:CLL)(h1:r=.non∨D5P)(h2:DV6 E23)(c:BEK)(d:E5Y)(e:CKZ)(f:DZ2)(g:DQ1)
  (k:F8S a (F91 F r a) (EAL a (BW0 a.filter) (W++a)) a.length):BHD "step_within" a8I (CLX j):=by
 rw[BYZ ⟨_,hi,p,dx,_,rfl,g1,bZ a4X,_,h,p,ra,ca,af,aw,b,L,F,W,rss,cs,r,B,rfl,D,Y,h1,h2,c,d,e,f,g,k⟩]
def a1a:CCW "room" "room" K1:={}
def b9T(FM:ACU "step_within" "Finder.step_within" K1 "room")(U:ACK)(T:AV)(d:F7W)(a:CN4)(n:AED) :
  FAY:=by
 rw[HP FM.fnJ a1a c9 c5 hr]
 .obtain⟨p,ra,ca,af,aw,b,L,F,W,t,cs,r,B,rfl,_⟩:=h;rfl
 .obtain⟨p,ra,ca,af,aw,b,L,F,W,t,cs,r,B,rfl,D,Y,hroom,hL,hB,hF,hbig,hF1,hW1,k⟩:=h;rw[iO hz]
  rw[B5V h3 h4 h5 ws w1 w2 zR];have b7:DOE:=XE h1 f1;have b8:DOF:=XE h1 w1;rw[BU (A3 (CIS LT
 (B8E (AD1 d a9p (AAG LT (AAG LT IV))))
 (AJ4 (W2 c6x T.b_list (A5M (DLH 175200508) BT5))
 (B8E a4g)))
 (BBU U9 (BN (bT "one" "self" bK (AC1 LT)
 (ACM "self") (B7Q J0 K (AD1 n c0v (C0Y BBB))) (TN DY)))
 (BBU U9 BT5
 (FH A47))))]
  rw[uZ (σ=[cA,iX]/\∃ah' c L',SA p (kM CET)/\iQ ah' c/\UM c L'/\EN ah'/\StR t cs b L F r L'/\ALW p/\FP L' (BRC (Sm v))) ?fin]
  case fin =>
   rintro σ H1 ⟨rfl,ah',c,L',p1,a1,i1,a0,R,g,c2⟩;have a6:=Y.n2;have y:L'.length<=100000:=by have:=R.len;exact lq 0x15d25e151e3800651a643540baa23cc95586e54927867 hbig a6 this
   rw[AC b0 (ZQ g b7.symm f1) c7 (ZQ g b8.symm w1)];rw[AC c0 (E9S f2) c8 (E9S w2)];have Y1:=c4r Y h1 A0S g;have b1:ah'≠af:=tG f1 a0;have b3:ah'≠aw:=tG w1 a0;have d0:p≠ah':=A8 h1 a0;refine BI5 p1 U.n5 C6B b0;refine B5S p1 U.n4 APL ah' rfl (rM a1) ?_;refine UZ a6x [cA] (λv=>DMO) (AJT i1.1 0x3f871e88c24f9655e63bd89f17d6e hz y) (AIO (DP (UW a1))) i1 rfl (λv r' H2 Q2 c4 hv s2 q=>?_) (EE H2 p2 zs s2 b5 S)
   .obtain⟨⟨us,u1,u2,u3⟩,_,_,_,hR⟩:=Y1.same s2;refine⟨_,rfl,p,C,dx,_,_,rfl,UW p1,U.cl,U.n1,DM4,_,rfl,ra,v,us,t,r',rfl,u1,u2,hv,u3,λr hr=>GS (AQ9 hr) a0V a6,(c2 r' c4).2,λO G=>DJ (q O G)⟩
   have X:IW (L'.filter λv=>DMO)<=L'.length:=cF;rw[AC G (s2.upd (o:=WU) b5) c6 (AO5 H2 WU b5)];rw[fL e3 H2 p2 WU p2 zs];have I:=S.same c6;generalize VI p2 zs=O at G e3 I;rw[JK f3 (cP b0) ⟨af,p2,fs,zs,rfl,rfl,f3,e3,GU f2.1 S.1 (lq 0x44ab7be3665b9767d1fc5904786ca95c7a83c90b4b9a228 hF1 hz y X),?_⟩];rw[FZ p4 (IH O af (DW AZ5) p (kM CET)) (A6 b7) (cP p1)]
   rw[FCE w4 aw ws ne.symm c7]
   rw[FCE a4 ah' c b1 a1]
   rw[FQ (BI5 p4 U.n6 DM7 w4) ⟨_,rfl,p,C,dx,_,_,rfl,p4,U.cl,U.n4,APL,aw,ah',ws,c,rfl,rfl,w4,a4,GU w2.1 i1.1 (lq 0xcd01f7cd995ef7e1cf0223aa4d887a83c90b4b9a227 hW1 hz y),?_⟩];rw[FZ p5 (IH CM7 aw (DW BD0) p (kM CET)) (A6 b8) p4]
   have a5:B2L CM7 aw BD0 ah'=BK .lst c:=by rw[AB (A6 b3) a4]
   refine⟨_,rfl,p,C,dx,_,_,rfl,p5,U.cl,U.n4,APL,ah',_,rfl,X3 a5,?_⟩;rw[i1.1];have M:∀{vs:A0}{t:LLI},Its O vs t->Its (GO CM7 aw BD0) vs t:=λh=>a5n (a5n h f3 A0S) w4 A0S;rw[ER (k L' _ R ⟨⟨dx,ah',c,p5,a5,M (i1.same G),b1,b3⟩,⟨AZ5,B8Z ne,M (b5L (c0.same G) I)⟩,⟨BD0,A2,M (b5L (c8.same G) (i1.same G))⟩,ne⟩ ⟨dx,ah',p5,a0⟩) b o hb e];rw[MD a3 (rQ/\IU af/\IU aw) hb]
   rw[CG (A6 a3.2.2) (A6 a3.2.1) (cP (ZQ g a3.1 e))]
  refine⟨_,rfl,p,C,dx,_,_,rfl,h1,U.cl,U.n3,DM6,b,rfl,?_⟩;obtain⟨us,u1,u2,u3⟩:=Y.ex;have a6:=Y.n2;cases b with
  |true =>
   rw[HI D6];rw[FQ ⟨_,rfl,p,C,dx,_,_,rfl,h1,U.cl,U.n1,DM4,_,rfl,p,C,dx,_,_,rfl,h1,U.cl,U.n2,DM5,_,rfl,p,C,dx,_,_,rfl,h1,U.cl,U.n5,C6B,_,rfl,p,C,dx,_,_,rfl,h1,U.cl,U.n4,APL,_,rfl,?_⟩ ⟨ra,ca,af,ah,r,us,t,cs,fs,F,hs,L,rfl,⟨u1,u2,Y.hc,f1,f2,h2,h3,u3,Y.n1,Y.n2,Y.hR,hF,λv hv=>⟨nE hL hv,DR3 (hL v hv).2⟩,hbig⟩,hroom,λp9 zs a9 H9 s9 J h9 c1 a8 c3 a2 b2 y b4=>?_⟩];have b9:=AG s9 h1;have a7:p≠p9:=A8 h1 J;refine iD b9 U.n4 CHL;rw[b0S];rw[FJG p9 h9 c1 b9 ⟨a8,c3,B6L,D2 a2,D2 b2,BJ 0x10590516048917d7 y,b4⟩ (UT s9.off.set)];obtain⟨u,hu,j,_,rfl,_⟩:=a2 v hv;have:=c4w (j:=j) (DXX).2 hB;rw[AQ (A16 K6 (DXX).1) (DR3 this)]
  |false =>
   rw[HI C1];rw[FQ ⟨_,rfl,p,C,dx,_,_,rfl,h1,U.cl,U.n2,DM5,ca,cs,rfl,Y.hc,Y.n1,Y.n2,λq zs a9 H2 s2 hq S Z a8=>?_⟩ (QF q zs (QM hq) (BH l hl))];rw[AC p3 (a0e (o:=WU) (UW h1) hl) G (s2.upd (o:=WU) hl)];have I:=wD S.same H2 WU hl;rw[fL e3 H2 l WU l zs];have J:=s2.free hl;generalize VI l zs=O at p3 G I e3;refine iD p3 U.n4 CHL;rw[b0S];refine iD A2 U.n3 CHL;rw[a2U,b6G];have a7:p≠l:=A8 h1 J;have X:EH X4 cs<=cs.length:=BF7;have b6:=Z.length_eq;rw[FJG l e3 I p3 ⟨a8,Z.symm.nodup (a4k cs),GF v Z.mem_iff,B6L,B6L,AR 0xf632a17235ebb02fa1d8 X b6,ANN e⟩ DMF]
   .rw[C08 z m' z hm']
    .rw[GM z]
    .rw[GM z];exact lq 0x1e89568cec85034f0dfe98f41b359 X b6 hm'
   .rw[cX j (List.mem_map.mp (List.mem_filter.mp (Z.mem_iff.mp hv)).1)];rw[EQ DF5 x hx];unfold T7 at hx;rw[cX i (List.mem_map.mp hx)];split<;>omega
inductive IspEnded(C:qE)(vs:A0)(H:Hp)(Q:VK)(E:XK):Prop
 |mk (p ra ca af aw:qE) (b:Bool) (L F W:LLI) (_:oN) (_:pB) (_:EKT):zT IspEnded
noncomputable def a8M(C:qE):Sp:=AP6 IspEnded
def b8Y{ra ca af aw:qE}{b:Bool}(hi:BD7)(D:pB)(k:EKT):BHD "ended" a8M a2h:=by
 rw[FMK b7D]
def a4O:BE7 V8:={}
def c0f(c:APM "ended" "Finder.ended" V8)(U:ACK)(T:AV):EKZ:=by
 rw[HP c.fnJ a4O d a l]
 rw[CPW]
 .rw[FM9 g i j o m n (ADW LT (B9X A47))];rw[FQ (DCM h1 U.n3 DM6) (AOJ b)];cases b with
  |false=>exact C1 k
  |true =>
   rw[tZ ⟨_,rfl,p,C,dx,_,_,rfl,h1,U.cl,U.n4,APL,ah,_,rfl,X3 h2,rfl,?_⟩];have e:aB (EG (A0Z (BG hs.length) 0)) (L=[]):=by
    rw[UU];cases L with
    |nil=>simp
    |cons x L=>simp;rw[PD 899391872267029]
   rw[AB e k]
inductive IspTold(C:qE)(vs:A0)(H:Hp)(Q:VK)(E:XK):Prop
 |mk (p ra ca af aw:qE) (b:Bool) (L F W:LLI) (_:oN) (_:pB) (_:(SX F DH0)) (_:E8G qO BBM BBE uV):zT IspTold
noncomputable def b2F(C:qE):Sp:=AP6 IspTold
def c4P{ra ca af aw:qE}{b:Bool}(hi:BD7)(D:pB)(h:FP F DH0)(k:E8G a (Its H' zs a) (a.Perm F) (G6 a)):BHD "told" b2F a2h:=by
 rw[BYZ ⟨_,hi,p,dx,_,rfl,g1,bZ c3w,p,ra,ca,af,aw,b,L,F,W,rfl,D,h,k⟩]
def a5G:BE7 Z7:={}
def c5D(g:APM "told" "Finder.told" Z7)(U:ACK)(T:AV):EKX:=by
 rw[HP g.fnJ a5G i d u]
 rw[CPW]
 .obtain⟨p,ra,ca,af,aw,b,L,F,W,rfl,D,hF,k⟩:=h;rw[B5V n r t y v x zR];rw[GL (ASQ (W2 b1K T.b_sorted LT))];rw[FQ ⟨_,rfl,p,C,dx,_,_,rfl,h1,U.cl,U.n5,C6B,af,fs,F,rfl,X3 f1,f2,hF,λl zs e j hI a c _=>?_⟩ (mE l q m)];have s2:=(A7E (o:=WU) j).upd (o:=CWN) m;exact k q zs e _ s2 A2 (hI.same s2) a c
inductive IspPaper(C:qE)(vs:A0)(H:Hp)(Q:VK)(E:XK):Prop
 |mk (p ra ca af aw:qE) (b:Bool) (L F W:LLI) (_:oN) (_:pB) (_:BI2 W):zT IspPaper
noncomputable def a8J(C:qE):Sp:=AP6 IspPaper
def b8X{ra ca af aw:qE}{b:Bool}(hi:BD7)(D:pB)(k:BI2 W):BHD "paper" a8J a2h:=by
 rw[FMK b7C]
def a4N:BE7 V7:={}
def b9X(d:APM "paper" "Finder.paper" V7)(U:ACK)(T:AV):EKY:=by
 rw[HP d.fnJ a4N e a r]
 rw[CPW]
 .rw[FM9 l m n c i j CIU];refine B5S h1 U.n6 DM7 aw _ rfl (A02 i q g);rw[PX s2 H (GN c) g];exact k q c _ s2 A2 (j.same s2)
#where
inductive Wk(rss:LLI)(cs:AK):LLI->LLI->EL LLI Nat
 |one {L:LLI}(ri:G6 L) (nd:L.Nodup) (h:uG L BF9):bM CAY L L 1
 |more {F W L L':LLI}{k:Nat}(h:oS) (ne:vO) (ri:G6 L') (nd:L'.Nodup) (hm:uG L' AT7):bM E1X E43 L' BX
inductive Over(rss:LLI)(cs:AK)(most:Int):Prop
 |mk (F W L k:_) (_:oS) (_:(most<W.length∨(vO/\∃L':LLI,L'.Nodup/\SX L' AT7/\most<W.length+L'.length))):CD6
def b1l(h:APY):GP v (x<=v.sum):=by
 induction v with
 |nil=>intro x a;cases a
 |cons y v c =>
  intro x a;rw[SQ DQC (b2C v λz b=>BR7)];rw[AN5];rw[oW]
  .exact lq 0xdd1b54cc76252 h2
  .rw[MM (c DRC x a) 0x4a1385aeaf97b226e h1]
def c6X(h:gE u):gE BA7:=by
 rw[EQM]
 rw[vZ h]
 .rw[E7M]
  .rw[FDJ];rw[ZI c1k z]
  .rw[E32];rw[DG 0x9e6754105652516 z]
def b0q(n j:Nat):gE (T7 n j):=by
 rw[BW7 T7];rw[cX i AA3];split<;>omega
def b2t(n j:Nat)(a:iA):T7 n j=AFR A1J:=by
 rw[BYI (List.ext_getElem (by rw[Q0,K6,List.length_replicate]))];rw[Q0]at h1;rw[AC e1 (a1R n j i h1) e2 (a3y A1J j i dY)];rw[AZN (UG List.getElem?_eq_getElem Q0 h1) e1];rw[AZN C3A e2];simp only[Option.getD_some]at e1 e2;rw[AAZ];simp only[List.getD_eq_getElem?_getD,List.getElem?_replicate,a,h1,if_true];by_cases e:i=j<;>simp[e]
def b8V(n:Nat):EHD:=by
 induction n with
 |zero=>rfl
 |succ n a=>rw[EOD]
def b6m(n j:Nat)(a:iA):(T7 n j).sum=1:=by
 rw[b2t n j a,AG a3x dY,b8V];rfl
def b2D(h:EKP):j<u.length/\A6E u<0/\bU b6c A12 DGM:=by
 rw[EYT StP List.mem_filter List.mem_range];rw[AU CB.1 CB.2 DK]
structure LvF(n k:Nat)(v:qI):Prop where
 len:DIN
 nn:APY
 sum:v.sum=k
def a4l(h:BF9):AT3 1:=by
 rw[FT j a (List.mem_filter.mp h).1];rw[AU DF5 (BZ b0q) (AG b6m C1C)]
def b5s{n:Nat}(a:LvF n k u)(h:AWM):LvF n BX v:=by
 obtain⟨j,b,rfl,_⟩:=h;have:=(b2D b).1;rw[AU (B71 a.len) (c6X a.nn) (GU (AG a3x this) a.sum c1M)]
def Wk.lv(h:oS):SX L (LvF cs.length k v)/\SX W (∃i,1<=i/\B8P/\AT3 i)/\SX F (v∈W/\ANG)/\BSM W.length/\DD1 W.length/\1<=k/\k<=W.length+1/\(vO->k<=W.length):=by
 induction h with
 |@one L ri nd h =>
  refine⟨λv a=>EI0,λv a=>⟨1,AD,AD,EI0⟩,λv a=>List.mem_filter.mp a,cF,BV,AD,A9Q,LR ne⟩;cases L with
  |nil=>rw[DT rfl ne]
  |cons x L=>simp
 |@more F W L L' k h ne ri nd f p =>
  obtain⟨l,m,d,n,q,r,s,o⟩:=p;have b:FP L' (AT3 BX):=λv a=>by
   rw[XV g j (NE f v a)];exact b5s (l u g) j
  rw[DHQ CXQ L'];have e:=o ne;refine⟨b,C7P,C7P,GU List.length_append List.length_append (lq 0x392a1d2b48312d5d8 n this),GS List.length_append lq 1147073304470,A9Q,DEE (lq 0x3210a01de77a8dc3d7 e),LR c⟩
  .rw[BM A8L]
   .obtain⟨i,q1,q2,q3⟩:=m v z;rw[BW i q1 (ABV q2) q3]
   .rw[BW BX A9Q (XW 183599221) (b v z)]
  .rw[BM A8L]
   .rw[AQ (UX (nE d z)) (d v z).2]
   .rw[AQ (fM C0X) (BQ3).2]
  .rw[A8E];have:0<L'.length:=List.length_pos_iff.mpr c;rw[ZI c7J e]
section
variable {K:qF}
inductive IspLeast(D:qE)(vs:A0)(H:Hp)(Q:VK)(E:XK):Prop
 |mk (ra ca:qE) (rss:LLI) (cs:AK) (most:Nat) (mi:Int) (_:AAS A1X (AI ca) mi) (_:BDX) (_:CLL) (_:E1E+200<=100000) (_:(∀q t pp zs qO ws F W k H',BL->AH4 [KH,B24]->EHG->BBM->BBE->uV->fK pp ws->UM ws W->eH->BB9->tF)) (_:(BED CD6)):AJE IspLeast
noncomputable def a2Y(D:qE):Sp:=B93 IspLeast
def sc_least:DA ["rows","caps","most","finder","room"] BNA a8Y:={}
def c0b{r:qE}(Z:HA "least" a8Y BNA)(T:AV)(U:ACK)(d:VL)(I:F6B "Finder" ASZ b5d)(j:FAY)(n:EKZ)(t:EKX)(p:EKY)
  (D:E3K r):ATN r:=by
 rw[HP Z.okE sc_least c5 c2 hr]
 rw[pC ra ca rss cs most mi]
 .obtain⟨ra,ca,rss,cs,most,_,rfl,rfl,Y,hbig,kq,ke⟩:=h;rw[BU (CA 3 sc_least.nd (b4c I (DLH 4923175852) rfl WV)
 (gR 4 sc_least.nd jv 2
 (BF4 (b1F (R7 (A61 (CMF n)))
 (CA 4 sc_least.nd (GC b1L 4 (a6E j d (WB hr.mono c0x) A0K nT))
 (A5 (C3 (GC a8e 4 A7)
 (B5U D)
 B6))))
 (SE O8 (iW (CMF t) (CMF p))))))]
  refine CF5 (DQ x dx hx b4 N);rw[CPC c1 N.symm hx]
  rw[BBK s0 CDQ b4 c1 ⟨x,dx,ra,ca,rfl,A2,λaf aw H1 b2 b3 D1 _ kp=>vK⟩];have a0:DGR:=s0.free b2;have a1:EN aw:=s0.free b3;have s1:KS:=CK8 s0 DU2;rw[FF];rw[A2F];rw[FF];rw[iO hz]
  rw[uZ (σ=COO (σ.getD 4 none)/\BL/\∃F W k,FDE [] F W/\eH/\BB9) ?fin]
  case fin =>
   rintro σ H2 ⟨hσ,s2,F,W,k,O,J,V⟩;rw[FKP];have a2:=J.lv;rw[hσ];refine c4P rfl O DQX λq1 zs c3 H3 s3 b8 a7 b7 c0=>?_
   .obtain⟨i,i1,_,lv⟩:=a2.2.1 v (nE (ZD a2) M);cases v with
    |nil=>rw[AJ0 lv.sum];rw[QE 0x5bc56849a6aaf3bc066e i1]
    |cons _ _=>simp
   have D3:=O.same s3;obtain⟨⟨c6,c4,c8,g1,_⟩,_,_,_⟩:=id D3;refine b8X rfl D3 (EE q2 ws H4 s4 b9 a8);rw[EQ (BB3 c0L) q hq];rw[eD s5 H4 [AI q1,AI q2] hq];exact kq q q1 q2 zs c3 ws F W k _ (GK (oD s2.trans s3) s4 s5) A2 (iG (ABQ b8)) ((a7.same s4).same s5) b7 c0 (iG b9) (a8.same s5) J V
  refine⟨λm σ H'=>∃(b:Bool) (L F W:LLI) (g:Int),σ=COO (DS g)/\BL/\BKH DA6/\0<=g/\m=g.toNat+OK E46 0 1/\((b=false/\L=[]/\F=[]/\W=[]/\g=most)∨(A9X/\ET3 oS)),
   ⟨_,false,[],[],[],_,rfl,s1,D1,A0G,rfl,ED (AK1 rfl rfl rfl)⟩,?_⟩
  rintro m σ H2 ⟨b,L,F,W,g,rfl,s2,O,r0,rfl,X⟩;rw[FKP];refine b8Y rfl O sW;have c7:most+1<=AJ3*(cs.length+1):=Nat.le_mul_of_pos_right _ BMT;rw[lF S E1E (AJ3*cs.length+AJ3) Nat.mul_add Nat.mul_one]
  by_cases he:E46
  .rw[LN rfl he];rw[HI C1];rcases X with⟨z,_⟩|⟨_,k,J,a⟩
   .cases z
   .exact LY ⟨rfl,s2,F,W,k,O,J,EIP⟩
  .have hb:(b && EG (L=[]))=false:=by
    cases b with
    |false=>rfl
    |true =>
     have:vO:=λz=>he (DZ z);rw[fQ]
   rw[hb,BD he];rw[tZ (ABA (λσ' H'=>∃(G Z W':LLI) (k:Nat) (l:Int),σ'=COO B2P/\BL/\FDE G Z W'/\0<=l/\bM Z W' G k/\l=most-W'.length/\l.toNat+OK (G=[]) 0 1<g.toNat+1) (BNB ⟨G,Z,W',k,l,e1,e2,e3,e4,e5,e6,e7⟩ ⟨_,e7,true,G,Z,W',l,e1,e2,e3,e4,AF,DC (A8F k e5 e6)⟩))];obtain⟨B,hB,hL,hF,b1,b0,a6⟩:∃B:Int,BEK/\E6G EG4/\E14/\BB9/\DD1 most/\BSM most:=by
    rcases X with⟨rfl,rfl,rfl,rfl,_⟩|⟨rfl,k,J,a⟩
    .exact⟨0,AD,A17,A17,AF,AF,AF⟩
    .obtain⟨i1,i2,i3,i4,i5,i6,i7,i8⟩:=J.lv;refine⟨k,AD,λv M=>⟨(i1 v M).len,λy hy=>HJ (E9O y hy)⟩,DQX,EIP,EVM i5,EVM i4⟩
     .rw[T6 (b1l E9O y hy) (i1 v M).sum]
     .obtain⟨i,_,_,lv⟩:=i2 v (nE i3 M);exact lv.len
   have a9:CYC<=most*cs.length:=DE2 b0;rw[F5L b6 (BMQ (AJ3)) most]
   rw[VE (b8W rfl rfl O (Y.same s2) (DC (D4 g r0)) hL hB hF (~~~lq 0x34d1b5312030e0989947fb8756e32e086480dd64ea652ba02563892148447f6a hbig S a9 b6) (F72 a6) (F72 b1) (EE G H3 R D3 _ a4))];rw[XU (BX9 ?_)];have s3:NZ H3:=λc o e=>a4 c o (by simpa using⟨DU2,AAJ a0,AAJ a1⟩) (s2 c o e);have key:(ET3 (bM (BW0 G.filter) (W++G) G k))∨(g<G.length/\CD6):=by
    rcases X with⟨rfl,rfl,rfl,rfl,a⟩|⟨rfl,k,J,a⟩
    rw[GX ⟨1,BQ (Wk.one R.ri R.nd (R.fst rfl)),dY⟩]
    .have N:vO:=λz=>he (DZ z);rcases R.all rfl with ha|⟨m',e',a3⟩
     rw[GX ⟨BX,.more J N R.ri R.nd λv=>⟨R.snd rfl v,λ(B63 hu M)=>ha u hu v M⟩,a⟩]
     .cases e';rw[A18 ⟨a3,F,W,L,k,J,DC ⟨N,G,R.nd,R.snd rfl,AR 0x2aae99fb1010a1b4757c8e36484f99 a a3⟩⟩]
   refine ADX
   .have e':EGY:=oF;rw[EC AB7 (ke _ s3 ?_)];rcases key with⟨k,J,a⟩|⟨_,ho⟩
    .exact⟨_,_,_,k,J,UG .inl List.length_append (lq 0x82ac556d0c46e9325fedcb8d59071f99 e' a)⟩
    .exact ho
   .rw[SH e' EGY A30];rcases key with⟨k,J,a⟩|⟨b5,_⟩
    .refine⟨G,_,_,k,_,rfl,s3,D3,BJ 0x18d94a651d94ea7831f97 e',J,DEE (lq 0x608ef6100a441ed122dc9011ec484f99 a),?_⟩;cases G with
     |nil=>simp
     |cons y G=>rw[D25 e'];rw[KO KJ]
    rw[HL b5 (BJ 0xa2f4953f51cce31f97 e')]
#where
structure Answer(rss:LLI)(n:Nat)(v:qI):Prop where
 len:DIN
 nn:APY
 ans:ANG
 pos:BTI
structure Least(rss:LLI)(cs:AK)(v:qI):Prop where
 an:BF5 v
 wi:AB5
 min:∀u,BF5 u->DS2->u=v
def Under.refl(v:qI):Under v v:=DZ (yO (Int.le_refl _))
def Under.trans{a b c:qI}(h:DO4)(g:Under b c):Under a c :=
 ⟨YW CB UU,λj d=>Int.le_trans (DK j (AE UU d)) (g.2 j d)⟩
def Under.eq{a b:qI}(h:DO4)(hs:b.sum<=a.sum):iR:=by
 rw[A2L ne];rw[MM (h.sum.2 ne) 6621043538546 hs]
def a5v(h:B0Y):AB5↔B3X cs.length (bU b7L A12 BTF):=by
 unfold Wi;induction cs generalizing v with
 |nil=>simp
 |cons c cs b =>
  cases v with
  |nil=>cases h
  |cons x v =>
   rw[List.zipWith_cons_cons,List.all_cons,Bool.and_eq_true,EMW];constructor
   .rintro⟨h1,h2⟩ j a;cases j with
    |zero=>exact h1
    |succ j=>exact h2 j dY
   .intro h1;rw[AQ (h1 0 AF) (λj a=>h1 JL dY)]
def b7K{c:EJ}{x y:Int}(h:EDO y)(a:B9J):EDO x:=by
 cases c with
 |none=>rfl
 |some c =>
  have:y<=c:=of_decide_eq_true h;rw[B6S (~~~c2q a this)]
def a5e(a:B0Y)(h:AB5)(c:DS2):ESY:=by
 rw[a5v a]at h;rw[UG a5v FN a];intro j b;exact b7K (h j b) (SF j (B29 a))
def c4b(h:ANG)(j:Nat):A6E v=0:=by
 unfold a3B X7;rw[lP Ans];induction rss with
 |nil=>rfl
 |cons r rss a =>
  rw[FCG (a DK) CB 0x1ba02323a2b5236]
def V0{f:qI}(a:f.length=v.length):AWR Bel f↔D7F:=by
 constructor
 .intro h;rw[KG a];rw[lP Bel];induction f generalizing v with
  |nil =>
   intro j b;rw[<-a]at b;simp at b
  |cons x f c =>
   cases v with
   |nil=>cases a
   |cons y v =>
    rw[List.zipWith_cons_cons,List.all_cons,Bool.and_eq_true]at h;intro j b;cases j with
    |zero=>rw[DE0 CB]
    |succ j=>exact c dY DK j BTE
 .intro h;unfold Bel;induction f generalizing v with
  |nil=>rfl
  |cons x f c =>
   cases v with
   |nil=>cases a
   |cons y v =>
    rw[C59];rw[List.zipWith_cons_cons,List.all_cons,c dY h2,Bool.and_true];rw[DPN]
def a0S{rss:LLI}{cs:AK}:∀(m:Nat) {u:qI},u.sum<=m->BF5 u->ESY->∃a,CTL/\Under a u
 |0,u,b,h,_=>A9S h.pos (AO8 0x1e6e0b759cd0016)
 |m+1,u,b,h,hw=>by
  by_cases d:∃t,BF5 t/\Under t u/\t≠u
  .rw[ASF t h3 d];have:=h2.sum.2 h3;rw[IJ a e c (a0S m (u:=t) (AR 0x4b11b493ae97819b3 b this) h1 (a5e h.len hw h2)) a e (c.trans h2)]
  .rw[AU u ⟨h,hw,λt f c=>Classical.byContradiction λne=>d ⟨t,f,c,ne⟩⟩ (Under.refl u)]
def b9p:∀{v:qI},C54 v->BTI->∃j,j<v.length/\1<=BTF
 |[],_,h=>eI
 |x::v,a,h=>by
  by_cases b:1<=x
  .rw[AU 0 AF BTE]
  .have h0:=AZY a;rw[List.sum_cons]at h;rw[IJ j h1 h2 (b9p (v:=v) (λy c=>a y B7Y) (AR 0x1bcbe79425cccef8f1652 h b)) JL A8P A8Q]
def c0k(h:APY)(j:Nat):DG4:=by
 rw[List.getD_eq_getElem?_getD];cases e:v[j]? with
 |none=>simp
 |some x=>simpa using MA h x e
structure WkOk(rss:LLI)(cs:AK)(F L:LLI)(k:Nat):Prop where
 wi:DV5
 bar:FP L (∀f∈F,EYQ)
 snd:∀f∈F,C71 f
 all:ASP (a.sum<=k) (a∈F)
 up:ASP (k<=a.sum) ELJ
def Wk.ok(hR:E6M)(h:oS):WkOk rss cs F L k:=by
 induction h with
 |@one L ri nd h =>
  have l:FP L (AT3 1):=λv g=>ENH a4l;have o:DV5:=λv g=>(ENH List.mem_filter.mp).2;have s:ASP (EU 1<=a.sum) ELJ:=λa b _=>by
   rw[BEO j (b9p b.an.nn b.an.pos)];rw[b.an.len]at h1;have d:C46 (T7 cs.length j):=AYK Q0 b.an.len (cJ (by
    rw[b.an.len]at hi;rw[AB8 (JC a1R hi) i]
    .rw[CG IP e h2]
    .rw[AB GA (c0k b.an.nn i)]))
   exact ES (fR h _ (List.mem_filter.mpr ⟨wT j DMU,a5e b.an.len b.wi d⟩)) d
  refine⟨o,DQ v g f m d,BH f m,EI a b hs,s⟩
  rw[F92 (AK4 m) 0x1dc2aa854b187e5a186c132]
  .rw[FII (List.mem_filter.mp m) (BZG lv.sum) (λu p d=>d.eq ?_)];rw[BX4 p.pos lv.sum c0Y]
  .rw[ZP v g (s a b (by rw[A9Y b.an.pos c0Y]))];have h1:=BY6;have:v=a:=E7L 0x17c4bd0e74772b96814a132 h1;rw[fF this List.mem_filter.mpr DSR]
 |@more F W L L' k h ne ri nd M E =>
  obtain⟨N,Z,T,i4,i5,i6,i7,i8⟩:=h.lv;have l:FP L' (AT3 BX):=λv g=>by
   rw[XV p Y CJS];exact b5s (N u p) Y
  rw[XJ y f F (f.length=cs.length/\f.sum<=k) f m (by
   obtain⟨i,q1,q2,lv⟩:=Z f (T f m).1;rw[AQ lv.len (B8N a9u q2)])]
  have s:ASP (BTR<=a.sum) (∃v∈L',D65):=λa b hs=>by
   rw[ZP v g (E.up a b (BJ 0xe67d99cb5edd7 hs))];have lv:=N v g;have J:v≠a:=λz=>by rw[<-z,lv.sum]at hs;rw[DG 235793910325 hs]
   have Q:A5J=false:=by
    cases e:A5J with
    |false=>rfl
    |true=>rw[DT (b.min v (lW lv.len lv.nn (B8N b3K i6)) d) J]
   have V:=c7v rss v a (λr X=>GT (AC4 X) b.an.len) d J b.an.ans;rw[ABE t (List.exists_mem_of_ne_nil _ V)];have C:=a6a t;have P:A6E v<0:=by
    unfold Pl at t;rw[List.mem_filter,Q,Bool.false_or,Bool.and_eq_true]at t;rw[DE0 A6I]
   have G:C46 CCV:=d.bump t;have hw:=NE a5v b.an.len b.wi j (by rw[JY b.an.len C.1]);rw[FK CCV (dH M _ ⟨v,g,j,?_,rfl,?_⟩) G]
   .unfold StP;rw[List.mem_filter,List.mem_filter,List.mem_range,decide_eq_true_eq];rw[KG ⟨AE XT C.1,P⟩];cases e:A12 with
    |none=>rfl
    |some c =>
     rw[e]at hw;have:DGK<=c:=BZ7 hw;rw[B6S (AR 0xf8c30edde7b8e C.2 this)]
   .cases e:B46 CCV with
    |false=>rfl
    |true =>
     unfold Bar at e;obtain⟨f,m,n⟩:=List.any_eq_true.mp e;rw[DDB n];have A:=(y f m).1;have B:C46 f:=GK (NE V0 (dE A K6 lv.len)) n.2 G;have:=b.min f (E.snd f m).an B;rw[GJ h2 (y f m).2 this h2];omega
  have o:FP L' AB5:=λv g=>by
   obtain⟨u,p,j,t,rfl,_⟩:=CJS;rw[AC w F7J q (b2D t)];rw[GJ hw (E.wi u p) (a5v w) hw];rw[UG a5v K6 w];intro i hi;rw[AB8 CEN i]
   .rw[IP,e];have K:=q.2.2;cases U:A12 with
    |none=>rfl
    |some c =>
     rw[U]at K;have:DGM<c:=of_decide_eq_true K;rw[B6S (~~~c1E this)]
   .rw[AB GA (mH hw)]
  have x:FP L' (∀f∈DUF,EYQ):=λv g f m d=>by
   rw[BM B9G]
   .obtain⟨u,p,j,t,rfl,hb⟩:=CJS;rw[AC w F7J q (b2D t)];have A:=(y f z).1;exfalso;rw[FO DGO (E1L u j 0)]
    .have:AY (B46 BA7):=by
      unfold Bar;exact List.any_eq_true.mpr ⟨f,z,by rw[Bool.and_eq_true];rw[AQ A22 (dH V0 XT d)]⟩
     rw[AW this hb hb]
    .have B:Under f u:=AYK A w (cJ (by
      rw[GJ h1 (iV i (B71 hi)) CEN h1];rw[BI S i j]
      .subst S;rw[CEN,EK]at e;rw[EK]at h1;rw[FX 0x149c8a5cad62c9d490552372 e h1]
      .rw[BD S]at h1;exact h1))
     rw[AC h2 (E.bar u p f z B) K (c4b (T f z).2 j)];rw[h2]at K;omega
   rw[F92 C0X 0x1dc2aa854b231a3ca9a39b3]
  have H:ASP (a.sum<=BTR) (a∈DUF):=λa b hs=>by
   by_cases h1:a.sum<=LW
   .exact UX (DXV h1)
   .rw[ZP v g (s a b (B7P 0x1935b87b52fcb97))];have h2:=BY6;have:v=a:=E7L 0x17c4bd0e7481c77912819b3 h2;rw[iF];exact fM (List.mem_filter.mpr DSR)
  refine⟨o,x,BH f m,H,s⟩;rw[BM B9G]
  .exact E.snd f z
  .rw[FII BQ3 (B8N lq 21541609533277) (EI u p d)];rw[A2L R];have D:=d.sum.2 R;rw[lv.sum]at D;rw[ABC b I (a0S (rss:=rss) (cs:=cs) u.sum.toNat (by rw[KR p.pos]) p (a5e lv.len D5T d))];rw[AC hs I.sum.1 O (DXV (AR 0x4b11b3f9c091529b3 D hs))];have:=x f hf1 a (UX O) (I.trans d);rw[this,lv.sum]at hs;rw[FX 0x385c7151a7fa6997 D hs]
def Wk.least(hR:E6M)(h:eH)(v:qI):v∈F↔C71 v:=by
 have o:=h.ok hR;rw[EC (o.snd v) (LR a)];by_cases hs:v.sum<=LW
 .exact o.all v a hs
 .obtain⟨u,hu,_⟩:=o.up v a (BJ 0xe67d9ecb9cb97 hs);cases hu
def Wk.nd{rss:LLI}{cs:AK}{F W L:LLI}{k:Nat}(h:oS):W.Nodup/\F.Nodup:=by
 induction h with
 |@one L ri nd h=>rw[AQ nd EB2]
 |@more F W L L' k h ne ri nd f d =>
  obtain⟨l,m,n,p,q,r,s,w⟩:=h.lv;have a:FP W (∀u∈L',v≠u):=λv c u b e=>by
   obtain⟨i,x,o,lv⟩:=m v c;obtain⟨t,g,j⟩:=XC f u b;have:=(b5s (l t g) j).sum;rw[<-e,lv.sum]at this;rw[QE 0x111ffe3dcf3736bd6 o]
  rw[EC (DLK XT nd a) (DLK iV EB2 (λv c u b=>a v (nE n c) u CAT))]
def S5:FHW
 |[],[],_,_,_,_,_=>rfl
 |[],A2G,_,_,_,_,h=>F30
 |iY,[],_,_,_,_,h=>F2Z
 |iY,A2G,ra,rb,na,nb,h=>by
  rw[FLZ (by
   rw[EYV]
   .rw[EZ5]
    .rw[AZ z I9 y]
    rw[vZ i]
   .rw[EZ6]
    .rw[AZ z I9 x]
    .exact k y z)]
  rw[FDS S5]
  .rw[EQW]
   rw[oR z hv f]
   rw[NT]
  .rw[F3Y]
   rw[oR z hv c]
   rw[NT]
section
variable {K:qF}
def b7x(n:Nat)(v:V):rT n [v]=CT3 v:=by
 induction n with
 |zero=>rfl
 |succ n a=>rw[F5T]
inductive IspFree(vs:A0)(H:Hp)(Q:VK)(E:XK):Prop
 |mk (n:Int) (_:AOC n) (_:0<=n) (_:TB) (_:DYS (kH (xD n.toNat (none:EJ) map) cV)):HF IspFree
noncomputable def a5D:Sp:=IB IspFree
def c4J:CJB b2T:={}
def c5L(F:C78 "free" b2T):AT5:=by
 rw[BO c4J b a g]
 rw[CLR n]
 .rw[FJZ c9V (BN L6)]
  rw[FKS [.non]]
  rw[EC5]
  rw[F8B b7x (UH e List.map_replicate)]
#where
#where
section
variable {w:Str}
noncomputable def D7(x:Int):Str:=AMD
noncomputable def Sz(xs:qI):Prop:=dL C9X
noncomputable abbrev bk:Str:=pV 32
noncomputable abbrev lf:Str:=pV 10
def B7(x y:Str):lH x y=x.length+y.length:=by
 show(x++y).cps.size=_;rw[Str.cps_append,Array.size_append];rfl
def M7{c B:Nat}:CL3 (CD8) KW ((B+1))
 |[],_=>GH
 |US,h=>by
  rw[CNO ((B+1))]
 |oM,h=>by
  rw[SQ A7K (BFJ (M7 (c:=c) (ys:=kT)))];show IW EQU<=_;rw[B7,B7,ABJ ((KW:Str).length=1),List.length_cons,Nat.succ_mul];rw[ADQ 0xaefa8c1b15b8bb7d5d8]
def X0{x:Int}(h:C9X):EH D7 x<=60:=DG7
noncomputable def vt(xs:qI):Str:=sJ bk xs.map D7
noncomputable def ln(w:Str)(xs:qI):Str:=LI (w::B3G)
def a5w{xs:qI}(h:B94)(a:AQG):EH vt xs<=488:=by
 rw[ACJ (BC M7 c 32 B 60 (ys:=B3G) (λy d=>ELW d (h x b)))];rw[A1Z this (show xs.length*61<=8*61 from BNO a _)]
def b1s{c d:Nat}:∀{ys:AA},d≠c->DF y ys (d∉y.cps.toList)->d∉CFC ys
 |[],_,_=>DSK
 |US,_,h=>A7K
 |oM,hd,h=>λa=>by
  rw[a1D]at a;rw[OZ A8L]
  .exact h x List.mem_cons_self q
  .rw[OZ (List.mem_cons.mp q)]
   .exact hd q
   .exact b1s (c:=c) hd DRC q
noncomputable abbrev wL:Str:=⟨#[108,101,97,115,116]⟩
noncomputable abbrev wS:Str:=⟨#[115,116,101,112]⟩
noncomputable def lns(A B:LLI):AA:=A.map (ln wL)++B.map (ln wS)
noncomputable def pt(A B:LLI):Str:=Str.join lf (lns A B)
section
variable {K:qF}{α:Type}{src:NQ}{σ caps:L2.St}{Q:VK}{a:qE}{vs:A0}{as:CJ}{H:Hp}{te:TE}
def a1X(f:A37)(hz:ABY)(g:E3Y)(b:E7O)(c:YC)
  (d:FLI) (hd:DYM):A8A AD0:=by
 refine R8 (xs:=vs) hz (dP (ys=FW as.take i f)) zU (NM ys BGM) ?_ ?_
 .rw[FEY]
  rw[FJL]
 rw[FEK]
def V2(f:A37)(hz:ABY)(g:E3Y)(b:E1S)(c:YC)
  (d:FLI) (hd:DYM):C9T:=by
 refine S7 (xs:=vs) hz (dP (ys=FW as.take i f)) zU (NM ys BGM) ?_ ?_
 .rw[FEY]
  rw[FJL]
 rw[FEK]
#where
noncomputable abbrev topN:Int:=1000000000000
noncomputable abbrev wd(s:String):Str:=OG s
noncomputable def isNm(w:Str):Prop:=1<=w.length/\DPL/\DRO CJW
structure Nms(ns:AA):Prop where
 nd:ns.Nodup
 nm:∀n∈ns,C31
noncomputable def R1(s:BEN)(w:Str):BEN:=if w=wd "+" then(CGZ,[])else(s.1,s.2++[w])
noncomputable def prt(ws:AA):FB:=let s:=AHR ws.foldl [];CGZ
noncomputable def Wok(w:Str):Prop:=B7R w.cps.all/\w.length<=10000
def b8q(h:DRO (c<128))(b:AJP w.length):Wok w:=⟨by
 rw[AB Array.all_eq_true' (λc a=>decide_eq_true (h c dY))],b⟩
noncomputable def ovI:DNE
 |ZH=>B79
 |none=>.non
section
variable {P:qG}{w:World}{K:qF}{mg:BF}{base:Heap}
noncomputable abbrev fgs:Str:=OG "0123456789"
noncomputable abbrev lts:Str:=OG "abcdefghijklmnopqrstuvwxyz"
def c6T(c:Nat):AYY↔D8J:=by
 have e:fgs.cps.toList=List.range' 48 10:=by rw[pN]
 rw[EIH]
def c5U(c:Nat):c∈lts.cps.toList↔CJW:=by
 rw[E6C (List.range' 97 26)]
 rw[EIH]
def b0H{σ:L2.St}{src:NQ}{Q:VK}{x z:Str}{H:Hp}{te:TE}(b:AXS 10000)(a:∀c H' (N:VK),N (BJ5 BAC) H'->te (APT (AGZ KW)) H' N)(h0:∀v,CSI BS7)
  (hd:AGS (x.cps.toList.map λc=>A01 BAC)):A8A C22:=by
 rw[LH d]
 refine b7J (x:=x) (by rw[iU (x.length<=_) 0x14cf7f69699144a231d1f70b826 b d]) (OM ys (H'=H/\ys=FW x.cps.toList.take i λc=>A01 BAC)) (DZ AF) (B5I (EGZ lA)) ?_ ?_
 .rintro i c ys H' hc ⟨rfl,rfl⟩;rw[EC (h0 _) (a c _ _ vK)];rw[D23 hc];rw[BW4 hc]
 .rintro ys H' ⟨rfl,rfl⟩ p hp;rw[show x.cps.size=x.cps.toList.length by rw[Array.length_toList],List.take_length];exact hd p hp
def a8x(l:HW)(p:jD):EO1 trV=l.all p:=by
 rw[List.all_map];rfl
def a6M(l:HW)(p:jD):BTH EO1:=by
 rw[BHF]
noncomputable def Bd7:AA:=[BT8,A7D,BO2,BO3,BO1,rW,yG]
noncomputable def NoNum(w:Str):Prop:=DTO∨w=wd ""∨w=wd "01"
def NoNum.wok{w:Str}(h:B9P):B7R w.cps.all/\DPL/\D4F:=by
 rw[A1Y k (GR Bd7 (B7R y.cps.all/\A5O 8/\BV0))]
 rw[B6J h h rfl]
 .exact k w h
 .rw[RC]
 .rw[RC]
def c7a{w:Str}(h:DTO):EL8 w.cps.toList.all:=by
 rw[A1Y k (GR Bd7 (EL8 y.cps.toList.all))]
 exact k w h
inductive spIsW(vs:A0)(H:Hp)(Q:VK)(y_3:XK):Prop
 |mk (w:Str) (b:Bool) (_:DR1) (_:((A9X/\fW n (EWA/\BDA<=10000))∨(b=false/\B9P))) (_:A1K b):HY spIsW
def a7m:ELF a0z:={}
def b7B(n:Nat):EDF AOK∨(AOK≠OG "" /\ ∃c,DKM/\atI ARY 0=some c):=by
 rw[CEY]
 rw[GX (AE a b7A)]
 .rw[AHF (HJ (λe=>a3u n DN6))];rw[AC b (a8m n (aM 0x9c8eb1be6da6125)) d DI3];cases e:ARY with
  |nil=>rw[DT e d]
  |cons c r =>
   rw[e]at b;rw[AU c (λz=>b (by rw[z];rfl)) ASB]
def dq0{c:Nat}(h:DKM):uL (EG (A9B KW "0")):=by
 rw[eR decide_eq_false z]
 .rfl
 .rw[CGM]
  have a:[c]=[48]:=WQ (λt:Str=>t.cps.toList) z;injection a with a
  exact h a
def d0j{n:Nat}(h:BBC 10000):Wok (E9 n):=b8q (λc a=>by have:=W9 n c a;rw[DG 0x254cbe63e13aeea5 BZQ]) h
def a7w{x:Tok}(F:XI "is_written" a0z "word")(T:AV)(a:CQ mg "FIGURES" (.str fgs x)):EPV:=by
 rw[BO a7m q l B]
 rw[TJ w b]
 .rw[QP w b rfl hw k];rw[LH m]
  have d:Wok w:=by
   rcases hw with⟨_,n,rfl,e⟩|⟨_,g⟩
   .exact d0j e
   .rw[CGG g.wok];rw[AQ h1 DX9]
  rw[BU (A3 (A45 (FAN (EKM
 DPF) (AWG "0123456789"))
 jC
 B6)
 (FH (d1v (BQH a1A) (a3o (ADW (BQH c7Q) (c7Q (AJD c7S) B4))))))]
  refine AF9 _ XT;refine HU (FDI fgs iV r fgs r) p u;rw[JK k (LZ (A7E (o:=DW (w.cps.toList.map λc=>A01 AYY)) u)) (F5M p DF6)];rw[a8x];rcases hw with⟨rfl,n,rfl,e⟩|⟨rfl,g|rfl|rfl⟩
  .rw[List.all_eq_true.mpr λc t=>EMP c6T (W9 n c t)];rw[VE (XQ ?_)];rcases b7B n with z|⟨z,c,h1,h2⟩
   .rw[AZ (decide_eq_true (by rw[z])) D6 k]
   .refine X5 (D2 k) mJ;rw[ACZ];rw[GG (decide_eq_false λy=>z (V.str.inj y)) D6 (EQJ c (~~~c0P m e) h2)];rw[AB (dq0 h1) k]
  .rw[c7a g];exact DJ (D6 k)
  .rw[FJ0 "" DR7];rw[AZ (DZA (! lG DR7 DL8)) C1 k]
  .rw[FJ0 "01" DR8];rw[GG (show uL (lG DR8 DL8) by rw[RC]) D6 (EQJ 48 (DD5 iV c0P m) ASB)];rw[AB (DZA (! EG (A9B (pV 48) "0"))) k]
inductive spRF(vs:A0)(H:Hp)(Q:VK)(y_3:XK):Prop
 |mk (w:Str) (m:Nat) (o:EJ) (_:QA B39 AA2) (_:m<=600) (_:((fW n (o=some EV/\EWA/\BBC m))∨(o=none/\B9P/\13<=m))) (_:EI5):HY spRF
def a4M:wB "word" "most" "word" "most" V6:={}
def a4T(F:ZM "read_figures" V6 "word" "most")(T:AV)(a:EPV):FAJ:=by
 rw[BO a4M i d j]
 rw[AEF w m o]
 .rw[SO w m o rfl hm ho k];rw[BU (A3 (CMR a1z (Y5 ELV (jv 1)) a0K E6Y
 DHL
 B6)
 (FH (AAH c6A T.b_int)))]
  rw[LH g]
  rcases ho with⟨n,rfl,rfl,b⟩|⟨rfl,e,c⟩
  .rw[FKW (~~~lq 0x246d55afe9f56c64421e998d7fe7 hm g b) (nO (BSS (¬(UI<BG BDA)) c1n b)) AOK true (ED (JZ rfl n (AR 0x218aebdfecbcd89ae1bfe6 hm b))) (C1 (tM _ rfl _ EV (AR 0xbb94b3a9dab14e1bfe6 hm b) (b4k (AR 0x22f55091002ec333e1bfe6 hm b)) ELN))]
  .rw[CGG e.wok];rw[FKW (A2B 0x2363502a39b6fdbeae0ede h2) (nO (show ¬(UI<BG w.length) by rw[FX 0xa2f4a73e86bbad8f2e c h2])) w false (DC (DZ e)) F7P]
noncomputable def RdW(w:Str)(o:EJ):Prop:=(∃x:Int,o=some x/\w=D7 x/\RJ/\eF)∨(o=none/\B9P)
inductive spRN(vs:A0)(H:Hp)(Q:VK)(y_3:XK):Prop
 |mk (w:Str) (o:EJ) (_:QA B39 CRM) (_:CJM) (_:EI5):HY spRN
def sc_read_number:DA (BK5 "top" "number") ["word","top"] Z5:={}
def a6g(F:ZM "read_number" Z5 "word" "top")(T:AV)(a:FAJ):BHV:=by
 rw[BO sc_read_number e c l]
 rw[TJ w o]
 .rw[QP w o rfl ho k];rw[LH d]
  have b:BO7 1000000000000=13:=by
   have h1:DQF 13:=B27 BXC;have h2:¬DQF 12:=λz=>rL (NE a1H AH) z AH;omega
  rw[BU (CA 2 sc_read_number.nd (mY l.mono (A2K (AWE a9K T.b_len (CHI IV))))
 (A3 (ER7 (gO Y5 U3)
 DHL
 B6)
 ARU))]
  rcases ho with⟨x,rfl,rfl,g,h1⟩|⟨rfl,j⟩
  .have h1:x<=1000000000000:=h1;refine FLJ _ ZH (ED (JZ x.toNat (WO (Int.toNat_of_nonneg g)) DG7));rw[BBA];rw[ACZ];rw[GG DX2 C1 (F3Q _ rfl)];rw[AZ (nO (ABI (¬(BG 1000000000000<x)) 0x3e0dcd8bd8646e4d29ef7524589666f1ce19960e3bb32bda2a16 h1)) C1 (DJ ELN)]
  .refine FLJ w none (DC (eX j AH));rw[BBA];exact IE F7P
inductive spNm(vs:A0)(H:Hp)(Q:VK)(y_3:XK):Prop
 |mk (w:Str) (_:DR1) (_:isNm w) (_:DT5):HY spNm
def b2L:ELF a3K:={}
def isNm.ok{x:Str}(h:BPZ):Wok x:=b8q (λc a=>by have:=nF c a;rw[DG 0x254cbe63ea771625 BZQ]) (by rw[A9Y XM b3q])
def b3d{n:Tok}(F:XI "is_name" a3K "word")(T:AV)(a:CQ mg "LETTERS" (.str lts n)):EPW:=by
 rw[BO b2L d b o]
 rw[CLR x]
 .rw[XG x rfl hx k];rw[DI h1 h2 e id hx];rw[LH m]
  rw[GL (ADW (c6o A7 ELV A7) (FAN (EKM
 DPF) (AWG "abcdefghijklmnopqrstuvwxyz")))]
  refine⟨_,rfl,_,rfl,AO6 0x238079d3484c5f55bdd926 m,_,_,rfl,rfl,_,rfl,?_⟩;rw[GG (dR (show CB4 x.length by exact a9x h1)) D6 B4P];rw[GG (dR (show DEB<=8 by rw[DG 0x7fd6ae585125 h2])) D6 (AF9 _ hx.ok.1)];refine HU (FDI lts DX9 g lts g) p l;rw[BHX DF6];rw[CG a8x (List.all_eq_true.mpr λc j=>EMP c5U (e c j)) (LZ (AM6 H l))]
#where
#where
section
variable {H:Hp}{L:FB}{b:qE}{j:Nat}{ns:AA}{x:Int}{ys:qI}
noncomputable def Lsts(H:Hp)(gs:EW)(L:FB):Prop:=gs.length=L.length/\dQ a qE (CC gs a) (∃l:AA,CC L l/\ZA DH9)
def Lsts.same{H':Hp}{b:EW}(h:B2C b L)(s:BL):Lsts H' b L:=F98 C2V
def Lsts.put{c:EW}{o:HO}(h:E8A)(d:b∉c):Lsts (rH b) c L:=F98 (AE (A6 λz=>d (by rw[ECQ z])) e2)
def Lsts.snoc{c:EW}{l:AA}(h:E8A)(d:A60 DH9):B2C (c++[b]) (L++[l]):=by
 rw[CM4 C45 (QH a ?_) c.length]
 rw[CKE f (xW a) f]
 .rw[CAB];have:i-c.length=0:=by
   rw[A7W A3K]
  rw[GM this];rw[AU l (EBU this) d]
structure PrtI(H0 H:Hp)(g:qE)(D:FB)(c:AA)(ds:EW)(cu:qE):Prop where
 hg:TY g (EWX cu)
 hd:B2C ds D
 hc:ID cu (JR c.map)
 nd:cu∉ds
 ng:g∉ds
 gc:g≠cu
 fg:FD H0 g
 fc:FD H0 cu
 sm:Same H0 H
def b0g{γ:Type}(f:A3H)(g:C9V):F6Z
 |[],_=>rfl
 |EY,[]=>rfl
 |EX,HX=>COC b0g
def a1S(a b c:Str):a++b++c=a++(b++c):=Str.ext' (by rw[Str.cps_append,Str.cps_append,Str.cps_append,Str.cps_append,Array.append_assoc])
def N1(s x y:Str)(r:AA):Str.join s oM=EQT:=rfl
def a0k{s:Str}:∀{a b:AA},B8R->B8B->Str.join s (a++b)=Str.join s a++s++bH s b
 |[],_,h,_=>A43
 |US,b,_,h=>by
  cases b with
  |nil=>rw[DT rfl h]
  |cons y r=>rfl
 |oM,b,_,h=>by
  show x++s++bH s ((kT)++b)=(EQT)++s++bH s b;rw[a0k DD4 h];rw[C05]
noncomputable def O7:FB->AA
 |[]=>[]
 |[t]=>t
 |A3B=>ASE
noncomputable abbrev wplus:Str:=OG " + "
def b0V:∀{ts:FB},C42->CC2->HH BAJ
 |[],h,_=>A43
 |[t],_,h=>wK
 |A3B,_,h=>λz=>by
  have:t=[]:=(List.append_eq_nil_iff.mp z).1;exact h t List.mem_cons_self this
def a8f:∀{ts:FB},CC2->Str.join wplus (B4V ts.map)=sJ bk O7 ts
 |[],_=>rfl
 |[t],_=>rfl
 |A3B,h=>by
  have c:=ER1 a8f;have b:HH BKQ:=BXJ (b0V (by rw[kP]));show LI t++wplus++bH wplus (B4V (FE AFD))=LI ASE;rw[c,a0k wK (by rw[kP])];cases e:BKQ with
  |nil=>rw[DT e b]
  |cons y q =>
   rw[N1];have:wplus=bk++(B1D "+"):=CV
   rw[this];rw[C05]
def a9c:∀(t:AA) (s:BEN),CKP->t.foldl R1 s=(s.1,s.2++t)
 |[],s,_=>AF
 |vJ,s,h=>by
  rw[List.foldl_cons,a9c r _ λz=>h AYQ];have:R1 s x=(s.1,s.2++[x]):=by
   rw[FY R1 (B8U (B4B h))]
  rw[L1 this]
def a7V:∀(ts:FB) (D:FB),C42->B10 CKP->(let s:=AHR (AIW O7 ts) D;CGZ)=D++ts
 |[],_,h,_=>A43
 |[t],D,_,h=>by
  rw[EYA t.foldl t.foldl];rw[a9c t _ wK];rfl
 |A3B,D,_,h=>by
  have b:=BXJ (a7V AFD EEI (by rw[kP]));rw[EYA EYJ EYJ];rw[List.foldl_append,a9c t _ wK,List.foldl_cons];have:R1 (D,[]++t) (wd "+")=(EEI,[]):=by
   rw[FY R1 EK];simp
  rw[this];refine Eq.trans b ?_;simp
def b9m{ts:FB}(h0:C42)(h:A9M ts CKP):prt (O7 ts)=ts:=by
 rw[T6 (a7V ts [] h0 h) List.nil_append]
def isNm.ne{n:Str}(h:C31)(x:Str)(b:∃c∈x.cps.toList,c<97):n≠x:=λz=>by
 rw[ZL a h1 b];have:=nF c CEC;rw[FX 0x620760470a3262465 h1 AN6]
noncomputable def tmW(x:Int)(n:Str):AA:=if x=1 then[n] else EC2
noncomputable def psW(ys:qI):DRW:=WF ys.zipIdx.filter q y3
noncomputable def tmP(ns:AA)(q:B99):AA:=if A0C CS then[D4N] else tmW CZ (ns.getD CS bk)
noncomputable def a0q(ns:AA)(ys:qI):FB:=FW psW ys (tmP ns)
noncomputable def E1(ts:FB):AA:=if ts=[] then ADN else BAJ
noncomputable def a5S(ns:AA)(ys:qI):AA:=BX7 CCD (B1N EYW)
noncomputable def Bds(xs:qI):Prop:=dL (-topN<=x/\x<=topN)
def Bds.neg{xs:qI}(h:A2R):Bds nV:=λy d=>by
 rw[FT x c d];obtain⟨a,b⟩:=h x c;rw[BX0]
def d0N(x:Int)(n:Str):HH BEY:=by
 unfold tmW;split<;>intro z<;>cases z
noncomputable def Tm(ns ws:AA)(j:Nat)(x:Int):Prop:=(∃n,EG1/\ws=BEY)∨(j=ns.length/\ws=[sB])
def Tm.ne{a:AA}(h:Tm ns a j x):B8R:=by
 rcases h with⟨n,_,rfl⟩|⟨_,rfl⟩
 .exact d0N x n
 .exact BZ List.cons_ne_nil
def d0l{y:Str}(b:DUH DM8):E49:=λz=>by
 rw[ZL a h1 b];exact h1 (W9 x.toNat c (by show DNQ;rw[JY z a]))
def d0k(b:QZ)(x:Int):sB∉ns:=λz=>by
 rw[CGB (b.nm _ z)];cases e:D8P with
 |nil=>exact a3u _ e
 |cons c r =>
  rw[FZ a DNQ e List.mem_cons_self]
  have:=h2 c a;rw[KR E8N]
def Tm.out{d:AA}(e:QZ)(h:Tm ns d j x){y:Str}(b:DUH (c<97/\DM8)):y∉d:=by
 have a:E49:=d0l (let ⟨c,h1,_,h2⟩:=b;EMJ);rw[CLV h f]
 .have hn:y≠n:=λz=>(e.nm n (List.mem_of_getElem? f)).ne y (let ⟨c,h1,h2,_⟩:=b;EMJ) z.symm;rw[dU tmW]
  rw[DHG hn]
  .rw[List.mem_cons,List.mem_singleton];rintro(z|z)
   .exact a z
   .exact hn z
 rw[DHG a]
def b9k(b:ARB){q:B99}(h:q∈psW ys):0<CZ/\CZ∈ys/\Tm ns (tmP ns q) CS CZ:=by
 rw[IM (List.mem_filter.mp h)];rw[AC a (List.mem_zipIdx_iff_getElem?.mp h1) hi DX6];rw[OU (of_decide_eq_true h2) (List.mem_of_getElem? a)];unfold tmP;rw[BI c CS ns.length]
 .rw[AZ jE .inr (UP c)]
 .rw[BD c];have e:=List.getElem?_eq_getElem (show CS<ns.length by exact lq 0x7f6248cec7f0c78ec0f02a0ed7 b hi c);rw[A9U (ES e (B9K e))]
def a8D{ns:AA}{ys:qI}(a:ARB){t:AA}(h:t∈AR0):∃j x,nH/\x∈ys/\CL1 t:=by
 rw[FT q b h];exact ES _ (b9k a b)
def c3p(b:QZ)(d:ARB)(h:HH AR0):prt (E1 AR0)=AR0/\CCD≠ADN:=by
 have a:=λt=>@a8D ns ys d t;rw[FY E1 oJ];generalize AR0=f at h a;rw[EC (HU (b9m h) t m) ANZ]
 .obtain⟨j,x,_,_,q⟩:=a t m;exact q.out b (CIO 43)
 .match f,h with
  |[t],_ =>
   obtain⟨j,x,g,_,q⟩:=AWC a;have z:t=ADN:=z;rw[CLV q c]
   .rw[AZP tmW z z]
    .rw[CGM]
     exact(b.nm n (List.mem_of_getElem? c)).ne _ (CIO 48) z
    rw[HL (WQ List.length z) AF]
   .rw[CGM]
    exact a8m x.toNat AD (XA (show E9 x.toNat=wd "0" from z))
  |A3B,_ =>
   have e:0<t.length:=by
    obtain⟨_,_,_,_,q⟩:=AWC a;exact List.length_pos_iff.mpr q.ne
   have z:=WQ List.length (show ASE=ADN from z);rw[List.length_append,List.length_cons]at z;simp at z;rw[FX 0x99530036f36af526dc5e e z]
def b0U{y:Str}(a:y≠wd "+"):∀{ts:FB},B10 (y∉t)->y∉BAJ
 |[],_=>QJ
 |[t],h=>wK
 |A3B,h=>λz=>by
  rw[mQ (A9L (show y∈ASE from z))]
  .exact h t List.mem_cons_self z
  .rw[BM uA]
   .exact a z
   .exact b0U a (λx b=>h x y0) z
def b1N(a:QZ)(b:ARB):wd "="∉CCD:=by
 rw[dU E1]
 .rw[bA List.mem_singleton]
 .refine HU (B27 b0U) t m;obtain⟨j,x,_,_,q⟩:=a8D b m;exact q.out a (CIO 61)
noncomputable def a2p(t:qI)(q:B99):qI:=t.set CS (t.getD CS 0+CZ)
noncomputable def a7p(x:Int):Int:=if B8T then x else 0
def b2j:∀(xs pre:qI),(AUX xs.zipIdx pre.length q y3).foldl a2p (pre++AYX)=pre++A5A a7p
 |[],pre=>rfl
 |vJ,pre=>by
  have a:=b2j r (pre++[a7p x]);rw[List.length_append,List.append_assoc,List.append_assoc]at a;rw[ECA List.length_cons List.replicate_succ];refine Eq.trans ?_ a;unfold a7p;rw[nZ B8T]
  .rw[ARH,IP,List.foldl_cons];congr 1;rw[B69 a2p];rw[C0M BV,List.getD_eq_getElem?_getD,AP0,Nat.sub_self];simp
  .rw[AOM,GA];rfl
def d1W(a:ARB):AIW psW ys a2p APJ=ys.map a7p:=by
 rw[<-a];exact b2j ys []
def c4d(ps:DRW):∀t:qI,KQ ps.foldl a2p t=t.length:=by
 induction ps with
 |nil=>intro t;rfl
 |cons p r a=>intro t;rw[F2 List.foldl_cons a List.length_set ..]
def b5W:∀ys:qI,List.zipWith (λa b:Int=>a-b) (ys.map a7p) (FE EYW a7p)=ys
 |[]=>rfl
 |vJ=>by
  have:a7p x-a7p (-x)=x:=by
   unfold a7p;split<;>split<;>omega
  rw[List.map_cons,List.map_cons,List.map_cons,List.zipWith_cons_cons,b5W r,this]
def d0d(h:ns.Nodup){n:Str}(c:EG1):uX j (KN (DJE).any ((· == n))):=cJ (by
 obtain⟨a,b⟩:=DJL;rw[AB (List.getElem?_eq_getElem (Nat.lt_trans hi a)) (beq_eq_false_iff_ne.mpr λz=>List.pairwise_iff_getElem.mp h i j (Nat.lt_trans hi a) a hi (z.trans b.symm))])
section
variable {P:qG}{w:World}{K:qF}{mg:BF}{base:Heap}
inductive spPrt(K:qF)(vs:A0)(H:Hp)(Q:VK)(y_3:XK):Prop
 |mk (p:qE) (ws:AA) (_:oN) (_:DPA) (_:CAP) (_:∀g gs H',SA g (kF gs.map V.ref)->Lsts H' gs (prt ws)->BL->AUW g):AS2 spPrt
def sc_parted:cI ["words","groups","word"] "words" a5J:={}
def c4Y(a:AA):∀s:BEN,QT (EJQ).1+QT (EJQ).2<=DML+DMK+a.length:=by
 induction a with
 |nil=>intro s;rw[DO3]
 |cons w r b =>
  intro s;have:=b (R1 s w);have h1:QT (EFG).1+QT (EFG).2<=DML+DMK+1:=by
   unfold R1;split<;>simp<;>exact lq 0x6670fb787dd6
  rw[CG List.foldl_cons List.length_cons (lq 0x233e7d439f09329df202a111a1e43a0d9b this h1)]
def b6T(F:XI "parted" a5J "words")(T:AV):F1O:=by
 rw[BO sc_parted R M W]
 rw[TJ p ws]
 .obtain⟨p,ws,rfl,hp,hl,k⟩:=h;rw[LH J]
  rw[BU (gR 1 sc_parted.nd E4 DRI
 (A3 (BB4 2 sc_parted.nd
 (A5 (C3 (gO K3 B4)
 (oU 1 DRI)
 (A5 (D5 (E8 K CDK JJ))))))
 (BN3 1)))]
  rw[EC GH (λr u=>nP (BBY J) g v)];rw[FF];have m:g≠r:=λz=>by subst z;rw[AW A2 v v]
  have D:EN g:=by rw[iE (A6 m) v v]
  rw[BBK s1 (GO (C77 r) g [V.ref r]) u v (aH p AOU)];refine VF O5 p AYS (OM σ (∃o ds r,σ=ED1 o/\PrtI H H' g (CFQ).1 (CFQ).2 ds r)) (GZ none [] r ⟨A2,DZ (QH a ((by rw[CI]))),EHK m.symm,(QJ),(QJ),m,D,u,s1⟩) (E8U U I U (AG I.sm hp)) ?_ ?_
  .rintro i x σ H1 hx ⟨o,ds,cu1,rfl,I⟩;rw[A3Q hx d hw hx];have hi:=LX hw;have G:D0D AM=R1 (AIW ws.take i R1 DNA) d:=by
    rw[DV2 hw]
   have c:=c4Y (ws.take i) DNA;rw[G];generalize CFQ=st at I c⊢;have c:QT dS+QT iL<=i:=by
    have:=List.length_take_le i ws;rw[DDH c];rw[QE 0x6d3ede688338beff4802b198 c]
   have C:=I.hd.1;rw[CF (IE lN)]
   .injection oF with e
    refine⟨_,rfl,OW I.hg,GH,BH n q⟩;have L:n≠g:=λz=>by rw[S1 z I.hg q q]
    have O:n≠cu1:=λz=>by rw[S1 z I.hc q q]
    have nd:n∉ds:=λz=>by
     rw[ABE S DHI];obtain⟨l,_,e2⟩:=I.hd.2 j n S;rw[iH q q]
    rw[FGS (LC g _ _ rfl (GI L.symm I.hg) (by simp;exact lq 0x1a4d00fe3177fc4a6cebfce656c1033063bcf5a699d1f70b82a hl J hi c C) ?_) EEK n (dS++[iL],[]) IP]
    rw[y];have N:EN n:=I.sm.free q;refine⟨CD4,?_,EHK L,?_,?_,L.symm,I.fg,N,?_⟩
    .rw[LV Lsts.put (Lsts.put (I.hd.snoc I.hc) ?_)]
     rw[BHM nd O]
     rw[BHM I.ng I.gc]
    rw[BHM nd O]
    rw[BHM I.ng I.gc]
    .intro b o' t;rw[CG (A6 (CGE g I.fg)) (A6 (CGE n N)) DX0]
   .rw[SH e (d=wd "+") CK2];have B:atI (EWX cu1) (-1)=BK V.ref cu1:=by
     exact BZ a1L
    rw[FGS ⟨_,rfl,_,rfl,g,_,_,_,rfl,rfl,DP I.hg,B,OW I.hc,_,rfl,cu1,_,_,rfl,rfl,I.hc,by simp;exact lq 0x13360ca9beacf17fd4d949fb18fd4eb9a699d1f70b829 hl J hi c,?_⟩ ds cu1 (dS,iL++[d]) GA]
    rw[y];refine⟨GI I.gc I.hg,I.hd.put I.nd,CD4,I.nd,I.ng,I.gc,I.fg,I.fc,?_⟩;intro b o' t;rw[AB (A6 (CGE cu1 I.fc)) DX0]
  .rintro σ H1 ⟨o,ds,cu1,rfl,I⟩;rw[C7M I];rw[A2F];refine k g EEK H1 ?_ (I.hd.snoc I.hc) I.sm;rw[C2S I.hg]
def b2a(ys:A0):BFO ys (-1)=ys.dropLast:=by
 rw[ELM ys.length ys.length (by
  rw[B69 HT.sIx];rw[KO A90])]
 rw[e,HT.sIx_none,List.drop_zero,Nat.sub_zero,List.dropLast_eq_take]
def a9P(x:Str)(xs:AA):aB (AM8 V.str (VZ xs.map)) YA:=by
 unfold inV;rw[List.any_map,Bool.eq_iff_iff,List.any_eq_true,decide_eq_true_iff];constructor
 .rw[tY y hy];have:y=x:=B1Y eqV e
  rw[JY this hy]
 .intro h;rw[AU x h DJC]
def a0m(xs:AA):EO (xs.map V.str).all K5:=by
 rw[BHF]
inductive spRT(vs:A0)(H:Hp)(Q:VK)(y_3:XK):Prop
 |mk (nt p:qE) (ns ws:AA) (j:Nat) (x:Int) (_:CHB) (_:A3M) (_:DPA) (_:CL1 ws) (_:QZ) (_:dD ns.length) (_:nH) (_:eF) (_:B3B a (fK a (fG j B79)) C75):HY spRT
def sc_read_term:D7X ["names","words","place","figures","number"] a1f:={}
def d0e{K:qF}{l:Str}:∀(j:Nat) (z:V),IZ ((VZ ns.map)) z->EqV K H 0 z (V.str l) ((ns[j]?).any (· == l)):=λj z a=>by
 rw[List.getElem?_map]at a;rw[dJ y b (Option.map_eq_some_iff.mp a)];rw[AB b (EqV.flat rfl rfl)]
def a9h{D:Tok}(F:CI7 "read_term" a1f)(T:AV)(c:BY3 D)(a:BHV):F1T:=by
 rw[BO sc_read_term y o t]
 rw[pC nt p ns ws j x]
 .obtain⟨nt,p,ns,ws,j,x,rfl,hn,hp,hT,hN,hnl,hx0,hx1,k⟩:=h;have C:=t.u60;rw[LH u]
  rw[BU (DNK APF
 (gR 3 sc_read_term.nd jv 1
 (A3 (AEB E69 (BD6 CDK DY)
 (DNK (b7o K C DY (BN CDK))
 (B7W 3 sc_read_term.nd (a6F E69 (AZ6 J2 CK3) (E4 lB))))
 B6)
 (A3 (B0W b1E DLJ
 aP
 B6)
 (CA 4 sc_read_term.nd (A5M (WB t.mono a2E) (iW (AUP 3) (BBZ c)))
 (A3 (BXT E7E (GC K3 4 A7)
 aP
 B6)
 (SE O8 (DV 2 nT))))))))]
  rw[XU (ZV nt _ BU9 ?_)];rw[A2F];rw[FF];rw[uZ (∃fp,σ=[C1Z,cA,B03,DX fp,none]/\iQ fp [E60]/\BL) ?fin]
  case fin =>
   rintro σ H1 ⟨fp,rfl,r,s1⟩;refine AT4 fp (X3 r) _ rfl (C1 ⟨_,rfl,fp,_,0,_,rfl,rfl,DP r,ASB,_,ZH,rfl,ED (ACO x (~~~a3X hx0) hx1),ASI⟩);rw[BBA];rw[ACZ];rw[BUN DX2];rw[AZ (CBM (by rw[MM C2R 0xb7c3bd0422bcae36 hx0])) C1 (TQ _ _ rfl (xL 2 b3m u) (λq B=>AJ k A2 (A5F s1.trans s2 B)))]
  have l:=List.length_pos_iff.mpr hT.ne;refine EUZ;rw[dR (show OJ<BG (ACB ws.map) by rw[AZ List.length_map c0X l])];rcases hT with⟨n,g,hw⟩|⟨g,rfl⟩
  rotate_left
  .rw[FMD (a1L [] _)];rw[a9P,decide_eq_false (d0k hN x)];exact DJ (C5A ⟨p,UH g List.length_map,hp,qU⟩)
  have m:ws=[n]/\x=1∨ws=EC2:=by
   rw[hw,tmW];split
   rw[GX (DZ (‹_›))]
   rw[JM rfl]
  have b:atI (ws.map V.str) (-1)=BK V.str n:=by
   rcases m with⟨e,_⟩|e<;>rw[e]
   .exact a1L [] _
   .exact a1L [_] _
  rw[FMD b];rw[a9P,B6O decide_eq_true g];rw[VE (D6 ⟨_,rfl,(JZ nt _ hn),_,rfl,_,rfl,p,_,_,_,rfl,rfl,A8M,b,nt,_,_,0,λj=>(BOE).any (· == n),j,rfl,rfl,hn,AH,d0e,A16 List.length_map (List.getElem?_eq_some_iff.mp g).1,IF g,d0d hN.nd g,?_⟩)];clear b hw;rw[CF EUZ];rcases m with⟨rfl,rfl⟩|rfl
  .refine C1 (nP (BBY u) p1 d);rw[F7Z]
  .rw[HI D6];dsimp only[N7];refine FGV p A8M (ANQ p1);rw[b2a];rw[F7Z]
def c7e{ms:AA}:FK1 (C0D):=by
 rw[FHK]
 .rw[CGL];rw[A8V i];rw[WZ hi ns.length]
  .exact h1 i (bV c2x h2)
  .rw[BR8,BZ8 (bV b3B h2)]
 rw[EIC]
def EqV.strs{k:Bool}{a:qE}{ms:AA}(c:EYM a ns.map)(d:EYM b ms.map):ER6:=by
 have step:∀j x y,BV4 (VZ ns.map)->IZ ((VZ ms.map)) y->AZ0 0 x CZC:=λj x y e f=>by
  rw[List.getElem?_map]at e f;rw[XV g rfl DF1];rw[AWT v h f];rw[CG g h (FDR (.str u) (.str v))]
 rw[<-c7e];cases k
 rw[BGP EqV.lst (C0D)]
 rw[BGP EqV.tup (C0D)]
noncomputable def pr(q:B99):qI:=[C0Q,CZ]
def c5P{ys:A0}{rss:LLI}(h:C4J):KN ys.any c6J/\FP ys EC6:=by
 have key:FP ys DAF:=λv b=>by
  rw[A8C (List.getElem?_of_mem b)];obtain⟨r,_,a,e1,e2⟩:=BVG DK;rw[BW a _ e1 e2]
 rw[EC (HU List.any_eq_false.mpr v b) (λv b=>.inr (key v b))];obtain⟨a,_,rfl,_⟩:=key v b;exact Bool.false_ne_true
inductive spRTs(vs:A0)(H:Hp)(Q:VK)(y_3:XK):Prop
 |mk (nt p:qE) (ns:AA) (xs:qI) (_:CHB) (_:A3M) (_:ID p (BQ1 E1 BBH)) (_:QZ) (_:DN5) (_:jH) (_:B98 eF) (_:EH E1 BBH<=10000) (_:B3B a (RO H' (OA (FW xs.map a7p))) C75):HY spRTs
def sc_read_terms:EUF "totals" "terms" "place" "number" a0w:={}
noncomputable abbrev d1D(nt p t p6:qE)(xs:qI)(m:Nat)(H6:Hp)(i:Nat)(σ:L2.St)(H':Hp):Prop:=∃o4 o5,σ=[C1Z,cA,C1X,DX p6,o4,o5]/\SA t (OA (zX CFW a2p (AFF (m+1))))/\Off [t] H6 H'
def a7u(F:CI7 "read_terms" a0w)(T:AV)(d:F1T)(j:F1O):F1U:=by
 rw[BO sc_read_terms b2 b0 hr]
 rw[gZ nt p ns xs]
 .rw[FLY hxt];rw[C9G];rw[LH R]
  rw[BU (CA 2 sc_read_terms.nd (d1u (E4 UC) (API APF))
 (A3 (C3 (c9L K hu U3 (E4 lB))
 ARU
 B6)
 (eM (mV 3 sc_read_terms.nd (N:=["group","names"]) (src:=[none,bK]) (AC1 (AD1 j a9o IV))
 (WG ["group","names"])) pT (AD1 d b3k AKA)
 (A3 (C3 (c9K K hu L6 A0K CV)
 aP
 B6)
 (A3 (BH5 BCA 4 sc_read_terms.nd 5 sc_read_terms.nd
 (A5 (b3Y K aE C1E ABZ)))
 ARU)))))]
  rw[EQ (BBY R) p1 a4];rw[XR (DW [AGI]) a4];rw[PJ e1 H p1 AN3 p1 AN3];rw[AE2 (GO H p1 AN3) e1];rw[XU ⟨_,rfl,nt,_,rfl,QM DIZ,_,_,rfl,rfl,p1,_,_,rfl,rfl,e1,A0V,A0V,by rw[L1 List.length_map];rw[FX 0x3e1f870cf62251555bd8366 hnl R],BH t ht⟩];have I:rT ((TW (BG (ACB ns.map)+1))) AN3=CTJ V.int:=by
   rw[uI (AXJ (TW (BG ns.length+1)) qW)];generalize qW=m;induction m with
   |zero=>rfl
   |succ m ih=>rw[CD2 ih]
  rw[I];have a7:EN t:=s1.free ht;rw[BD9 B2S ht];rw[MK e2 H1 t B2S t B2S];rw[oC H1 t B2S H2 s2 e2];refine A05 (BBY R) p3 C;rw[AC J (s2.upd (o:=CY7) C) X (a0e (o:=CY7) e2 C)];have G:EqV K (VI p3 [BON]) 1 II (AI p3) (EG (E1 BBH=ADN)):=EqV.strs (k:=false) (DP E4K) (SqL.of A2);generalize VI p3 [BON]=H3 at J X G;refine⟨1,_,AH,G,CHK,_,rfl,?_⟩;have u:=d1W hl;rw[VG (a0q ns xs=[])]
  .rw[dR (show E1 BBH=ADN by rw[FY E1 jE])];rw[List.map_eq_nil_iff.mp c]at u;exact D6 (DJ (AJ k (OV u X) J))
  obtain⟨a6,a3⟩:=c3p hN hl c;rw[GG (nO a3) C1 (tM _ rfl p _ E4K hwl (EE g gs H4 hg Y s4))];rw[a6]at Y;rw[vS L J.trans s4 e4 s4 X];have a5:EH psW xs<=8:=BAD (by rw[F2 List.length_zipIdx hl Nat.succ_le_succ hnl]);have B:gs.length=E09:=by rw[AZ Y.1 List.length_map ..]
  refine HE g (rM hg) ?_;refine VF R8 g (gs.map V.ref) (ACP 0x5cde6d50a8531aa99b5a1547eae0edf R a5 B) (OM ys (ANR H4/\Its H' ys (FW EMS i pr))) ⟨rB,.nil⟩ (EMB (CV8 (DP (AG CB hg)) XM)) ?_ ?_
  .rintro i x ys H5 hx ⟨s5,hT⟩;rw[A3Q hx a u hx];obtain⟨l,n,a0⟩:=Y.2 i a u;unfold a0q at n;rw[A3Q n q D n];obtain⟨q1,q2,S⟩:=MA b9k hl D;refine⟨Sub.one,_,rfl,_,rfl,nt,a,ns,_,CS,CZ,rfl,iG (B6Y L),iG a0,S,hN,~~~a9v hnl,q1,hxt _ q2,λb H6 O v=>HJ (s5.trans v)⟩;rw[List.take_add_one,D,List.map_append];exact(hT.same v).snoc (D4 b O)
  .rintro ys H5 ⟨s5,hT⟩ p6 hp6;rw[BZV B List.take_length hT];have v:=s5.upd (o:=fV) hp6;rw[fL M H5 p6 fV p6 ys];have r:=wD hT.same H5 fV hp6;have t6:p6≠t:=tG C88 hp6;generalize GO H5 p6 ys=H6 at v M r;rw[vS b1 L.trans v y v e4];obtain⟨a8,a9⟩:=c5P r;rw[CF (UR p6 ys rfl rfl (DP M) a9 _ rfl ?_)];rw[GG a8 C1 (aH p6 M)];refine VF O5 p6 ys (d1D nt p t p6 xs ns.length H6) (QF _ _ y A0L) (E8U zz o zz (AJ o (BQ t6) M)) ?_ ?_
   .rintro i x σ H7 hx ⟨o4,o5,rfl,e7,off7⟩;obtain⟨_,n,a,rfl,u⟩:=r.2 i x hx;rw[A3Q n q D n];have S:=(List.getElem?_eq_some_iff.mp (List.mem_zipIdx_iff_getElem?.mp (B6O List.mem_filter.mp D).1)).1;have W:a≠t:=XE u y;rw[JK Z (ZQ off7 W u) (tL a _ Z _ _ _ _)];rw[FF];rw[FY d1D (show D0V AM a2p APJ=a2p (CFW a2p APJ) q by rw[DV2 D])];have e:=c4d (EMS i) APJ;generalize CFW a2p APJ=U at e7 e;rw[List.length_replicate]at e;have hj:CS<U.length:= ET7 0x3e97b66ece48dfeea24b0ed8
    have a1:CA1 U.map C0Q=BK V.int U[CS]:=E4O ALQ;have a2:ixN (A6N U.map) C0Q=some CS:=by
     rw[FC8 (ET7 0xbfb09efef05a1a507aca4b0ed8)]
    refine⟨_,rfl,_,rfl,t,_,_,_,rfl,rfl,DP e7,a1,_,rfl,_,_,rfl,rfl,t,_,_,CS,rfl,rfl,e7,a2,_,_,rfl,?_,UT off7.set⟩;rw[A2];unfold a2p;rw[List.map_set,List.getD_eq_getElem?_getD,ALQ];rfl
   .rintro σ H7 ⟨o4,o5,rfl,e7,off7⟩;rw[show ys.length=E09 by rw[r.1,List.length_map],List.take_length,u]at e7;rw[VE (ALD e7 λb o O=>AJ off7 ?_ (AG b1 O))];simpa using A8 O a7
def a6X(x:Str):∀a:AA,((a.map V.str).countP λz=>eqV z (V.str x))=a.count x
 |[]=>rfl
 |w::r=>by
  rw[List.map_cons,List.countP_cons,List.count_cons,a6X x r];rfl
def cut_hi(a:AA)(m:Nat)(h:DKR):BFO DJ2 UI=FW a.take m V.str:=by
 rw[F0O List.drop_zero Nat.sub_zero List.length_map C25]
def cut_lo(a:AA)(m:Nat)(h:DKR):ES0 DJ2 UI=FW a.drop m V.str:=by
 rw[F0N C25 List.map_drop (C0R (by rw[F2 List.length_drop List.length_map lq 0x9ee3af564d1eaf859b956]))]
inductive spRS(vs:A0)(H:Hp)(Q:VK)(y_3:XK):Prop
 |mk (nt p:qE) (ns:AA) (xs:qI) (_:CHB) (_:A3M) (_:ID p (JR (a5S ns xs).tail.map)) (_:QZ) (_:DN5) (_:jH) (_:A2R) (_:AJP (KQ a5S ns xs)) (_:∀a H',RO H' ZT->A2C->BL->C75):HY spRS
def sc_read_sum:EUF "middle" "left" "right" "rest" a2w:={}
def b1d{tT:Tok}(F:CI7 "read_sum" a2w)(T:AV)(b:E34)(a:F1U):F1V:=by
 rw[BO sc_read_sum a1 Z X]
 rw[gZ nt p ns xs]
 .rw[FLY g];have hu:=X.u60;rw[LH d]
  rw[BU (A3 (B0W b1E (E88 c3c)
 aP
 B6)
 (CA 2 sc_read_sum.nd (E88 b7p)
 (CA 3 sc_read_sum.nd (A5M (WB X.mono a9p) (A2K (AZ6 J2 (J1 (jv 2)))))
 (CA 4 sc_read_sum.nd (A5M (WB X.mono a9p) (A2K (AZ6 (J1 DY7) J2)))
 (A3 (BXT (GC a1B 3 L6) E7E
 aP
 B6)
 (eM (ETD 5 sc_read_sum.nd "a" "b" (DV 3 nT)
 AT0) pT (ACQ b1L)
 (FH (a6F (d1s (W2 c6w T.b_max (RU (C9A (AJ6 5)
 C82) (AAH c9R T.b_abs))) (BBZ b)) ABZ L6))))))))]
  have n:IW nV=qW:=by rw[AB List.length_map hl]
  rw[AC Y (b1N hN hl) o2 (b1N hN n)];rw[a5S,List.length_cons,List.length_append,List.length_cons]at hwl;rw[a5S,List.tail_cons]at hp;have t1:dL eF:=E06 g;have t2:GP (A5A (λx => -x)) eF:=E06 g.neg;generalize hA:B1N xs=A at hp Y hwl;generalize hB:B1N nV=B at hp o2 hwl;have J:A.length<lH A AZ1:=by rw[F2 List.length_append List.length_cons lq 32118533801286]
  have l:EIE[A.length]?=BK wd "=":=by rw[AP0,Nat.sub_self];rfl
  have c1:CHX take A.length=A:=List.take_left' rfl;have c2:CHX drop DDX=B:=by rw[List.drop_append,WB List.drop_eq_nil_of_le c1j,Nat.add_sub_cancel_left];rfl
  have hc:CHX count (wd "=")=1:=by
   rw[List.count_append,List.count_cons_self,DCY Y,DCY o2]
  have m:∀j z,j<A.length->IZ (EIE) z->z≠wd "=":=λj z R e y=>by
   rw[B5Y R]at e;exact Y (by rw[ECQ y])
  generalize A++AZ1=G at hp J l c1 c2 hc m;refine⟨_,rfl,DLW,p,_,_,rfl,rfl,hp,rfl,a0m G,rfl,_,rfl,?_⟩;rw[a6X,show G.count (Str.ofString "=")=1 from hc];refine C1 ⟨_,rfl,DLW,p,_,_,A.length,rfl,rfl,hp,rfl,a0m G,IL J,ANQ z,BS j z R d,?_⟩
  .rw[A1G l d d];exact beq_self_eq_true (wd "=")
  .rw[A3Q d y hy d];exact beq_eq_false_iff_ne.mpr (m j y R hy)
  rw[CF (CF5 ?_)]
  delta N7
  refine AZK p _ A8M EDV;rw[cut_hi G _ (~~~a2I J),c1];rw[XR (JR A.map) S];refine⟨nt,p1,ns,xs,rfl,DIZ,AE hA A2,hN,hl,hnl,t1,ABU hA 0x2a4c3d18d3ea0dfb0977f2762571d6 hwl,BS a2 H2 e2 s2⟩;rw[A3S s2];rw[CF ⟨_,rfl,_,rfl,_,rfl,_,_,rfl,rfl,_,rfl,p,_,rfl,DP (UW hp),BH p3 U⟩];rw[show(BG A.length+1)=EU DDX by exact c1M,cut_lo G _ (~~~a9z J),c2];rw[PX s3 H2 (JR B.map) U];refine⟨nt,p3,ns,nV,rfl,nQ (UW hn),AE hB A2,hN,n,hnl,t2,ABU hB 0x1fe983d5ed9379c1049bd6122571d6 hwl,BS a4 H4 O L⟩;rw[vS u s3.trans L e2 u e2];have L:=s2.trans u;rw[CF (IE (XQ (C1 (AW7 false false a2 a4 (rM e2) (rM O)))))];rw[ER (UZ a2P [] E16 (k1:=false) (k2:=false) D2R (DP O) (by simp;rw[FX 0x48ca7d46caeb4f29e16d252d6 hl hnl]) (AID (BL0 e2) (BL0 O)) rfl (D1P Q1)) H5 t s5 r];rw[BWF b0g (x-y),b5W];have f5:EN t:=(L.trans s5).free r;have C:=EJ8 ZT r;have I:IH H5 t ZT t ZT:=A2;rw[oC H5 t ZT H6 C I];rw[CF (aH t I)];rw[ER (wM a1X fT xs (OS D2Q) (ACP 0xa3b26e4bdca7fdb8855b7e426eca52d7 hl hnl d) uR (A2V I) rfl (A3P H7 Q7 hv c s7)) H7 p7 s7 W]
  .rw[A1G c hv hv];exact AK1 _ x aG
  .rw[FQ (cN false p7 (A5A (OS BS8)) (SqL.of (by rw[A2,List.map_map];rfl)) (BQC c2c hl) (EI M hM a0)) B4P];rw[FT x c hM];rw[dR (show OK (x<0) (-x) x<=1000000000000 by have g:=g x c;unfold topN at g;split<;>omega)];rw[AOB D s7.upd (xs.map λi=>D2Q) W];exact D6 (DJ (AJ k (AG D I) f5 (C.trans D)))
#where
#where
section
variable {C:qE}
structure Dr where
 names:AA
 rows:LLI
 sides:qI
 caps:aF
 prices:aF
noncomputable def a0X(c:aF):MQ:=c.map λq=>(Sum.inr CZ,DO CS)
noncomputable def lk(c:aF)(n:Str):EJ:=FE (WF c.find? q (CZ=n)) (·.2)
def a3j(n:Str):∀c:aF,G7 (a0X c) B05=(lk c n).map V.int
 |[]=>rfl
 |q::r=>by
  have a:=a3j n r;unfold a0X lk at *;rw[FO CZ n]
  .rw[List.map_cons,J5 (by rw[e]),List.find?_cons,A22];rfl
  .rw[List.map_cons,J6 (λz=>AUG Sum.inr.inj),List.find?_cons,ANW];exact a
def a9F{c:aF}{n:Str}:aB (lk c n).isSome ((n∈c.map (·.1))):=by
 unfold lk;rw[Option.isSome_map,Bool.eq_iff_iff,List.find?_isSome,decide_eq_true_iff,List.mem_map];constructor
 rw[F9Q oF]
 rw[F9Q A22]
def c6l{c:aF}{n:Str}{x:Int}(h:CDD):putK (a0X c) B05 (V.int x)=a0X DXI:=by
 rw[a5X]
 .rw[C86 a0X]
 .rw[a3j];rw[FDW];cases e:E5I with
  |none=>rfl
  |some y=>rw[CI3]
section
variable {P:qG}{w:World}{K:qF}{mg:BF}{base:Heap}
def a7E{x:Str}{r:AA}:CL2 (FE vJ) 0 x:=ASB
def d1V{x y:Str}{r:AA}:CL2 (FE oM) 1 y:=CTR 1
inductive spTN(vs:A0)(H:Hp)(Q:VK)(y_3:XK):Prop
 |mk (nt p kp:qE) (ns:AA) (n:Str) (x:Int) (c:aF) (_:vs=[AYM,II,AI kp]) (_:A3M) (_:ID p CVH) (_:ID kp (.dK (a0X c))) (_:n∈ns) (_:CDD) (_:RJ) (_:eF) (_:GY c.length) (_:∀H',C5O kp DXI->DV1->ASS):HY spTN
def sc_take_number:DA ["names","words","kept","number"] BXN Z1:={}
def a6c{m:Tok}(F:HA "take_number" Z1 BXN)(T:AV)(b:BY3 m)(a:BHV):F17:=by
 rw[BO sc_take_number j d e]
 rw[AEG nt p kp ns n x c]
 .obtain⟨nt,p,kp,ns,n,x,c,rfl,hn,hp,hk,hin,hno,h0,h1,hcl,k⟩:=h;have g:=e.u60;rw[LH l]
  rw[BU (A3 (AG6 (a1z (b1E dC A7) (a1z (b7k K uH DY CV) (a0K (c9M g uH aE CV))))
 aP
 B6)
 (CA 3 sc_take_number.nd (A5M (WB e.mono a2E) (iW uH (BBZ b)))
 (A3 (C3 (GC a1B 3 L6)
 aP
 B6)
 (A3 (a2a g aE uH A0K)
 jC))))]
  refine AT4 p D41 _ rfl (C1 (FIE nt BU9 rfl D3W));rw[EK,a9P,dR hin];rw[VE (C1 (FIE kp (DGet.k (k:=B05) hk) _ rfl))];rw[a3j,Option.isSome_map,a9F,nO hno];refine C1 (BWU p _ A8M d1V _ ZH rfl (ED (ACO x h0 h1)) AMP);rw[BBA];refine IE (C1 ⟨_,rfl,_,rfl,_,rfl,p,_,_,_,rfl,rfl,DP AOU,a7E,kp,_,rfl,DPut.k (k:=B05) (HR hk) (by unfold a0X;rw[AB List.length_map (lq 0x16bf9609ac6decabf4f54ec80e6 hcl l)]),?_⟩);refine k _ ?_ (UT s1.off.set);rw[AB A2 (WQ some (congrArg HO.dK (c6l hno)))]
#where
noncomputable def dfl(tn ar as ac ap:qE):QW:=[nC "names" tn,DQ4 ar,nC "sides" as,DQ5 ac,nC "prices" ap]
section
variable (tn ar as ac ap tn':qE)
def a6W:AR3 "names" tn:=CV
def c3G:AR3 "rows" ar:=CV
def c7Y:AR3 "sides" as:=CV
def c8a:AR3 "caps" ac:=CV
def c7Z:AR3 "prices" ap:=CV
def c3F:BC8 "take":=CV
def d0o:BC8 "take_names":=CV
def d0n:BC8 "take_sum":=CV
def d0m:BC8 "whole":=CV
def c6U:FDF "prices" (AI ap) FE8 tn:=CV
def c3H:FDF "names" (AI tn') CJE tn':=CV
#where
def Its.putI{H:Hp}{vs:A0}{rss:LLI}{c dx:qE}{fs:QW}{o:HO}(h:TD)(b:A7G lM):CEZ:=DYW
structure DrTx(K:qF)(C:qE):Prop where
 cl:VL
 n1:gX "names"
 n2:DOO
 n3:gX "sides"
 n4:DOP
 n5:gX "prices"
structure DrAt(C:qE)(H:Hp)(p ar as ac ap:qE)(d:Dr):Prop where
 ob:∃dx tn,B0O CJE/\ID tn (AUT d.names.map)
 hr:∃us,TY ar us/\OD us d.rows
 hs:ID as (OA d.sides.map)
 hc:ID ac (BRX d.caps)
 hp:ID ap (BRX d.prices)
 rs:ar≠as
 cp:ac≠ap
def DrAt.same{C:qE}{H H':Hp}{p ar as ac ap:qE}{d:Dr}(h:A4A)(s:BL):A5Y DrAt ar as ac ap d:=by
 rw[BEG e f g i hs b c a h];exact⟨⟨dx,tn,GQ e,C2T⟩,CG9 us g i.same,GQ hs,GQ b,GQ c,rs,a⟩
section
variable {P:qG}{w:World}{K:qF}{mg:BF}{base:Heap}
noncomputable def dr0:Dr:=⟨[],[],[],[],[]⟩
inductive spDInit(C:qE)(vs:A0)(H:Hp)(Q:VK)(y_3:XK):Prop
 |mk (p dx:qE) (_:oN) (_:CBT) (_:∀(ar as ac ap:qE) (H':Hp),EN ar->EN as->EN ac->EN ap->AZM dr0->E4D->AGR):oY spDInit
def a3a:BE7 Q8:={}
def c0g(FM:APM "__init__" "Draft.__init__" Q8)(U:XZ):AIN "__init__" spDInit:=by
 rw[HP FM.fnJ a3a a0 J hr]
 rw[TJ p dx]
 .rw[QP p dx rfl hp k];rw[BU (A3 (BP2 O8)
 (BE6
 (BE6
 (AJ4 b5I
 (B8E b5I)))))]
  have step:∀{H1:Hp}{x:qE}{o:HO}{fs:QW}{fl:Str}{v:V},CQ H1 p lM->ALG x->CQ (CO0) p D06/\p≠x/\IH H1 x o p lM/\HN (CO0) o/\BFR (xF (CO0)):=by
   intro H1 x o fs fl v h1 h2;have m:p≠x:=A1O A8;refine⟨A2,m,GI m h1,CHC m.symm,BS b u hb G⟩;rw[CG (A6 G) (rC hb h2) hb]
  rw[aR tn I];obtain⟨M,q,a3,N,O⟩:=BHQ CWO "names" tn hp I;refine iD a3 U.n1 AH;rw[AN9 (upd (gU tn []) p (D8L tn)) M N O];rw[aR ar l];obtain⟨R,r,b3,z,B⟩:=BHQ OO "rows" ar M l;rw[BD1 b3 U.n2 1];rw[ANA (upd (ALM ar []) p (.ins C dx BXS)) R z B];rw[aR as c];obtain⟨S,D,c3,T,t⟩:=BHQ OO "sides" as R c;rw[BD1 c3 U.n3 2];generalize upd (VI as []) p (BP9 "sides" as BXS)=L at S T t;rw[v9 (A7Z ac) W X d3 F d (BHQ AIH "caps" ac S j)];rw[BD1 d3 U.n4 3];generalize upd (TM L ac .dK []) p (.ins C dx FE8)=H4 at W F d;rw[v9 (ZX ap) f1 f2 f3 f4 i (step (o:=AIH) (fl:="prices") (v:=AI ap) W a)];rw[BD1 f3 U.n5 4];have g1:A1T H1:=O;have Y:A1T H2:=BGD B g1;have Z:A1T L:=BGD t Y;have g4:A1T H4:=BGD d Z;have fr:∀{y:Hp}{x:qE},(A1T y)->FD y x->p≠x->C28:=by
   intro y x g hx m;cases e:H x with
   |none=>rfl
   |some o=>rw[AW (g x o e m.symm) hx hx]
  refine k ar as ac ap _ (fr g1 l r) (fr Y c D) (fr Z j X) (fr g4 a f2) (EU0 ⟨dx,tn,GT A2 c6U,?_⟩ CKN) (BGD i g4)
  .exact AJ i (AJ d (AJ t (AJ B N q.symm) q.symm) q.symm) q.symm
  .exact AJ i (AJ d (AJ t z r.symm) r.symm) r.symm
  .exact AJ i (AJ d T D.symm) D.symm
  .exact AJ i F X.symm
  .exact f4
  .exact A8 z c
  .exact A8 F a
inductive spTNm(C:qE)(vs:A0)(H:Hp)(Q:VK)(y_3:XK):Prop
 |mk (p ar as ac ap l:qE) (ws:AA) (d:Dr) (_:BB0) (_:A4A) (_:DXL) (_:Nms ws) (_:1<=ws.length) (_:ws.length<=7) (_:BBI (DSU ws) (ALW p) ASS):oY spTNm
def a2j:E5C M9:={}
def a7q(W:kX "take_names" "Draft.take_names" M9 mB)(U:XZ)(T:AV)(c:EPW):F1E:=by
 rw[HP W.fnJ a2j X F R]
 .obtain⟨p,ar,as,ac,ap,l,ws,d,rfl,_⟩:=h;rfl
 .obtain⟨p,ar,as,ac,ap,l,ws,d,rfl,D,hl,hN,h1,h7,k⟩:=h;have hu:=R.u60;rw[LH hz]
  have y:PN 9<scanBound:=by decide
  rw[BU (A3 (AG6 (a1z (R7 (c6p A7 dC A7)) (a1z (a8e (c6z P w rfl T.b_len (BN (c6u K P w rfl T.b_set IV))) dC) (a0K (R7 (A61 (AMT (A08 "word" DQD
 DPE) (F0 c R.mono WH)))))))
 aP
 B6)
 (AJ4 (AY9 IV)
 jC))]
  refine DCJ l APR;rw[List.length_map,dR (show CB4 ws.length by exact a9x h1)];rw[tZ B4P];rw[GG (dR (show DEC<=7 by exact c2n h7)) C1 (tM _ rfl l ws AVC (AR 0x25d403fee93a5366 h7 y) (EE a e n hD hm r))];rw[XR B4J n];rw[MK M H a B4J a B4J];rw[AE2 (A2O B4J) M];refine⟨a,_,rfl,M,AR 0xd7e6e9f73e278a0bc88ecdb7d74a99c08ee1ffa0766 h7 r,_,rfl,l,_,rfl,X3 C3S,_,_,rfl,rfl,_,rfl,?_⟩;rw[List.length_map,nO (show ¬(BG e.length<DEC) by rw[A9Y (Tab.nodup_le ws e hN.nd λx m=>dH hm x m) c1n])];refine C1 (aH l C3S);rw[ER (wM a1X AYS ws (λx=>V.bl true) (IL (b3t h7 hz)) uR (A2V C3S) rfl (A3P H2 Q2 S m s2)) H2 p2 s2 u]
  .rw[A1G m S S];exact TQ _ x rfl (MA hN.nm x m) q
  .rw[JK s3 (EJ7 (DW DA5) u) (F5M p2 ?_)]
   .rw[BHF]
   rw[show EO (ws.map λ_=>V.bl true).all trV by rw[BHF]];generalize VI p2 DA5=I at s3;rw[VE (C1 (eV l _ (A02 (nQ hl) tn B)))];have G:=s3.upd (o:=B3H) B;rw[MK L I tn B3H tn B3H];rw[oC I tn B3H J G L];obtain⟨⟨dx,a0,g,o2⟩,⟨us,r1,r2⟩,hs,Z,hp,rs,Y⟩:=D.same G;refine iD g U.n1 (BLA 5);rw[c3H];have j:∀{b:qE}{o:HO},IC J->(∀fs,o≠lM)->IH J p (kM CJE) b o:=λ{b o} O t=>by
    rw[AB (A6 λz=>by subst z;rw[O]at g;rw[C0A g g t g]) O]
   exact k _ ⟨⟨dx,tn,A2,j L AT6⟩,⟨us,j r1 AT6,Its.putI r2 g⟩,j hs AT6,j Z AT6,j hp AT6,rs,Y⟩ DMF
inductive spTS(C:qE)(vs:A0)(H:Hp)(Q:VK)(y_3:XK):Prop
 |mk (p ar as ac ap l:qE) (d:Dr) (xs:qI) (sd:Int) (_:BB0) (_:A4A) (_:B2O DB2) (_:CDU) (_:DN4) (_:ACN) (_:Bds B0F) (_:AJP (KQ a5S d.names B0F)) (_:EBF) (_:CG5) (_:BBI (E96 sd) (pS [ar,as]) ASS):oY spTS
def sc_Draft_take_sum:DA (A5Q "words" "rest") mB Q5:={}
def b0Z(X:kX "take_sum" "Draft.take_sum" Q5 mB)(U:XZ)(T:AV)(c:F1V):F1F:=by
 rw[HP X.fnJ sc_Draft_take_sum Y N hr]
 .rw[sR p ar as ac ap l d xs sd]
 .obtain⟨p,ar,as,ac,ap,l,d,xs,sd,rfl,D,hl,hN,hxl,h7,h3,hwl,h5,hsl,k⟩:=h;rw[LH W]
  rw[BU (CA 2 sc_Draft_take_sum.nd (AD1 c c0x CED)
 (A3 (ER7 (K3 A47 A7)
 aP
 B6)
 (BBU E8 (BN (ASQ (a3m K aE J2 CK3)))
 (BBU E8 (tI Y7 (BRR aE))
 jC))))]
  obtain⟨⟨dx,tn,m,u⟩,⟨a0,O,_⟩,_⟩:=zR;rw[XU ⟨_,rfl,p,C,dx,_,_,rfl,m,U.cl,U.n1,AKB,_,rfl,tn,l,d.names,B0F,rfl,u,hl,hN,C5M hxl,h7,h3,hwl,DQ a H1 x G s1⟩];rw[BEG m u r v hs F J Z C7W];refine IE (C1 (BYP m U.n2 C58 ar _ rfl (X3 r) rfl));rw[GG (CBM (by rw[KP C2R v.1];rw[QE 0x111ffe2f6501d4fe5 h5])) C1 (BI5 m U.n2 C58 r)];dsimp only[N7];refine FGV a (DP x) (BH p2 L);rw[b2a,<-List.map_dropLast,List.dropLast_concat];rw[BDB ZT L];rw[MK e2 H1 p2 ZT p2 ZT];rw[oC H1 p2 ZT H2 s2 e2];rw[UV (EIQ p2 q) j s2.upd ZN M];rw[MK S H2 q ZN q ZN];rw[oC H2 q ZN t j S];rw[vS R s1.trans j x j x];rw[dV m j m u (B6W u)];rw[dV r j r hs (B6W hs)];rw[dV F j F J (B6W J)];rw[AC v (v.same j) I v.1];clear s1 s2 j;refine LC ar us _ rfl r (VD 0x5cde6d6301f873465c7fb81d5bcd7e7 h5 W I) ?_;have y:∀{b:qE}{o:HO},IC t->DI0->IH t ar (DW CBC) b o:=λe g=>GI g e
  have kd:ERD DI0:=λ{b o} e g z=>by
   subst z;rw[r]at e;injection e with e
   exact g _ e.symm
  have n:=y hs rs.symm;rw[FQ (BI5 (y m (kd m λ_ z=>x6)) U.n3 DKX n) ⟨_,rfl,_,rfl,a,_,_,_,rfl,rfl,SqL.of (y x (tG O G)),AE List.map_append (BZ a1L),_,rfl,as,_,_,rfl,rfl,n,ACP 0x5d8498f7cc2b21570a82e50ef15dbe7 h5 hsl W,?_⟩];have B:ERD (IH (GO t ar CBC) as (DW (EWW (- -sd))) b o):=λ{b o} e g=>by
   rw[AB (A6 λz=>by subst z;rw[hs]at e;rw[C0A e e g e.symm]) (y e (kd e g))]
  refine k _ ⟨⟨dx,tn,B m ND,B u ND⟩,ABA CBC (CHC rs),?_,B F ND,B J ND,rs,Z⟩ (BA3 R.off.set AF)
  .exact Its.put (Its.put (v.snoc (D4 q S)) r) n
  .rw[A2,List.map_append];exact congrArg (λz=>BK HO.lst (EWW z)) (Int.neg_neg sd)
def a2f(x:V)(xs:A0):a0n EX (AO WT) none=xs:=by
 rw[ZW a0n F76 HT.sIx_none HT.sIx_nat];simp
noncomputable def L5(p ar as ac ap:qE):EW:=[p,ar,as,ac,ap]
inductive Stp:EOT AA
 |of {d:Dr}{ns:AA}(h0:d.names=[]) (hN:QZ) (h1:B8G) (h7:jH):APH AFO (DSU ns)
 |sum {d:Dr}{xs:qI}{s:Int}(hN:CDU) (h1:B8H) (h7:ACN) (hl:DN4) (hb:Bds C70) (h5:EBF) (hs:CG5):APH (a5S d.names C70) (E96 s)
 |cap {d:Dr}{n:Str}{x:Int}(hn:CCM) (hc:BRI d.caps.map) (hl:GY d.caps.length) (h1:RJ) (h2:eF):APH [A72,n,sB] (AIS caps (d.caps++[BUM]))
 |price {d:Dr}{n:Str}{x:Int}(hn:CCM) (hc:BRI d.prices.map) (hl:GY d.prices.length) (h1:RJ) (h2:eF):APH [AJU,n,sB] (C9Z (d.prices++[BUM]))
inductive spTk(C:qE)(vs:A0)(H:Hp)(Q:VK)(y_3:XK):Prop
 |mk (p ar as ac ap l:qE) (ws:AA) (d d':Dr) (_:BB0) (_:APH ws d') (_:CAP) (_:A4A) (_:DXL) (_:BBI d' C49 ASS):oY spTk
def a7n:E5C a0C:={}
def DrAt.putK{H H':Hp}{p ar as ac ap kp:qE}{d d':Dr}{c:MQ}(D:A4A)(l:aZ kp .dK c)(off:DV1)(m:d'.names=d.names)(n:d'.rows=d.rows)(hs:d'.sides=d.sides)(h1:C5O ac d'.caps)(h2:C5O ap d'.prices):AZM d':=by
 rw[BEG s t u j h w x k D];have kd:∀{b:qE}{o:HO},A6C->(∀c,o≠.dK c)->DFN:=λ{b o} f g=>off b o (by rw[List.mem_singleton];intro z;rw[z,l]at f;rw[C0A f f g f.symm]) f;refine⟨⟨dx,tn,kd s ND,AE m (kd t ND)⟩,ABA us (kd u ND),AE hs (kd h ND),h1,h2,rs,k⟩;rw[n];rw[AQ j.1 (QH v (CU0 (j.2 i v e) (kd q ND)))]
def b9S(R:kX "take" "Draft.take" a0C mB)(U:XZ)(T:AV)(i:VL)(a:F17)(e:F1E)(g:F1F):F1D:=by
 rw[HP R.fnJ a7n W N v]
 .rw[sR p ar as ac ap l ws d d']
 .obtain⟨p,ar,as,ac,ap,l,ws,d,d',rfl,S,hwl,D,hl,k⟩:=h;rw[BU (A3 (CC0 A47
 (FH (a4F (a1A uH B4) (a3o (a6E e i (DJO a6o) DY DF7))))
 B6)
 (A3 (EZT
 (SE (a6E g i (DJO a9q) DY) DF7)
 B6)
 (A3 (EZT
 (FH EZM)
 B6)
 (FH (ADW (a1A uH B4) EZM)))))]
  obtain⟨⟨dx,tn,t,M⟩,_,_,G,I,_,O⟩:=zR;refine BYP t U.n1 AKB tn _ rfl (QM M) rfl;have L:B8H->ZS (A0Z (PN (ACB d.names.map)) 0):=λh=>CBM (by rw[ACJ C2R];rw[QE 0xb7c3bd02eb9bfe6d h])
  have pos:∀{n:Str},CCM->B8H:=λh=>List.length_pos_of_mem h;cases S with
  |@of ns X F h1 B =>
   rw[GG X D6 CSY];rw[BAL (FCP d0o)]
   delta N7
   refine BYN;rw[List.map_cons,a2f];rw[XR (JR ns.map) j];exact⟨p,ar,as,ac,ap,p1,_,d,rfl,C7W,A2,F,h1,B,BYW y y (ABT D3Q)⟩
  |@sum xs sd F h1 B J m Y hs =>
   rw[B0D (L h1)];rw[BAL (FCP d0n)]
   delta N7
   refine BYN;rw[a5S,List.map_cons,a2f];rw[XR DB2 j];exact⟨p,ar,as,ac,ap,p1,d,_,_,rfl,C7W,A2,F,J,B,m,hwl,Y,hs,BYW y y (by rw[cL m];unfold L5;simp only[List.mem_cons];rcases m with rfl|rfl<;>simp)⟩
  |@cap n x u r q h1 h2 =>
   rw[F61];rw[BAL F6R]
   delta N7
   rw[FML U.n4 DKY ac C3U C3U e2 (ZQ c O.symm ALT)]
  |@price n x u r q h1 h2 =>
   rw[F61];rw[B0D DAI];rw[BAL F6R]
   delta N7
   rw[FML U.n5 DKZ ap ALT ALT (ZQ c O C3U) e2]
#where
#where
section
variable {L:FB}
structure SysAt(H:Hp)(v:V)(ns:AA)(rows:LLI)(sides:qI)(caps:AK)(prices:qI):Prop where
 ex:∃a n r s c p us,AKH/\A52 [AI n,AI r,AI s,ZC,II]/\DS0/\C8B/\OD us rows/\AJZ s sides.map/\A7G AMQ/\ID p (RG prices.map)
def SysAt.same{H H':Hp}{v:V}{ns:AA}{rows:LLI}{sides:qI}{caps:AK}{prices:qI}(h:COX)(s:BL):CPK:=by
 rw[FL3 a];exact⟨a,n,r,t,c,p,us,e,DHO,C2V,GQ b,d.same s,C2T,GQ g,GQ i⟩
noncomputable def Dr.capsL(d:Dr):AK:=d.names.map (lk d.caps)
noncomputable def Dr.pricesL(d:Dr):qI:=d.names.map λn=>CR2 0
section
variable {P:qG}{w:World}{K:qF}{mg:BF}{base:Heap}{C:qE}
inductive spWh(C:qE)(vs:A0)(H:Hp)(Q:VK)(y_3:XK):Prop
 |mk (p ar as ac ap:qE) (d:Dr) (_:oN) (_:A4A) (_:ACN) (_:FJ6):oY spWh
def sc_Draft_whole:DA (A5Q "caps" "prices") A50 Z8:={}
def b9Q(FM:APM "whole" "Draft.whole" Z8)(U:XZ)(T:AV):EL0:=by
 rw[HP FM.fnJ sc_Draft_whole a1 a0 hr]
 rw[pC p ar as ac ap d]
 .obtain⟨p,ar,as,ac,ap,d,rfl,D,hnl,k⟩:=h;rw[C9G];rw[LH Z]
  rw[BU (CA 1 sc_Draft_whole.nd (ZZ (ETY
 EJU) (c6F hu BBB (jv 0)))
 (CA 2 sc_Draft_whole.nd (ZZ (ETY
 EJU) (c6E hu BBB DY A7))
 (SE O8 (A8K LT CIU CIU C4Y))))]
  rw[BEG g r r1 r2 hs hc hp cp zR];refine FHI g r;rw[ER (FH8 CRF r (A3P H1 Q1 m Y s1)) H1 p1 s1 R]
  .rw[FH5 (HR g) U.n4 DKY ac C3W C3W];cases e:lk d.caps x with
   |none=>rw[AAC e]
   |some y=>rw[AAC e]
  rw[BD9 (DW uF) R];rw[PJ e2 H1 p1 uF p1 uF];rw[CKQ (ALM p1 uF)];rw[UV (EIQ p1 j) c s2.upd (GN uF) M];rw[eN e3 H2 j uF j uF];rw[B6I H2 j uF H3 c e3];rw[CF (FHI (AG c g) DUM)];rw[ER (FH8 CRD DUM (A3P I Q4 m Y z)) I G z S]
  .rw[FH5 (D74 g) U.n5 DKZ ap E9E E9E];cases e:lk d.prices x with
   |none=>rw[AAC e]
   |some y=>rw[AAC e]
  rw[AOB s5 z.upd uE S];rw[PJ e5 I G uE G uE];generalize GO I G uE=H5 at s5 e5;rw[UV (JZ G _ (A4U (DP e5) l O)) s6 s5.upd (GN uE) O];rw[eN e6 H5 l uE l uE];rw[B6I H5 l uE J s6 e6];rw[FF];have a:=c.trans s6;refine⟨_,rfl,p,C,dx,_,_,rfl,AND g,U.cl,U.n1,AKB,_,rfl,p,C,dx,_,_,rfl,AND g,U.cl,U.n2,C58,ar,us,rfl,A02 (AND r1) t W⟩;rw[eD s7 J us W];rw[eN e7 J t us t us];rw[B6I J t us L s7 e7];have B:=a.trans s7;refine B5S (AG B g) U.n3 DKX as _ rfl (A02 (AG B hs) u X);rw[PX s8 L B2W X];rw[MK e8 L u B2W u B2W];rw[oC L u B2W H8 s8 e8];refine TQ _ _ rfl (xL 5 c0R Z) (BH q hq);rw[AC s9 (MU H8 (o:=GN [AI tn,KH,AI u,BSU,IX]) hq) F (s8.trans s9)];have b:=s7.trans F;refine AJ k ⟨q,tn,t,u,j,l,us,rfl,A2,AG b (AND r),AG F e7,(r2.same (a.trans b)),AG s9 e8,AG b (AG s6 (DQ2 e3 Dr.capsL)),AG b (DQ2 e6 Dr.pricesL)⟩ (a.trans b)
inductive Stps:EOT FB
 |nil {d:Dr}:A1I [] d
 |cons {d e d':Dr}{ws:AA}{L:FB}(h:Stp d ws e) (r:BFI L):A1I (ws::L) d'
def Stps.inv{d d':Dr}{a:AA}(h:A1I (a::L) d'):∃e,Stp d a e/\BFI L:=by
 cases h with|cons h r=>exact ES h r
def Stps.app{d e d':Dr}{M:FB}(h:Stps d L e)(g:BFI M):A1I (L++M) d':=by
 induction h with
 |nil=>exact g
 |cons h _ a=>exact .cons h (a g)
structure Wl(ws:AA):Prop where
 ne:HH ws
 wl:CAP
 no:GP ws (AQH/\10∉x.cps.toList)
 le:AJP (iS ws)
def Wl.split{b:AA}(h:Wl b):PySem.Txt.split (LI b) bk=b:=a2r h.ne λa c=>(h.no a c).1
noncomputable def lnW(L:FB):AA:=B4V L.map
noncomputable def ptW(L:FB):Str:=sJ lf lnW L
def b6I(h0:vO)(h:YS L (Wl b)):PySem.Txt.split (ptW L) lf=lnW L:=by
 refine HU (a2r (λz=>h0 (List.map_eq_nil_iff.mp z))) a c;rw[FT b hw c];exact B27 b1s λy d=>((h b hw).no y d).2
def b5j(h:∀a∈L,Wl a)(b:CAQ):EH ptW L<=10000000:=by
 have:=AYF 10 10000 (ys:=lnW L) λy d=>by
  rw[FT a hw d];exact(h a hw).le
 rw[TU (C64 (EH lnW L) L.length)];rw[A1Z this (rV (show _<=900*10001 from BNO b _) AH)]
inductive spTkA(C:qE)(vs:A0)(H:Hp)(Q:VK)(y_3:XK):Prop
 |mk (p ar as ac ap l:qE) (L:FB) (d d':Dr) (_:BB0) (_:A4A) (_:B2O D8Q) (_:l∉CZ4) (_:CJQ) (_:A1I L d') (_:BBI d' C49 AGR):oY spTkA
def sc_take_all:DA ["draft","lines","number","line"] ["draft","lines"] a2u:={}
noncomputable abbrev d2i(p l:qE)(L:FB)(d':Dr)(C ar as ac ap:qE)(H:Hp)(i:Nat)(σ:L2.St)(H':Hp):Prop:=∃o2 o3 e,σ=[cA,A8N,o2,o3]/\BFI (L.drop i)/\AZM e/\C49
def b1a(F:ZM "take_all" a2u "draft" "lines")(T:AV)(c:VL)(b:F1D):FG3:=by
 rw[BO sc_take_all I z J]
 .rw[sR p ar as ac ap l L d d']
 .obtain⟨p,ar,as,ac,ap,l,L,d,d',rfl,D,hL,hl5,hW,S,k⟩:=h;rw[iO M]
  rw[BU (A5 (BH5 (pH c3d T.b_enumerate IV) 2 sc_take_all.nd 3 sc_take_all.nd
 (A5 (A45 (a6E b c (WB J.mono c0w) DY (BN (EFP 3)))
 aP
 B6))))]
  refine ZV false l (rM hL) ?_;refine BC b7w K K k false (a:=l) (xs:=lE lnW L V.str) (d2i p l L d' C ar as ac ap H) (AH8 d S D A0L) (λi σ H' _ R=>by obtain⟨_,_,_,_,_,_,o⟩:=R;rw[A9V (AJ o hl5 hL)]) ?_ ?_
  .rintro i x σ H1 q hx ⟨o2,o3,e,rfl,g,D1,off1⟩ hq;rw[AC s2 (MU H1 (o:=GN B53) hq) u (D1.same s2)];have j:=off1.trans s2.off;rw[eN n H1 q B53 q B53];rw[ANA (ALX q B53) u j n];rw[XU (tL q _ n _ US x [])];rw[lnW,List.map_map,List.getElem?_map]at hx;rw[AWT m r hx];have hw:=MA hW m r;rw[LN v (List.getElem?_eq_some_iff.mp r)];rw[List.drop_eq_getElem_cons v]at g;generalize L[i]=m at g hw;obtain⟨e',st,g⟩:=g.inv;obtain⟨⟨dx,tn,N,_⟩,_⟩:=id u;refine⟨_,rfl,p,dx,_,rfl,N,YU c3F,_,rfl,rfl,_,bk,rfl,rfl,AH,by show iS m+2<=_;rw[MM hw.le 0x6ef1cb4911f4afb0f65f78e9f17d6e M],BH O y⟩;rw[show PySem.Txt.split ((V.str ∘ Str.join bk) m |> D2 (LI m)) bk=m from hw.split];rw[PX B H2 (JR m.map) y];exact⟨p,ar,as,ac,ap,O,m,e,e',rfl,st,hw.wl,u.same B,A2,λU G t=>DJ (C1 (AH8 e' g G (GK j.trans B.off t)))⟩
  .rintro σ H1 ⟨o2,o3,e,rfl,g,D1,off1⟩;rw[S1 (C64 (ACB (FW lnW L)) L.length) List.drop_length g g];exact k _ D1 off1
inductive spRSy(vs:A0)(H:Hp)(Q:VK)(y_3:XK):Prop
 |mk (L:FB) (d:Dr) (_:A7F EHZ) (_:vO) (_:CJQ) (_:CAQ) (_:CII L) (_:ACN) (_:FJ6):HY spRSy
def sc_read_system:cI ["text","draft"] "text" Z4:={}
def a6f(F:XI "read_system" Z4 "text")(T:AV)(U:XZ)(g:VL)(l:F6B "Draft" A50 spDInit)(c:FG3)(a:EL0):F8O:=by
 rw[BO sc_read_system Z M G]
 rw[TJ L d]
 .obtain⟨L,d,rfl,h0,hW,hll,S,hn7,k⟩:=h;rw[DXP]
  rw[BU (CA 1 sc_read_system.nd (c6B l (APE 4974806956) rfl)
 (A3 (D5 (BUB (A2U (a6D K DY lB))))
 (FH (a5m a g (APE 177658348) U3))))]
  refine DQ x dx I y z;rw[CPC J z.symm I]
  rw[BBK n CDQ y J (QF x dx A2 (λar as ac ap H1 t u q r N kp=>vK))];have s1:KS:=CK8 n (AAJ I);rw[FF];rw[JK D (b5j hW hll) ⟨_,rfl,_,rfl,rfl,_,lf,rfl,rfl,AH,AR 0xc72a5e709e217cace833656b1f6da5c6a2e4e hz D,A7Z R⟩];rw[b6I h0 hW];rw[PX W H1 D8Q j];have B:R∉BMJ L5 x:=by
   obtain⟨⟨a0,a1,o1,o2⟩,⟨us,r1,r2⟩,hs,hc,hp,rs,cp⟩:=N;unfold L5;rw[B1Q];rw[EF (AQN o1) (AQN r1) (AQN hs) (AQN hc) (AQN hp)]
  refine⟨x,ar,as,ac,ap,R,L,dr0,d,rfl,N.same W,A2,B,hW,S,EI X O m⟩;obtain⟨⟨p,a2,o4,_⟩,_⟩:=id O;have s4:NZ X:=IY o (m b o (by
   unfold L5;rw[B1Q];rw[EF (AAJ I) (BGX t) (BGX u) (BGX q) (BGX r)]) (AG W (HR e)))
  exact⟨_,rfl,x,p,_,rfl,o4,YU d0m,x,ar,as,ac,ap,d,rfl,O,hn7,λv Y hv s5=>k v Y hv (s4.trans s5)⟩
#where
#where
section
variable {ns:AA}{xs:qI}
noncomputable def a7f(a:Int):FB:=AN7 C48 [[D7 a]]
noncomputable def N5(ns:AA)(xs:qI)(a:Int):FB:=AXP (λq=>DPJ)++a7f a
noncomputable def a9b(ns:AA)(xs:qI)(s:Int):AA:=BX7 (E1 (N5 ns xs (-s))) (E1 (N5 ns nV s))
def b8w:∀(pre ns:AA) (xs:qI),w9->ES2 pre.length ns=AWI AXP tmW
 |pre,[],[],_=>rfl
 |pre,iB,EX,h=>by
  have a:=b8w (pre++[n]) ns xs oK;rw[List.append_assoc,List.length_append]at a;have a:ES2 (pre.length+1) iB=_:=a;rw[ECA List.zip_cons_cons List.filter_cons];rw[nZ B8T]
  .rw[ARH,ARH,List.map_cons,List.map_cons,a];congr 1;rw[FY tmP (PU (by rw[DD9 List.length_cons];show ¬pre.length=_;exact lq 0x4490056c45546))];dsimp only;rw[List.getD_eq_getElem?_getD,AP0,Nat.sub_self];rfl
  .rw[AOM,AOM,a]
def b2A(h:w9)(a:Int):lD=BKJ (A5G a):=by
 unfold N5 a0q psW;rw[List.zipIdx_append,List.filter_append,List.map_append,<-b8w [] ns xs h];congr 1;rw[ZW a7f List.zipIdx_cons List.zipIdx_nil List.filter_cons];rw[nZ C48]
 .rw[IP,ARH];show _=[tmP ns (a,0+xs.length)];rw[tmP,lL (by rw[AZ h Nat.zero_add _])]
 .rw[GA,AOM];rfl
def c8y(h:w9)(s:Int):a9b ns xs s=a5S ns C70:=by
 unfold a9b a5S;rw[b2A h,UG b2A List.length_map h,List.map_append,List.map_cons,Int.neg_neg];rfl
noncomputable def T3(ns:AA)(cs:AK):aF:=(ns.zip cs).filterMap λq=>(CS).map λx=>(CZ,x)
noncomputable def a0E(w:Str)(ns:AA)(cs:AK):FB:=D7T (zX T3 ns cs) w
def a3R(n:Str)(ns:AA)(c:EJ)(cs:AK):T3 iB A3I=(match c with|ZH=>(n,x)::BCB|none=>BCB):=by
 unfold T3;rw[List.zip_cons_cons,List.filterMap_cons];cases c<;>rfl
def J8:F6T (((T3 ns cs).map (·.1)).Sublist ns)
 |[],_=>DJD
 |iB,[]=>DJD
 |iB,A3I=>by
  rw[a3R];cases c with
  |none=>exact BDP cons n
  |some x=>exact BDP cons_cons n
def a7X{cs:AK}(h:BRO cs):∀q∈BCB,0<=CS/\CS<=topN:=λq c=>by
 rw[DI a b e List.mem_filterMap.mp c];rw[dJ x d DF1];exact h x (by rw[<-d];exact(List.of_mem_zip b).2)
def b5z(n m:Str)(x:Int)(c:aF):lk ((n,x)::c) m=if n=m then ZH else lk c m:=by
 rw[FY lk List.find?_cons];rw[FO n m]
 .rw[IP,A22];rfl
 .rw[GA,ANW]
def c6e{c:aF}{n:Str}(h:CDD):lk c n=none:=by
 rw[FDW];cases e:E5I with
 |none=>rfl
 |some y=>rw[CI3]
def a9l:∀(ns:AA) (cs:AK),ns.Nodup->A0C cs.length->ns.map (lk BCB)=cs
 |[],[],_,_=>rfl
 |iB,A3I,h,d=>by
  rw[BCS];have b:=a9l ns cs h2 B7M;have a:n∉(T3 ns cs).map (·.1):=λz=>h1 (BDP mem z);rw[B20 a3R];cases c with
  |none=>rw[AB (BLI (lk _ n) (c6e a)) (pQ b)]
  |some x =>
   dsimp only;rw[b5z,EK];refine pQ (Eq.trans (DKV m e) b);rw[b5z,B8U (UG h1 z e)]
def b0w:FIH ((d.caps.map (·.1)++qs.map (·.1))) d.caps.length A72 (AIS caps (d.caps++qs))
 |[],d,_,_,_=>DX4
 |ADV,d,h,b,a=>by
  rw[FKE b0w (AIS caps (EO9 d.caps)) .cap]
def a5A:FIH ((d.prices.map (·.1)++qs.map (·.1))) d.prices.length AJU (C9Z (d.prices++qs))
 |[],d,_,_,_=>DX4
 |ADV,d,h,b,a=>by
  rw[FKE a5A (C9Z (EO9 d.prices)) .price]
structure SysOk(ns:AA)(rows:LLI)(sides:qI)(caps:AK)(prices:qI):Prop where
 nm:QZ
 n1:B8G
 n7:jH
 rl:rows.length<=6
 rw:qV rows (E7W ns.length)
 sl:EBL
 sb:DUB
 cl:A0C caps.length
 cb:BRO caps
 pl:A0C prices.length
 pb:GP prices yV
noncomputable def prO(p:Int):EJ:=AL6 (p > 0) p none
noncomputable def a3E(ns:AA)(rows:LLI)(sides:qI)(caps:AK)(prices:qI):FB :=
 (AFO)::(E9R++(a0E A72 ns caps++DBO))
def b0v:∀(rows:LLI) (sides:qI) (d:Dr),CDU->B8H->ACN->EBL->DF r rows (E7W d.names.length)->DUB->CG5->d.rows.length+rows.length<=6->A1I (D89 (a9b d.names)) (D0L (d.rows++rows) (d.sides++sides))
 |[],[],d,_,_,_,_,_,_,_,_=>DK2 List.append_nil .nil
 |r::rows,s::sides,d,f,h1,c,i,g,e,hs,a=>by
  rw[ABD h k (AZZ g) l m (e s List.mem_cons_self)];rw[D3T];rw[A20 (b0v rows sides (D6Q (d.rows++[r]) s) f h1 c (BQ i) (B50 g) (B50 e) (BWO hs) (by rw[A8E];show D5M;rw[DG 0x64d2d73de4bbb3e5d6 a])) List.append_assoc List.append_assoc];rw[List.zipWith_cons_cons,c8y h];refine .cons (.sum f h1 c h (AH1 j) (aM 0x46579479a250627e5d6) hs) this;rw[BM (List.mem_append.mp j)]
  rw[vZ k]
  .rw[ZF];rw[BX0]
def c8q{rows:LLI}{sides:qI}{caps:AK}{prices:qI}(h:BCJ):∃d,CII BVN/\d.names=ns/\d.rows=rows/\d.sides=sides/\d.capsL=caps/\d.pricesL=prices:=by
 refine cN (D9K CAA ATM) ?_ rfl rfl (E5V caps h.cl) ?_
 .rw[LV .cons (.of rfl h.nm h.n1 h.n7)];refine(b0v rows sides {dr0 with names:=ns} h.nm h.n1 h.n7 h.sl h.rw h.sb rfl (by show 0+_<=6;rw[KR h.rl])).app ?_;have b:∀a:AK,GY (0+CEM a):=λa=>by
   rw[ACJ (EJZ length_le)];rw[KR h.n7]
  have g:∀a:AK,CMG a->∀q∈T3 ns a,D9Q (CZ∈ns):=λa f q i=>⟨B6N (EJZ mem) (QX q i),a7X f q i⟩;have c:CDI:=λx j=>by
   rw[COH c j]
   .rw[CI];exact h.pb _ c
   .rw[CI]
  refine(FJP b0w CAA [] (g caps h.cb) caps).app ?_;exact FJP a5A ATM CAA (g _ c) _
 .unfold Dr.pricesL;have:=E5V BRS (IL h.pl);show ns.map (λn=>(lk ATM n).getD 0)=prices;rw[BPJ ((ns.map λn=>CQW ATM 0)=A4L ns.map lk ATM (λo=>o.getD 0)),this,List.map_map];refine Eq.trans (DKV p c) (List.map_id _);show(prO p).getD 0=p;unfold prO;obtain⟨h1,_⟩:=h.pb p c;split
  .rfl
  .show OJ=p;omega
def b4D{α β:Type}{K:qF}{src:NQ}{σ caps:L2.St}{Q:VK}{k1 k2:Bool}{a b:qE}(ca:A37)(g:β->V){xs:CJ}{ys:ABK}{H:Hp}{w:TT}{te:TE}(t:AIU α β)(f:BEU V)(A:MO)
  (c:FHF g)
  (n:APW) (r:∀x y H1 (m:XY),YA->BAX->KS->m (t x y) H1->w (CKJ g) H1 m) (o:BG0 m (YA->BAX->AY (t x y)->KS->A9D (E1Y m)->A1H (CKJ g) m))
  (hd:BQU (EZV (xK xs.zip ys))) :
  CompW src CVR w te σ Q tW H:=by
 rw[SZ B]
 rw[BSH AJF (ys.map g) A0V (zs=EZV (xK EMT i)) (BZI DK List.length_map Nat.le_trans cF lA)]
 .rw[BHK k a0l d l a0l];rw[B5Q DZ9 DZ9 B1B [g d] (g d) n (BS4 x' g d)];have u:EMT AM=(xs.zip ys).take i++[(x',d)]:=by
   rw[List.take_add_one];congr 1;rw[dH List.getElem?_zip_eq_some (z:=(x',d)) ⟨k,l⟩];rfl
  rw[AAI]
  .match j,e with
   |0,e=>rw[CI]
   |1,e=>rw[CI]
   |oO,e=>exact e
  .refine CL0 r C2W B8I s' ?_;rw[u,List.filter_append,List.map_append];cases e:t x' d with
   |true =>
    refine BWW (CL0 o C2W B8I e s') AOZ;rw[List.filter_cons,IP];rfl
   |false =>
    rw[KG s'];rw[List.filter_cons,PU (by rw[bA e])];simp
 .rw[yX zs];rw[BZM List.length_map (C0R (by rw[BOO List.length_zip]))];exact hd H' p s hp
def L3(x:Str):Str.empty++x=x:=Str.ext' (by rw[Str.cps_append];show #[]++x.cps=x.cps;simp)
noncomputable def Wg(x:Str):Prop:=DSN/\A0D x.cps.toList EVE
def b8r{a:AA}(h0:B8R)(d:zW 400)(h:GP a AVX):Wl a where
 ne:=h0
 wl:=AD
 no:=λx b=>⟨E4Z,E4Z⟩
 le:=by
  have:=AT9 a λy e=>(h y e).1;rw[A1Z this (DY6 d)]
def isNm.wg{n:Str}(h:C31):Wg n:=⟨VC XM,λc a=>by rw[nJ nF c a]⟩
def a6O{x:Int}(h1:eF):Wg (D7 x):=⟨by
 have:D4H 13:=BXC (by unfold topN at h1;omega);show E73;omega,λc a=>VC E8N⟩
def wg_lit:A3R "of"/\A3R "sum"/\A3R "cap"/\A3R "price"/\A3R "+"/\A3R "="/\A3R "0":=by
 rw[FFU DSN EVE AVX (B6A (λc a=>BZ7 (List.all_eq_true.mp h2 c a)))];refine(EU0 ?_ ?_)<;>exact EWG
def Tm.wg{ns t:AA}{j:Nat}{x:Int}(c:QZ)(h:CL1 t)(h1:eF):AMX:=by
 rw[CLV h b]
 .have hw:=(c.nm _ DFU).wg;rw[dU tmW]
  .rw[AQ (vR (AE uJ hw)) (C5C 2)]
  .rw[EC (ZX y) BV];rw[u8 AVW]
   .exact a6O h1
   rw[AOH hw]
 .rw[AQ (vR (GS uJ a6O h1)) (C5C 2)]
def b4S{a:Int}(f:QZ)(b:w9)(e:A2R)(d:BCL):A9M lD ((AMX)/\HH t):=λt c=>by
 rw[b2A b]at c;obtain⟨j,x,_,g,q⟩:=a8D (C5M b) c;rw[EC (q.wg f ?_) q.ne];rw[BQ7]
 .exact AJW e z
 rw[AOH d]
def b5l:∀{ts:FB},B10 AMX->AXH BAJ/\EH O7 ts<=3*ts.length
 |[],_=>⟨λx a=>AJR a,BV⟩
 |[t],h=>⟨gP h List.mem_cons_self,by have:=(wK).2;show t.length<=3*1;omega⟩
 |A3B,h=>by
  obtain⟨c,b⟩:=ER1 b5l;rw[OY d wK];rw[KG (ZX x)]
  .rw[mQ (A9L (show x∈ASE from a))]
   rw[vZ d]
   .rw[BM uA]
    .rw[AB z (ZD wg_lit.2.2)]
    rw[vZ c]
  .show lH t BM9<=_;rw[CAR List.length_append];rw[List.length_cons]at b;rw[CBA 0x69c04f958f4d32f233766dc8cb6267 b e]
def b5M{ts:FB}(h:A9M ts AMX):AXH (E1 ts)/\EH E1 ts<=3*ts.length+1/\(CC2->HH (E1 ts)):=by
 unfold E1;rw[FO ts []]
 .rw[IP];rw[AU (λx b=>AE (List.mem_singleton.mp b) (AZX wg_lit).2.2) AF A0S]
 .rw[GA];rw[IM (b5l h)];rw[AU h1 (iZ 0x3c103f9b597c28666) (λa=>b0V e a)]
def b0t(ns:AA)(xs:qI)(a:Int):tN N5 ns xs a<=B6R:=by
 unfold N5 a7f;rw[DD9 List.length_map];have h1:=List.length_filter_le EV2 (xs.zip ns);rw[FGP]
 split
 .rw[AB List.length_singleton (lq 88495846044719319 h1 h2)]
 .rw[AB List.length_nil (lq 0x3c2c967ac6ccad8d7 h1 h2)]
section
variable {P:qG}{w:World}{K:qF}{mg:BF}{base:Heap}
inductive spShT(vs:A0)(H:Hp)(Q:VK)(y_3:XK):Prop
 |mk (x:Int) (n:Str) (_:QA B79 (.str n)) (_:nH) (_:eF) (_:DZ3) (_:A8W (LI BEY)):HY spShT
def a8Q:wB "many" "name" "many" "name" a1e:={}
def a9g(F:ZM "show_term" a1e "many" "name")(T:AV):F8G:=by
 rw[BO a8Q i b m]
 rw[TJ x n]
 .rw[SO x n rfl h0 h1 hn k];rw[LH a]
  rw[EY4 (AJD K3) c3g EUA]
  .have e:x=1:=E6A;rw[tmW,IP]at k;exact DJ k
  .rw[SH e (x=1) CK2];rw[tmW,GA]at k;have j:=(a6O h1).1;rw[CGX l x x.toNat]
   rw[VE (DC ⟨x.toNat,by rw[<-l],CMO x.toNat h1,?_⟩)];rw[L3];have c:E73:=j;refine C55 (~~~c1G a c);rw[F5N d AMD c]
   rw[FZ g (IW (AMD++bk++n)<=41) B7 (c1O hn d)]
   refine ESX AMD d (TQ n (ZJ b3x hn) FBK FBK ?_);exact k
inductive spShTs(K:qF)(vs:A0)(H:Hp)(Q:VK)(y_3:XK):Prop
 |mk (nt np:qE) (k:Bool) (ns:AA) (xs:qI) (a:Int) (_:F3P) (_:A3M) (_:(kI (CYR k np))) (_:QZ) (_:jH) (_:w9) (_:A2R) (_:BCL) (_:A31 DVT):AS2 spShTs
def sc_show_terms:DA ["names","numbers","alone","terms"] BXO a0v:={}
def b7m{t:AA}(h:GP t AVX)(a:t.length<=2):iS t<=42:=by
 have:=AT9 t λy b=>(h y b).1;rw[A1Z this (B4O a)]
noncomputable abbrev d2h(nt:qE)(np:qE)(a:Int)(p:qE)(ns:AA)(xs:qI)(H:Hp)(σ:L2.St)(H':Hp):Prop:=σ=[C1Z,DX np,DS a,cA]/\DS9 DB4/\BL
def a7t(F:HA "show_terms" a0v BXO)(T:AV)(d:F8G):F9T:=by
 rw[BO sc_show_terms W I Z]
 rw[pC nt np k ns xs a]
 .obtain⟨nt,np,k,ns,xs,a,rfl,hn,m,hnm,hn7,hl,l,ha,kk⟩:=h;rw[LH R]
  rw[BU (eM (mV 3 sc_show_terms.nd (N:=["many","name"]) (src:=[none,none]) (AGE AKA)
 (mR D5E D5E)) (AC6 BCF) (F0 d Z.mono WV)
 (A3 (C3 (BQS Y5)
 (oU 3 (BN (CHI JJ)))
 B6)
 (FH (a6F (Y5 DLJ A7) (wN tO) B4))))]
  rw[FAP (b4S hnm hl l ha) J g g];rw[JK tl DMJ (AW7 k true np nt (EWU m) (OI hn))];rw[ER (UZ b4D [] V.int V.str (xs:=xs) (ys:=ns) (λx _=>EG B8T) (λx n=>AUR BEY) (AR 0x293bb70cc9ff404307458766 hn7 hl) (AID (m H' s) DNF) rfl (λx y H1 U _ _ s1 q=>BMK q) (λx y H1 U C G g s1 q=>UR _ rfl x y rfl (of_decide_eq_true g) (AJW l C) ((hnm.nm y G).wg).1 aG)) H1 p s1 O];rw[FF];have X:ETN AXP DPJ CTN:=by simp only[List.map_map];rfl
  rw[X];rw[BD9 B3U O];have e2:IH H1 p B3U p B3U:=A2;have f2:TZ:=s1.free O;rw[CKQ (upd H1 p B3U)];rw[CIR (d2h nt np a p ns xs H)]
  case fin =>
   rintro σ H3 ⟨rfl,L,S⟩;rw[FLF p (X3 L)]
   .have e:=oF;have j:HH lD:=λz=>by rw[z]at e;rw[DT e AH]
    have u:GR DYN (A5O 42):=λy D=>by rw[FT t g D];exact b7m (gP J g) (A29 J g)
    have M:bH wplus DYN=DVT:=by
     rw[a8f λt g=>A29 tm g,E1,BD j]
    have v:EF4:=by
     obtain⟨w1,w2,_⟩:=b5M J;have:=AT9 AJI λy D=>ANL w1 D;rw[A1Z this (DY6 (EZY hl w2))]
    refine⟨rfl,_,rfl,wplus,p,_,42,rfl,rfl,DP L,u,?_,AE M (b3I R v),?_⟩
    .rw[WX List.length_map CI6]
    .rw[AB M DZJ]
   .have j:lD=[]:=by
     cases Y:lD with
     |nil=>rfl
     |cons t r=>rw[Y]at e;exact rL decide_eq_true AF e
    have:=DZJ;rw[j,E1,EK]at this;rw[QB]
  refine ADX
  .have e:0<a:=oF;rw[CGX m a a.toNat]
   refine⟨_,rfl,OW e2,_,rfl,a.toNat,by rw[<-m],CMO a.toNat ha,p,_,_,rfl,rfl,e2,?_,?_⟩
   .have:=List.length_filter_le EV2 (xs.zip ns);rw[FGP]
    simp only[List.length_map];exact lq 0x2d1833c6c6e84b32d154dc2b03a8822f0ef168769 hn7 hl R this h2
   .refine LY (eX ?_ (EI b o l))
    .rw[ERO A2 N5 a7f IP]
    .rw[AB (rC l f2) (UW l)]
  .rw[SH e (0<a) A30];refine LY (eX ?_ s2);rw[e2,N5,a7f,GA,List.append_nil]
inductive spShR(K:qF)(vs:A0)(H:Hp)(Q:VK)(y_3:XK):Prop
 |mk (nt np:qE) (ns:AA) (xs:qI) (a:Int) (_:F3P) (_:A3M) (_:ID np ZN) (_:QZ) (_:jH) (_:w9) (_:A2R) (_ : -topN<=a) (_:BCL) (_:A31 (LI (BJ0 a9b))):AS2 spShR
def sc_show_row:DA ["names","row","side","left","right"] BXM a2v:={}
def a3r{a:Int}(d:QZ)(hn7:jH)(b:w9)(i:A2R)(h:BCL):EF4/\HH AJI/\AXH AJI/\EH E1 lD<=30:=by
 rw[FAP (b4S d b i h) k e e];have tl:=DMJ;rw[DI f g l b5M k];have:=AT9 AJI λy j=>ANL f j;rw[BW (BTJ Nat.le_trans this (B4O (EZY b g)) AH) (l λt e=>A29 tm e) f (~~~lq 0xcef898c40917ceaa95bdbe4c3daf4c14d658182a8768 hn7 b tl g)]
def b8U{l r:AA}(a:C40)(b:HH r):CYX (LI l)++C3F ++ LI r=LI EQZ:=by
 rw[BPL (EQZ=[wd "sum"]++(l++([wd "="]++r))),a0k AF AF,a0k a AF,a0k AF b];rw[CKT e1 "sum " DVX]
 rw[CKT e2 " = " (bk++(DVY))]
 rw[AAZ];show _=DVX++(LI l++bk++(DVY++LI r));rw[C05]
def b1b(F:HA "show_row" a2v BXM)(T:AV)(b:F9T):F9U:=by
 rw[BO sc_show_row z k r]
 rw[AHW nt np ns xs a]
 .obtain⟨nt,np,ns,xs,a,rfl,hn,hx,hnm,hn7,hl,hb,h1,h2,kk⟩:=h;rw[LH c]
  rw[BU (CA 3 sc_show_row.nd (EKA (A2U (Y7 (jv 2))))
 (CA 4 sc_show_row.nd (EKA (jaC (RU (C9A BR1
 C82) (Y7 (jv 0))) JJ))
 (SE c3g (AKT EZA))))]
  have e:=hb.neg;have d : -a<=topN:=DD6
  refine⟨_,rfl,_,rfl,_,rfl,_,rfl,nt,np,true,ns,xs,-a,rfl,hn,ZU hx,hnm,hn7,hl,hb,d,AMP⟩;rw[CF (LC _ rfl _ np rfl (OI DIY) ?_)];rw[ER (wM V2 fT xs (λx=>BPY) A0V uR (ZU DIY) rfl (A3P H2 L t j s2)) H2 p2 s2 g]
  .rw[A1G j t t];exact CF5 aG
  have l:=EJ7 D8A g;rw[A0J m (IH H2 p2 D8A p2 (OA (FE nV))) A2 List.map_map]
  generalize VI p2 (B3A BPY)=I at l m;rw[XU ⟨_,rfl,nt,p2,false,ns,nV,a,rfl,B6Y l,A2V m,hnm,hn7,DKS,e,h2,BH J G⟩];obtain⟨u,C,_⟩:=a3r (a := -a) hnm hn7 hl hb d;obtain⟨y,D,_⟩:=BC a3r xs nV a a hnm hn7 DKS e h2;have B:=b8U C D;rw[EJ0 g1 (IW CLA) 1004 "sum " 4 0x6df3158588d1027fceac80e5 u]
  rw[EJ0 n (lH CLA C3F) 1007 " = " 3 0x6f08c721a9682a4cc26b80e5 g1]
  rw[FZ p (IW (CLA++C3F ++ sJ bk E1 (N5 ns nV a))<=2007) B7 (lq 0x153beef6ae3b53fa343b242163a1080e6 y n)]
  rw[A2F];rw[L3];refine JZ (A06 4) _ (ED ⟨_,rfl,~~~b3I c u,A2A 0x14be6a7d0c3d34ee3803aae0ede g1,_,rfl,A2A 0x14be6b1bbadf91c11d43aae0ede n,_,rfl,ED (TQ _ (~~~b3I c y) EMY EMY ?_)⟩);rw[AB B (kk _ (l.trans G))]
def b1h(w:Str):F6T (ETN (FE (xK ns.zip cs λq=>(CS).isSome)) [w,CZ,C6O (CS).getD] ELG)
 |[],_=>EKD
 |iB,[]=>EKD
 |iB,A3I=>by
  have a:=b1h w ns cs;unfold a0E at a⊢;rw[List.zip_cons_cons,List.filter_cons,a3R];cases c with
  |none=>exact a
  |some x =>
   rw[EA (ABJ (AY (n,ZH).snd.isSome)),List.map_cons,a];rfl
inductive spShN(K:qF)(vs:A0)(H:Hp)(Q:VK)(y_3:XK):Prop
 |mk (w:Str) (nt np:qE) (k:Bool) (ns:AA) (cs:AK) (_:vs=[B39,AYM,AI np]) (_:A3M) (_:(kI (xX k H' np cs.map ovI))) (_:w.length<=20) (_:jH) (_:(DF n ns DZ3)) (_:(CMG cs)) (_:∀p H',DS9 ELG->TZ->BL->zZ):AS2 spShN
def a4L:DA B58 B58 V5:={}
def a4R(F:HA "show_numbers" V5 B58)(T:AV):F1P:=by
 rw[BO a4L D j J]
 rw[pC w nt np k ns cs]
 .obtain⟨w1,nt,np,k,ns,cs,rfl,hn,hx,hw,hn7,hnl,hb,kk⟩:=h;rw[LH a]
  rw[GL (E8Q "name" "number" "word" bK C4Y
 (mR D8Y D8Y) (AC6 (yM b5E L6)) (TN (c3g (gO O4 (AKT EUA)))))]
  refine AW7 true k nt np (OI hn) (EWU hx);rw[ER (UZ b4D [AGZ w1] V.str ovI (xs:=ns) (ys:=cs) (GF o o.isSome) (λn o=>AUR [w1,n,C6O o.getD]) (B2B hn7) (AID DNF (hx H' s)) rfl (λx y H1 C _ _ s1 q=>?_) (λx y H1 C c d I s1 q=>?_)) H1 p s1 l]
  .rw[ACZ];cases y with
   |none=>exact q
   |some z=>exact q
  .rw[LN z (Option.isSome_iff_exists.mp I)];obtain⟨L,B⟩:=hb z d;rw[CGX g z z.toNat]
   rw[AC G (a6O B).1 b (hnl x c)];have v:=aG;rw[F5N m w1 hw]
   rw[FZ r (IW A1Q<=41) B7 (c1O b m)]
   have t:B0G A1Q<=42:=by rw[B7,A1R];rw[DG 0x3b3b384131476e8e5 r]
   have u:BQA A1Q BUY<=62:=by rw[B7];rw[iU (_+EH D7 z<=_) 0x3b1b9d93b0080a8bb898226 G t]
   rw[VE (ED (HE _ E6F ?_))];rw[L3];rw[FQ (C55 E6F) (ESX w1 m ⟨_,rfl,~~~c1G a b,AZA (IW A1Q) b3z r,_,rfl,show B0G A1Q<=_ by rw[FX 0x6c602bfe710c15887aae0ede a t],_,rfl,DC ⟨z.toNat,?_,CMO z.toNat B,FBJ,FBJ,?_⟩⟩)]
   .show V.int z=_;rw[<-g]
   .have e:LI [w1,x,C6O (some z).getD]=A1Q++bk++BUY:=by
     show w1++bk++(x++bk++D7 z)=_;simp only[a1S];rfl
    rw[e]at v;exact v
  .rw[AB b1h (kk p _ A2 (s1.free l) (s1.upd l))]
inductive spShS(vs:A0)(H:Hp)(Q:VK)(y_3:XK):Prop
 |mk (v:V) (ns:AA) (rows:LLI) (sides:qI) (caps:AK) (prices:qI) (_:A7F v) (_:COX) (_:BCJ) (_:A31 (D72 ptW)):HY spShS
def sc_show_system:cI ["system","names","lines"] "system" Z3:={}
def a7K{rows:LLI}{sides:qI}{caps:AK}{prices:qI}(h:BCJ):DF g BVN (Wl g)/\DIF<=30:=by
 have m:∀(b:AK),CEM b<=7:=λb=>by
  rw[ACJ (J8 ns b).length_le];rw[KR h.n7]
 have c:∀(l:Str) (b:AK),Wg l->CMG b->∀g∈a0E l ns b,Wl g:=λl b hw B g f=>by
  rw[FT q n f];refine b8r AF (bP (3<=400)) λx d=>?_;rw[cL d];rw[B6J d rfl rfl]
  .exact hw
  .exact(h.nm.nm _ (B6N (J8 ns b).mem (QX q n))).wg
  .exact a6O (a7X B q n).2
 have k:CDI:=λx d=>by
  rw[COH k d]
  .rw[CI];exact h.pb _ k
  .rw[CI]
 rw[KG (BH g f)]
 .rw[DR2]
  .rw[EUR AF (by rw[List.length_cons];rw[AHG h.n7 85331137448418149])]
   .exact wg_lit.1
   .exact(h.nm.nm x z).wg
  .rw[CEJ]
   .rw[A8C DHI];rw[List.getElem?_zipWith]at hi;cases e1:rows[i]? with
    |none=>rw[AW e1 hi hi]
    |some r =>
     cases e2:sides[i]? with
     |none=>rw[F5G]
     |some sd =>
      rw[F5G];rw[ABD o s (MA h.rw r e1) C v (MA h.sb sd e2)];have j:=s.neg;obtain⟨_,_,t,u⟩:=a3r (a := -sd) h.nm h.n7 o s DD6;obtain⟨_,_,w,y⟩:=BC a3r xs (CR3 r.map) a sd h.nm h.n7 (IL o) j v;rw[EUR (by unfold a9b;simp) (by rw[ZW a9b List.length_cons List.length_append List.length_cons];rw[FX 0x22e45c8fd03ea84f4a6a31aaf4e6 u y])]
      .exact wg_lit.2.1
      .rw[CEJ]
       rw[vZ t]
       .rw[u8 uA]
        .exact BOH wg_lit
        rw[vZ w]
   .rw[CEJ]
    .exact c _ _ (ZD wg_lit) h.cb g z
    .exact c _ _ (UL wg_lit) k g z
 .unfold a3E a0E;rw[List.length_cons,List.length_append,List.length_append,List.length_map,List.length_map,List.length_zipWith];rw[AC h1 (m caps) h2 (EDB m)];have A:=h.rl;rw[EX8];exact lq 0x5f443b5fad4abdb744a15792240111db3a768 h1 h2 A
def c5N(h:DJ8):OG "of " ++ LI ns=LI AFO:=by
 rw[A5P (AFO=[wd "of"]++ns),a0k AF h];rw[CKT e1 "of " (B1D "of")]
 rw[e1];rfl
def a6e(F:XI "show_system" Z3 "system")(T:AV)(g:F9U)(d:F1P):F3D:=by
 rw[BO sc_show_system b0 a8 hr]
 rw[pC v ns rows sides caps prices]
 .obtain⟨v,ns,rows,sides,caps,prices,rfl,hS,hO,kk⟩:=h;rw[DXP]
  obtain⟨a,n,r,sd,c,pr,us,rfl,I,hn,O,hI,R,a0,L⟩:=hS.ex;have h0:DJ8:=λz=>by rw[KP hO.n1 z];rw[DT this AH]
  have hn7:=hO.n7;have b3:iS ns<=147:=by
   have:=AT9 ns λy l=>D0F;rw[A1Z this (B4O hn7)]
  rw[BU (ASO 1 sc_show_system.nd ASX
 (gR 2 sc_show_system.nd E4 (BN (a6G B4 (c3b K B4 IV)))
 (D99 (BN (RU (E8Q "row" "side" "names" xV (iW ASX ASX)
 (mR D9M D9M)) (F0 g hr.mono (DV 2 WV))))
 (F6H (A2U ASX)
 (F6H (DV 1 (BN (RU (A08 "price" (F5 K ASX)
 (mL "price")) (a6F BCF DY L6))))
 (FH (wN JJ)))))))]
  rw[F10 a _ AC2 ⟨rfl,_,rfl,bk,n,ns,20,rfl,rfl,GE hn,CHY,SD A1R,AD,_,_,rfl,rfl,y9 (3+_<=_),A06 1,AA0 hp⟩];rw[c5N h0];rw[FF];have fp:TZ:=hp;rw[XR (DW A5Z) hp];rw[PJ e1 H p A5Z p A5Z];rw[AE2 (bI H A5Z) e1];refine⟨_,rfl,OW e1,_,rfl,a,_,1,_,rfl,rfl,DFT,rfl,_,rfl,a,_,2,_,rfl,rfl,DFT,rfl,true,true,r,sd,rfl,(OI (HR O)),(OI C3V),?_⟩;have a4:=hO.rl;rw[LV (BC O6 K K k1 true (k2:=true) (a:=r) (b:=sd) (xs:=us) (zs:=PV sides.map) (by rw[KO GW]) (OM zs (AVV H'/\zs=AU3 (FW (AX8 D3X rows sides take) i) V.str)) ⟨Same.refl H1,AF⟩
   (EM6 (HR O) C3V (by rw[DK,List.length_map,List.length_map];exact lA))) ?_]
  .rintro i x z zs H' q hx l ⟨s',rfl⟩ hq;obtain⟨U,t,a7⟩:=hI.2 i x hx;rw[bC sv S a0l l];have s2:AVV (YN H' q [x,DO sv]):=s'.upd hq;rw[A3S W];rw[HG b Z a7];rw[ABD r1 r2 (MA hO.rw U t) b1 b2 (MA hO.sb sv S)];refine⟨q,_,rfl,GE A2,rfl,_,_,rfl,_,[],rfl,rfl,CSC,?_⟩
   .match j,e with
    |0,e=>rw[CI]
    |1,e=>rw[CI]
    |oO,e=>exact e
   .refine⟨_,rfl,_,rfl,_,rfl,n,b,ns,U,sv,rfl,B6Y W,AG W Z,hO.nm,hn7,r1,r2,b1,b2,λH3 u=>HJ (s2.trans u)⟩;rw[ERO List.take_add_one List.getElem?_zipWith t S]
  rintro zs H' ⟨s',rfl⟩ q hq;rw[uI (C0R (by rw[WX List.length_zipWith GW]))];generalize G:E9R=k;have m:k.length<=6:=by rw[<-G,List.length_zipWith];rw[EX8];rw[DG 0x111f82cfedcce25a6 a4]
  have s2:=s'.upd (o:=B3T) hq;rw[MK e2 H' q B3T q B3T];have C:=ACV;have qp:q≠p:=A8 (mG e1) hq |>.symm;rw[ANA (upd H' q B3T) s2 e2 C];have hk:∀(cs:AK),CEM cs<=7:=λcs=>by
   rw[ACJ (BDP length_le)];rw[QE 85026750973216614 hn7]
  refine⟨p,q,_,_,rfl,rfl,C,e2,by show 1+_<=_;rw[DMX List.length_map],?_⟩;have up:∀{Hx:Hp}{o:HO},NZ Hx->NZ (upd Hx p o):=λsx b o Z=>AE (rC Z fp) (AG sx Z)
  have u:NZ (bI H2 BEL):=DZG up;rw[PJ Y H2 p BEL p BEL];generalize bI H2 BEL=H3 at u Y;refine⟨_,rfl,OW Y,_,rfl,_,rfl,a,_,3,_,rfl,rfl,bQ u I,rfl,A72,n,c,true,ns,caps,rfl,B6Y u,ZU (AG u a0),AH,hn7,CHY,hO.cb,DQ p4 H4 e4 f4 s4⟩;have J:=hk caps;have b4:p≠p4:=A8 Y f4;refine⟨p,p4,_,_,rfl,rfl,ABQ Y,e4,by rw[EVJ];exact lq 0x4109f6d67e8d99c3f358b3e48d0dc6a2e4f hz m J,?_⟩;have X:NZ (bI H4 AMY):=up (u.trans s4);rw[PJ e5 H4 p AMY p AMY];generalize bI H4 AMY=H5 at X e5;refine⟨_,rfl,OW e5,_,rfl,_,rfl,a,_,4,_,rfl,rfl,bQ X I,rfl,pr,rfl,OI E4J,?_⟩;rw[ER (wM V2 (PV prices.map) prices (λx=>BNP) (by rw[BZN];rw[KR hO.pl]) uR (ZU E4J) rfl (A3P H6 Q6 hv a6 s6)) H6 p6 s6 M]
  .rw[A1G a6 hv hv];rw[JK q0 aG ADX]
   .rw[prO,BLS of_decide_eq_true]at q0;exact DJ q0
   .rw[prO,B8U A30]at q0;exact q0
  have s7:=X.trans (s6.upd (o:=BSA) M);rw[A0J e7 (IH H6 p6 BSA p6 (BK7 (FW prices.map prO))) A2 List.map_map]
  have D:=A9W (s6.upd (o:=BSA) M) e5;generalize GO H6 p6 (prices.map λx=>BNP)=H7 at s7 e7 D;have a3:CDI:=u9 (by
   rw[COH hp hx]
   .rw[CI];exact hO.pb _ hp
   .rw[CI])
  refine⟨AJU,n,p6,false,ns,BRS,rfl,ANE hn,A2V e7,AH,hn7,CHY,a3,DQ p8 H8 e8 f8 s8⟩;rw[JK a1 (EDB hk) ⟨p,p8,_,_,rfl,rfl,ANF s8,e8,by rw[EVJ];exact lq 0x74c1d4e39ead8a829463bff5e493bf54d0dc6a2e50 hz m J a1,?_⟩];have s9:NZ (bI H8 EBR):=up (s7.trans s8);rw[fN hw a5 a7K hO];have a9:=b5j hw (~~~c1e a5);have a2:EBR=A4L lnW D1E prices V.str:=by
   unfold lnW a3E;rw[G];simp only[List.map_cons,List.map_append,List.append_assoc,List.singleton_append,List.cons_append,List.nil_append]
  rw[a2]at s9⊢;refine⟨rfl,_,rfl,lf,p,E9B,10000,rfl,rfl,YQ,BH y l,?_,by show EH ptW _<=_;omega,kk _ s9⟩
  .rw[FT ws hws l];exact(hw ws hws).le
  .rw[WX (C64 (IW E9B) DIF) (A5P (lf.length=1))]
#where
#where
section
variable {j m:Nat}{x:Str}
def a1m(c m:Nat):CYY a2C m=C5N c:=by
 unfold a2C;show xD m [c] flatten.toArray.toList=_;rw[List.toList_toArray];induction m with
 |zero=>rfl
 |succ m a=>rw[CD2 a]
def c8z{c:Nat}(h1:97<=c)(h2:c<=122)(d:B06)(e:m<=8):isNm (a2C KW m):=by
 have a:KQ a2C KW m=m:=by
  show(a2C KW m).cps.size=m;rw[AI0 a1m List.length_replicate]
 rw[FK (ZJ c2k d) (AR 0x465794ac2afdbb5dd26 e a) AQT];rw[a1m]at b;rw[(List.mem_replicate.mp b).2];rw[AQ h1 h2]
def c4O{c d k:Nat}(h:a2C KW m=a2C (pV d) k)(a:B06):c=d:=by
 have e:List.replicate m c=BTN d:=by rw[<-a1m,<-a1m,h]
 have:c∈BTN d:=by rw[<-e];rw[WL List.mem_replicate.mpr (WR c0E) rfl]
 exact(List.mem_replicate.mp this).2
def c8A{c:Nat}{p q:Nat}(hp:p∈x.cps.toList)(a:q∈x.cps.toList)(h:p≠q):DSQ:=λz=>by
 rw[<-z,a1m]at hp a;exact h (AJQ (List.mem_replicate.mp hp).2 (List.mem_replicate.mp a).2.symm)
noncomputable def six:AA:=[wd "sum",A72,AJU,wd "of",A7D,wd "step"]
def c8t:C2Q six:=by
 rw[FFU (C3C/\x.length<=8) CJW BPZ ⟨h1.1,h1.2,λc b=>BZ7 (List.all_eq_true.mp h2 c b)⟩];rw[BW7 six];rw[cL a];rcases a with rfl|rfl|rfl|rfl|rfl|rfl<;>exact EWG
def c4z(c m:Nat):D85∉six:=by
 have key:∀x:Str,(∃p q,GD x.cps.toList 0 p/\GD x.cps.toList 1 q/\p≠q)->DSQ:=λx ⟨p,q,h1,h2,a⟩=>c8A (List.mem_of_getElem? h1) (List.mem_of_getElem? h2) a;unfold six;rw[B1Q];refine⟨AEH 115 117,AEH 99 97,AEH 112 114,AEH 111 102,AEH 108 101,AEH 115 116⟩<;>with_unfolding_all rfl
def c8u:six.Nodup:=AH
structure NmI(L R:AA):Prop where
 nd:L.Nodup
 nm:C2Q L
 ap:GP L (x∉R)
 rd:R.Nodup
 rm:C2Q R
def a2D{α:Type}{L:CJ}{x y:α}(h:y∈EFK):y∈L∨y=x:=by
 rw[BM (List.mem_or_eq_of_mem_set h)]
 rw[GX z]
 rw[JM z]
def b6Z{L:AA}(h:L.Nodup)(a:x∉L):(L.set j x).Nodup:=by
 induction L generalizing j with
 |nil=>exact h
 |cons y r b =>
  rw[BCS];cases j with
  |zero=>rw[WL List.nodup_cons.mpr (CBB a) h2]
  |succ j =>
   rw[DE9 ⟨ANZ,b h2 λz=>a AYQ⟩];rw[BM (a2D z)]
   .exact h1 z
   .exact a (ABT z)
def c0j{R:AA}{k:Nat}(h:R.Nodup)(a:EIN):x∉R.eraseIdx k:=by
 induction R generalizing k with
 |nil=>cases a
 |cons y r b =>
  rw[BCS];cases k with
  |zero=>cases a;exact h1
  |succ k =>
   rw[List.eraseIdx_cons_succ];intro z;rw[BM uA]
   .rw[z]at a;exact h1 (List.mem_of_getElem? a)
   .exact b h2 a z
def NmI.step{L R:AA}{k:Nat}(h:CIX)(b:EIN):NmI EFK (R.eraseIdx k):=by
 have c:x∈R:=DFU;refine⟨b6Z h.nd λz=>h.ap x z c,ZX y,ZX y,h.rd.sublist (List.eraseIdx_sublist ..),vR (h.rm y (EWF a))⟩
 .rw[BM (a2D a)]
  .exact h.nm y z
  .rw[AB z (h.rm x c)]
 .rw[BM (a2D a)]
  .exact λq=>h.ap y z (EWF q)
  .rw[AB z (c0j h.rd b)]
def c3y{α β:Type}(f:DWD):∀(R:CJ) (j:Nat),(R.map f).eraseIdx j=FW R.eraseIdx j f
 |[],_=>rfl
 |EY,0=>rfl
 |vJ,JL=>by rw[List.map_cons,List.eraseIdx_cons_succ,List.eraseIdx_cons_succ,List.map_cons,c3y f r j]
noncomputable def nmF(f s g:Int)(k:Nat):Str:=a2C (pV (97+CAX)) (1+BTW k g)
def c0l{f s g:Int}(p:0<=f/\f<26)(hs:s∈BD4)(q:0<=g/\g<8)(l:m<=7):NmI (B9R (nmF f s g)) six:=by
 have h:∀k:Nat,97<=97+CAX/\97+CAX<=122:=λk=>by
  have:=Int.emod_lt_of_pos BR3 DSB;rw[nJ Int.emod_nonneg BR3 CZ6]
 have o:∀k:Nat,1+BTW k g<=8:=λk=>by
  rw[nJ Int.emod_lt_of_pos (k*3+g) (A89 8)]
 refine⟨?_,AQT,AQT,c8u,c8t⟩
 .rw[CGA];refine List.Pairwise.imp_of_mem (FBY c (a:i<j)) (List.pairwise_lt_range (n:=m));rw[List.mem_range]at hi c;have:=c4O e AD;rw[SQ (CE5 C8V) (CE5 C8W)];have key:∀s∈BD4,∀d∈AN1 7,d≠0->A6S (s*BG d)≠0:=by decide
  have e2:A6S C8V=A6S C8W:=(Int.toNat_of_nonneg h1).symm.trans (AIZ congrArg Int.ofNat (Nat.add_left_cancel this) (Int.toNat_of_nonneg h2));refine key s hs AYV (List.mem_range.mpr (AR 0x4707ffd6769f4df350ca7c767 l c)) (aM 0x111feb6a56eaf1696) ?_;rw[AZ (show s*EU AYV=(C8W)-(C8V) by rw[F2 (Int.ofNat_sub (Nat.le_of_lt a)) Int.mul_sub lq 0x30d0deb03b61ad8e]) Int.emod_eq_emod_iff_emod_sub_eq_zero.mp e2.symm]
 .rw[C7L k];exact c8z (h k).1 (h k).2 AD (o k)
 .rw[C7L k];exact BZ c4z
def c9v:∀i:Nat,i<26->CC lts.cps.toList (97+i):=by
 rw[E6C [97,98,99,100,101,102,103,104,105,106,107,108,109,110,111,112,113,114,115,116,117,118,119,120,121,122]]
 rw[bA e]
def two_at(x y:Int)(c:Bool):∃m:Int,atI [DO x,BP y] (QO c 1 0)=B02/\(m=x∨m=y):=by
 cases c
 .rw[NH x OP]
 .rw[NH y C0Z]
section
variable {P:qG}{w:World}{K:qF}{mg:BF}{base:Heap}
inductive spNms(vs:A0)(H:Hp)(Q:VK)(y_3:XK):Prop
 |mk (a b:qE) (_:AC8) (_:NW) (_:∀t ns H',E61->QZ->B8G->jH->QN->NF->AUW t):HY spNms
def sc__law_names:DNH ["_law_pot_here","_law_letters","_law_many","_law_first","_law_step","_law_longer","_law_names_here","_law_words","_law_k"] a0B:={}
noncomputable abbrev d2g(a:qE)(m:Nat)(fi:Int)(st:Int)(gi:Int)(p9:qE)(p11:qE)(b:qE)(H:Hp)(σ:L2.St)(H':Hp):Prop:=FL1 (EHN/\CIX/\L.length=m/\QN/\NF)
noncomputable abbrev d2f(a:qE)(m:Nat)(fi:Int)(st:Int)(gi:Int)(p9:qE)(p11:qE)(b:qE)(H:Hp)(i:Nat)(σ:L2.St)(H':Hp):Prop:=FL1 (EHN/\SA p11 (JR R.map)/\CIX/\L.length=m/\R.length+i=6/\QN/\NF)
def b9Z(F:DNS "_law_names" a0B)(T:AV)(c:AEL)(u:BHW):F3B:=by
 rw[BO sc__law_names e4 d7 J]
 rw[TJ a b]
 .rw[F64]
  rw[BU (ASO 1 sc__law_names.nd B4
 (CA 2 sc__law_names.nd (O9 A7 (AY7 (BN (EA5 (B9X ARK)))))
 (A3 (a9J (O8 (pX ARK (F3S u J.mono (pX A7 A7 UC)) (BN ARK))) (J3 K 3 (B5 (CJ9 3) (AUS (CJ9 4) (CJ9 5)))))
 (eM (mV 6 sc__law_names.nd (N:=DBM) (src:=[none,xV,AO 3,BO0,AO 5]) (CHH JJ)
 (WG DBM)) pT (c9T (yM c7S (C67 (gO O9 (GC a3p 3 DY)))) (O9 A7 (a3q (O9 (AJD a3p) (jv 4)) A7)))
 (gR 7 sc__law_names.nd E4 (A8K B4 B4 B4 E9H)
 (A3 (CC0 ARK
 (A5 (mX (AT2 (c9P rfl T.b_min (DV 2 (BN (O9 A7 ARK))))) 8 sc__law_names.nd
 (A5 (a9J (pP b1J 7 (BN (AY7 (BN (xM (eQ 7)))))) (GC b3Z 6 (AY7 JJ))))))
 B6)
 (BQ4 C1T)))))))]
  refine A05 (BB3 b3m) p1 b1;have q1:SG p1:=E5 hP b1;rw[XR (DW B1G) b1];rw[PJ e1 H p1 B1G p1 B1G];have P1:=hP.same s1;have o1:C3O E6J:=s1.off;generalize E6J=H1 at s1 e1 P1 o1;refine aX 4 P1 (λr2 H2 _ _ P2 f2=>vK);rw[F6W b0 d3 4 7 r2 ⟨_,rfl,p1,_,_,_,rfl,rfl,B7F f2 q1 e1,b0,a,b,mi,rfl,P2,AD,iI (AIT (mi<=7)),F8D c6 c7⟩];rw[XU (BX9 ?_)];have o3:=GK o1.trans f2 f3;rw[cB m hm (fW m (1+r3=UI)) (yH 1 r3) AD];rw[ABR v (B06/\m<=7)]
  rw[hm];clear f2 f3 P1 P2 s1 e1 c6 c7 hm b0 d3;rw[FQ (aX 26 P3 (EE g H4 c0 c3 P4 f4)) (A05 (zK 6 c0G) p5 a0)];have q5:SG p5:=E5 P4 a0;rw[eC s5 H4 B5T a0];rw[PJ e5 H4 p5 B5T p5 B5T];rw[AC P5 (P4.same s5) o5 (GK o3.trans f4 s5.off)];generalize GO H4 p5 B5T=H5 at e5 P5 o5;refine⟨a,b,p5,_,rfl,P5,e5,q5,AH,AH,DQ sv H6 b4 P6 f6⟩;obtain⟨st,b3,rfl⟩:∃st:Int,st∈BD4/\yD sv st:=by
   rw[B0E x hx (show sv∈PV (CVY:qI).map from b4)];rw[AU x hx e.symm]
  refine aX 8 P6 (EE l H7 c4 c5 P7 f7);have o7:=GK o5.trans f6 f7;rw[EQ D80 p8 b2];rw[eD s8 H7 B5M b2];rw[eN e8 H7 p8 B5M p8 B5M];rw[AC P8 (P7.same s8) o8 (o7.trans s8.off)];generalize YN H7 p8 B5M=H8 at e8 P8 o8;clear s8 b2 o7 f7 P7 o5 f6 P6 s5 a0 e5 P5 o3 f4 P4 P3 b4;refine FMC p8 e8 [];rw[CF (F2G m)];have d5:0<=st/\st<=11:=(AH:∀s∈BD4,0<=s/\s<=11) st b3;rw[BZO];rw[ER (a5U (caps:=[CXX,DS g,CWQ,B2P]) (λk=>B1V F8P) (B2B v.2) rfl (BY0 H9 Q9 s9)) H9 C s9 I]
  .rw[CA2 m1 AYD DSB m0 (CE5 AYD)];rw[CA2 n1 ELD (A89 8) n0 (CW5 ELD (CV7 8))];have c9:atI lts.cps.toList DPW=some (97+BCR):=by
    rw[T6 (K0 (c9v BCR AD)) (B45 BCR DPW)]
   rw[FQ ⟨_,rfl,_,rfl,_,rfl,_,rfl,_,_,rfl,rfl,BF6,_,_,rfl,rfl,_,_,rfl,rfl,BK3 (OJ<26),lts,_,_,rfl,rfl,AEA 26 0x69b830c3eade6e0edd,c9,?_⟩ ⟨_,rfl,_,_,rfl,rfl,BF6,_,rfl,_,_,rfl,rfl,_,_,rfl,rfl,BK3 (OJ<8),_,_,rfl,rfl,pV (97+BCR),ETH,rfl,?_,C5C 10,AD,q⟩];show A0Z (1+(UJ*3+l) % 8) (EU ETH);congr 1;omega
  have hI:=c0l ⟨c0,c3⟩ b3 ⟨c4,c5⟩ v.2;have c8:(B9R λk=>V.str F8P)=FW B9R CMW V.str:=by rw[BMV]
  rw[c8];have Z:EH B9R CMW=m:=by simp
  generalize lE List.range m CMW=L0 at hI Z;rw[FF];have P9:=P8.same s9;have q9:SG C:=E5 P9 I;have f9:EN C:=a3d (o8.trans s9.off) P9 I;have a3:=s9.upd (o:=B2M) I;rw[MK G H9 C B2M C B2M];rw[AC y (P8.same a3) M (o8.trans a3.off)];generalize upd H9 C B2M=X at G y M;rw[EQ (zK 6 c0G) d r];have D:SG d:=E5 y r;have b9:EN d:=a3d M y r;rw[PX S X B2N r];have W:C≠d:=A8 G r;have a8:IH X d B2N d B2N:=A2;rw[dV z S G a4 (y.same S)];have a1:=M.trans S.off;rw[ABJ ([YV "sum",YV "cap",YV "price",YV "of",YV "least",YV "step"]=six.map V.str)];rw[FF];generalize upd X d B2N=e0 at a8 z a4 a1;clear S a3 y M s9 P9 I P8 o8 e8 G r;rw[CIR (FIX d2g)]
  case fin =>
   rintro σ H' ⟨o8,L,R,rfl,e,hN,U,P',o'⟩;refine eV C _ (A4U (SqL.of e) t ht);exact k t L _ A2 ⟨hN.nd,hN.nm⟩ (~~~c2k v.1 U) (AR 0x4657949b54c2ca58766 v.2 U) (P'.same (C2F ht)) (o'.trans (C2F ht).off)
  refine aX 2 a4 (λe9 e2 _ _ a5 B=>JZ rfl _ lN)
  .refine BHJ 3 a5 (EE O e3 d8 d9 b6 Y);rw[AC d6 (DKA B Y) b7 (bR Y q9 B q9 z)];have b8:=bR Y D B D a8;obtain⟨n,hn,d4⟩:fW n ((FGK)=EV/\n<=3):=⟨TW FGK,by split<;>omega,by split<;>omega⟩;rw[DMM ⟨_,_,rfl,rfl,_,_,rfl,n,WO hn,AD,AD,?_⟩];rw[CJU (n:=n) (FIX d2f) ⟨_,L0,six,rfl,b7,b8,hI,Z,rfl,b6,d6⟩]
   .rw[FKQ o8 L R hN U hR];rw[FF];have hm:EU R.length<rN 100:=iI (show GY (BG R.length) by rw[DG 0x33b819d9ca234831dc284996 hR]);refine⟨_,rfl,OW c2,_,rfl,_,rfl,d,_,rfl,X3 c2,a,b,_,rfl,P',ACP 0x1e895693d5305e3343a70223b7067 d4 hi hR,IL hm,EE r1 H1 e7 a2 P1 f1⟩;rw[List.length_map]at a2;rw[AB4 j j (r1=j) r1.toNat];have hj:j<R.length:= ~~~c1z a2
    have d2:=AJ f1 D c2;have d0:seqIndex? aC (ACB R.map)=some j:=by
     rw[AB List.length_map (seqIndex_of A0G AD)]
    refine⟨d,_,_,j,B1V R[j],rfl,rfl,d2,AD,AD,d0,UH List.getElem?_map ALQ,?_⟩;rw[AC d1 (AJ f1 q9 c1) P2 (U5 (o:=AL0) P1 D)];have o2:=BC a3Q p d o AL0 (o'.trans f1) b9;rw[FZ a6 (IH H1 d AL0 C D30) (A6 W) d1]
    have a7:IH H1 d AL0 d (BQ1 R.eraseIdx j):=by rw[A2,c3y]
    generalize upd H1 d AL0=H2 at P2 o2 a6 a7;refine⟨_,rfl,_,rfl,_,rfl,a,b,m,rfl,P2,~~~b3K v.1,iI (show UI<=7 by exact c2n v.2),F8D f0 b5⟩;rw[AB4 i2 j (r3=j) r3.toNat];have e6:i2<L.length:= AR 0x46fb2449bf7b0ab5957 U b5
    have a9:ixN (ACB L.map) (BG i2)=some i2:=by
     rw[FC8 (AR 0xd9612dd1e40fd00fb5957 U b5)]
    rw[FQ ⟨C,_,_,i2,rfl,rfl,B77 q9 a6,a9,?_⟩ ⟨_,L.set i2 R[j],R.eraseIdx j,rfl,GT A2 List.map_set,GI W.symm (B77 D a7),B6P hN.step hj,DEF U,GU List.length_eraseIdx (EA hj) (lq 0x111dcda07c2f3348150cd3e55e746204173e77f0bc997 hR a2),U5 P3 q9,a3Q (o2.trans f3) f9⟩]
   .rintro σ H' ⟨o8,L,R,rfl,c1,c2,hN,U,hR,P',o'⟩;exact LY ⟨_,L,R,rfl,c1,hN,U,P',o'⟩
  .exact LY ⟨_,L0,six,rfl,AJ B q9 z,hI,Z,a5,a1.trans B⟩
#where
def a5f{α:Type}{f:A37}{Pr:SJ α}:∀{ys:A0},DF y ys (∃x,y=f x/\Pr x)->∃zs:CJ,ys=zs.map f/\BZE zs.length/\v4 zs (Pr z)
 |[],_=>(AON [] (λz a=>AJR a))
 |HX,h=>by
  rw[HG x d DQC];obtain⟨zs,rfl,e,a⟩:=a5f (ys:=ys) λu c=>h u B7Y;rw[BW (x::zs) rfl AF (λz b=>by rw[QI AC3 q];exact d;exact a z q)]
section
variable {P:qG}{w:World}{K:qF}{mg:BF}{base:Heap}
def a6U{src:NQ}{σ caps:L2.St}{Q:VK}{H:Hp}{a b t:qE}{xs:A0}{te:TE}(R:C6C)(m:MO)(d:YC)(k:NW)(l:VU t xs)
  (f:CPR)
  (hd:EAM):DSE Itt:=by
 rw[SZ o]
 refine VF S7 t xs (~~~W5 m o) CNC COB (ET4 (GE (AJ BZR (J9 k l) l))) ?_ ?_
 .rw[FL6 n]
  .exact h2 y z
  rw[AOH n]
 rw[CQ9]
def c3D{src:NQ}{σ caps:L2.St}{Q:VK}{H:Hp}{a b t:qE}{xs:A0}{te:TE}(R:C6C)(l:MO)(d:YC)(k:NW)(n:A56 t)(m:SG t)
  (f:CPR)
  (hd:EAM):DSE Itl:=by
 rw[SZ q]
 refine VF R8 t xs (~~~W5 l q) CNC COB (ET4 (B7F BZR m n)) ?_ ?_
 .rw[FL6 o]
  .exact h2 y z
  rw[AOH o]
 rw[CQ9]
def SysAt.pot{H H':Hp}{a b:qE}{v:V}{ns:AA}{rows:LLI}{sides:qI}{caps:AK}{prices:qI}(h:COX)(d:NW)(o:NF):CPK:=by
 obtain⟨c,n,r,t,k,p,us,e,e1,e2,f,l,g,i,j⟩:=h.ex;exact⟨c,n,r,t,k,p,us,e,ACX e1 e1,ACX e2 e2,ACX f f,Its.pot l d o,ACX g g,ACX i i,ACX j j⟩
def a9N{ys:A0}{lo hi:Int}(h:GR ys (∃x,yD y x/\(CMJ))):∃xs:qI,C6Y xs.map/\C6U/\dL CMJ:=a5f h
inductive spSml(vs:A0)(H:Hp)(Q:VK)(y_3:XK):Prop
 |mk (a b:qE) (_:AC8) (_:NW) (_:∀v ns rows sides caps prices H',CPK->BCJ->DF r rows (GP r CKI)->QN->NF->y6):HY spSml
def sc__law_small:DNH ["_law_pot_here","_law_names_here","_law_rows","_law_k","_law_sides","_law_caps","_law_prices"] a0A:={}
noncomputable abbrev d2e(a:qE)(t:qE)(pr:qE)(ns:AA)(b:qE)(H:Hp)(i:Nat)(σ:L2.St)(H':Hp):Prop:=∃o3 us rows,σ=[RQ,C1X,DX pr,o3,none,none,none]/\iQ pr us/\UM us rows/\rows.length=i/\DF r rows (ALJ ns.length (GP r CKI))/\E61/\QN/\NF
def b9V(F:DNS "_law_small" a0A)(T:AV)(c:AEL)(l:BHW)(C:F3B):F3E:=by
 rw[BO sc__law_small i5 i2 B]
 rw[TJ a b]
 .rw[F64]
  rw[BU (CA 1 sc__law_small.nd (gD C B.mono a2E WH)
 (ADE 2 sc__law_small.nd
 (A3 (mX (AT2 (D9R (iW (F3S l B.mono UC) EK9) (B9X EK9))) 3 sc__law_small.nd
 (oU 2 (BN (EJE (CK9
 CDA)))))
 (CA 4 sc__law_small.nd (EJE (BR2 "_law_row" (AJ6 2)
 (BQY "_law_row")))
 (CA 5 sc__law_small.nd (EZ0 (CK9
 CDA) L6 L6 BWN)
 (CA 6 sc__law_small.nd (EZ0 (CK9
 CDA) A7 BWN (CUK (A2U EHY)))
 (SE O8 (DV 1 (jaC (AY9 JJ) (DV 4 (DV 5 C1T)))))))))))]
  rw[XU (ZV a b hP (λt ns H1 ht g9 h1 h7 P1 o1=>?_))];rw[aR pr a7];have fr:EN pr:=a3d o1 P1 a7;have qr:SG pr:=E5 P1 a7;rw[BDB OO a7];rw[fL e2 H1 pr OO pr []];generalize ALM pr []=H2 at s2 e2⊢;rw[AC P2 (P1.same s2) o2 (o1.trans s2.off)];have b7:=UW ht;clear s2 a7 o1 P1 ht;rw[CF (A05 (AEA 4 0x69714aa7b8086e0edd) p3 b5)];rw[eC s3 H2 [AGI,AW9,AW9,DO 2] b5];rw[F6J b5 (DQ r4 H4 b6 P4 f4)];obtain⟨x4,rfl,f1,f2⟩:∃x,yD r4 x/\RJ/\x<=2:=by
   rw[cL b6];rcases b6 with e|e|e|e<;>exact(cM e AH AH)
  rw[AC o4 (GK o2.trans s3.off f4) c8 (ABW f4 (nQ e2))];have b8:=AJ f4 (J9 (P2.same s3) DQT) DQT;clear s3 f4 b5 b6 P2 o2 b7 e2;refine aX 7 P4 (λr5 H5 f3 g0 P5 f5=>nP (BB3 b3m) S L);have q6:SG S:=E5 P5 L;rw[eC s6 H5 B55 L];rw[PJ e6 H5 S B55 S B55];generalize GO H5 S B55=H6 at s6 e6⊢;refine aX 8 (P5.same s6) (λr7 H7 _ _ P7 f7=>vK);rw[AC a5 (GK f5.trans s6.off f7) o7 (o4.trans a5)];rw[AC c9 (ABW a5 c8) d7 (vE a5 P4 b8 b8)];rw[F6W d3 g7 x4 r5 r7 (BWU S _ (B7F f7 q6 e6) d3 mi rfl AD AD ?_)];rw[AB4 m g (mi=g) mi.toNat];rw[ABR b4 (m<=6)]
  rw[BZO];clear o4 f5 s6 f7 a5 P4 P5 c8 b8 e6 f3 g0 d3 g7 f1 f2;have d9:pr≠t:=XE c9 d7;rw[CJU (n:=m) (d2e a t pr ns b H) ⟨_,[],[],rfl,c9,.nil,rfl,λr B=>AJR B,d7,P7,o7⟩]
  .rw[FKQ o3 us rows c3 c4 c5];rw[CF (ETP (OW c1) t (OI c5))];refine CLD (CL6 CKI) P' c5 (FAD (aX 7 P6 (FBP 0x4a24c03b69da77236 0x2a3eaa4bfa9baf16))) FHT;rw[FBO xs h9 h8 h9 ZT];rw[FK3 ZN ZT ZN ZN ZT ZN];rw[AC f8 (f6.trans s8.off) W (ABW f8 c1)];have O:=Its.pot c2 P' f8;rw[FQ (LC pr us _ rfl W (GU O.1 c3 (lq 0xcf6601d9b0c9ef07146ae0edf hz b4 hi)) ?_) ⟨_,us++[V.ref p8],rows++[xs],rfl,A2,(O.snoc (D4 p8 e8)).put W,C5M c3,ANO B,GI d9.symm (vE f8 P' c5 c5),EDG s8 qr,a3Q (o'.trans f8) fr⟩];rw[BM (List.mem_append.mp B)]
   .exact c4 r z
   .rw[ZF];rw[AQ AD h8]
  .rintro σ H' ⟨o3,us,rows,rfl,c1,c2,c3,c4,c5,P',o'⟩;have d1:∀{xs:qI}{lo hi:Int},-4<=lo->hi<=4->B98 CMJ->A2R:=λh1 h2 h x hx=>by have:=h x hx;rw[CB6]
   refine aH pr c1;refine UZ c3D AVO (λu=>CL6 (-4<=x/\x<=4)) (AJT c2.1 0x293bb70cc9ff4043074531a6 b4 c3) rfl P' c1 qr (FAD (aX 9 P6 (FBP 0x4a2697aa0e7a53236 0x2a5c218b172f7116))) FHT;rw[FBO j h5 h4 h5 BTO];rw[FK3 B2U BTO B2U B2U BTO B2U];rw[AC f8 (f6.trans s8.off) P8 (P6.same s8)];rw[AC o8 (o'.trans f8) W (ABW f8 c1)];rw[AC O (Its.pot c2 P' f8) X (vE f8 P' c5 c5)];clear s7 s8 f8 f6 L a6 P6 c1 c2 c5 P' o' D;rw[CF (uS t X)];refine CLD (∃o:EJ,u=ovI o/\∀x,some x=o->yV) P8 X (CF1 H9 P9) λH9 p9 ys g6 D P9 f9 d6=>?_
   .refine BHJ 4 P9 (F47 EZX);rw[eC G c0 [V.non,V.non,DO x] p];rw[FJ4 a1.same a1 (λr U B a2 b3=>q r U ?_ a2 (oD b2.trans G.off b3))]
    rw[ET9]
    rw[ET9]
    .rw[AU ZH e (λy z=>by cases z;rw[CB6])]
   rw[EZ caps rfl g4 g3 a5f D];rw[BWZ g6 g4 e0 H9 CXY d6];rw[UV (mE p9 I p) G e0.upd AMQ p];rw[MK a4 ESQ I AMQ I AMQ];generalize upd ESQ I AMQ=i4 at G a4⊢;rw[AC R (f9.trans G.off) M (P9.same G)];rw[AC d8 (o8.trans R) g1 (ABW R W)];rw[AC g2 (Its.pot O P8 R) g5 (vE R P8 X X)];rw[AC g8 (vE R P8 e8 e8) h6 O.1];clear e0 G R f9 d6 p P9 W O X P8 o8 e8 D;rw[CF (uS t g5)];refine CLD (CL6 yV) M g5 (CF1 a0 a3) λa0 b9 ys d2 D a3 d0 a9=>?_
   .refine BHJ 6 a3 (F47 ⟨_,rfl,_,_,rfl,rfl,ERS,a,b,_,rfl,a1,AH,FV,λy U y1 y2 a2 b3=>EZX⟩);have y2:y<1000000000000:=y2;rw[eC G U [AGI,DO x,DO y] p];rw[FJ4 a2.same a2 (λr e5 B e7 f0=>q r e5 ?_ e7 (CHZ b2.trans b3 G.off f0))]
    rw[BFS _]
    rw[ETJ 0xf183a3edc63a3ee515b6e4931e94e16 x2]
    rw[ETJ 0x1c83cf3463cd651ff7d57a09fd6a7931745a66437b32bda2a16 y2]
   rw[EZ d rfl h3 h0 a9N D];rw[BWZ d2 h3 e3 a0 CWV a9];rw[UV (mE b9 Z b0) a8 e3.upd B2V b0];rw[MK c7 EXG Z B2V Z B2V];generalize upd EXG Z B2V=b1 at a8 c7⊢;rw[AC J (d0.trans a8.off) e9 (a3.same a8)];rw[AC i1 (d8.trans J) j1 (ABW J g1)];rw[AC j2 (Its.pot g2 M J) j5 (vE J M g5 g5)];rw[AC j8 (vE J M g8 g8) i0 (vE J M a4 a4)];clear e3 a8 J d0 a9 b0 a3 g1 g2 g5 g8 M d8 a4 D;rw[CF (LC _ rfl _ pr us rfl (A02 j1 Y d4))];rw[eD e1 b1 us d4];rw[eN c6 b1 Y us Y us];generalize YN b1 Y us=U at e1 c6⊢;refine LC _ rfl _ _ rfl (zK 5 c0R) (BH i3 d5);rw[AC e4 (MU U (o:=GN [KH,AI Y,AI p8,BPS,AI Z]) d5) ss (e1.trans e4)];refine k _ ns rows j caps d _ ⟨i3,t,Y,p8,I,Z,us,rfl,A2,B6X j5,AG e4 c6,j2.same ss,B6X j8,B6X i0,B6X c7⟩ ⟨g9,h1,h7,AR 0x4657948a7e87d9531a6 b4 c3,λr B=>⟨yR c4 B,EP2 EOA⟩,?_,EP2 h4,AD,u9 (g3 _ hx x rfl),AD,h0⟩ (λr B=>EOA) (e9.same ss) (i1.trans ss.off);rw[FX 0x10e349568b2565d631a457 hl h6]
#where
#where
section
variable {F W a rss:LLI}{H H':Hp}{P:qG}{base:Heap}{cs:AK}{k:Nat}{mg:BF}{w:World}
noncomputable def Lst(rss:LLI)(v:qI):Bool:=!(rss.any λu=>! lG u v && CUT)
structure Srt(rss srt:LLI):Prop where
 ri:DNC
 nd:srt.Nodup
 mem:EU1
def Srt.eq{b:LLI}(h:B08 a)(g:CBK):iR:=FFB S5
def a7Z(h:∀r,A0W↔C6W)(v:qI):Lst rss v=AY8:=by
 unfold Lst;congr 1;rw[Bool.eq_iff_iff,List.any_eq_true,List.any_eq_true];rw[AQ (EV3 (XC h u b)) (EV3 (dH h u b))]
def b6d:∀{u v:qI},u.length=v.length->AWR Bel u->u≠v->t8 v u
 |[],[],_,_,ne=>BAE ne
 |[],EY,h,_,_=>XS
 |EY,[],h,_,_=>XS
 |x::u,y::v,h,a,ne=>by
  rw[A7S Bel];rw[List.zipWith_cons_cons,List.all_cons,Bool.and_eq_true]at a;have h1:B9J:=of_decide_eq_true QR;rw[FO x y]
  .rw[DB];have b:=BC b6d u u v v oK a.2 λz=>ne (by rw[z]);simp[HT.lexLt,b]
  .have:¬y<x:= B7P 6243241540210
   rw[SH e' (y=x) (e z.symm)];simp[HT.lexLt,this,e']
def b5g{α:Type}{m:SJ CJ}(l:CJ)(nil:m [])(snoc:∀(l:CJ) (v:α),m l->m DQA):m l:=by
 have:∀r:CJ,m r.reverse:=λr=>by
  induction r with
  |nil=>exact nil
  |cons x r a=>rw[AB List.reverse_cons (snoc _ x a)]
 have:=this l.reverse;rw[vA List.reverse_reverse]
noncomputable def LO(l:LLI):LLI:=l.foldl (λqP v=>if qP.any BUZ then qP else qP++[v]) []
def b0e(l:LLI)(v:qI):LO DQA=if F5A then AOR else AOR++[v]:=by
 rw[sS LO List.foldl_append]
def c3T(v:qI):AY (Bel v v):=fR V0 rfl (Under.refl v)
def b8i{a b c:qI}(h1:BCZ)(h2:b.length=c.length)(g1:D2D Bel)(d:D2E Bel):D2F Bel :=
 (V0 (h1.trans h2)).mpr (oD (NE V0 h1) g1 (NE V0 h2 d))
def b6h{n:Nat}:∀(l:LLI),DF r l A74->RZ AOR (x∈l)/\∀u∈l,∃x∈AOR,AY (Bel x u):=by
 intro l;induction l using b5g with
 |nil=>intro _;rw[AQ D3J ND]
 |snoc l v h =>
  intro f;obtain⟨c,d⟩:=h λr g=>f r (UX g);rw[b0e];cases e:F5A with
  |true =>
   rw[EK];rw[EQ (λx b=>UX (c x b)) u a];rw[BM A8L]
   .exact d u z
   .rw[AZ ZF List.any_eq_true.mp e]
  |false =>
   rw[MF];rw[EQ AQT u a]
   .rw[BM B2G]
    .exact UX (c x z)
    .exact C5Y
   .rw[BM A8L]
    .rw[IJ x h1 h2 (d u z) x C6Q h2]
    .rw[ZF];rw[AU v BUE (c3T v)]
def b8k{n:Nat}(a:LLI)(d:C5T a)(k:G6 a)(nd:a.Nodup):∀(l rest:LLI),a=l++rest->AOR=l.filter BQO:=by
 intro l;induction l using b5g with
 |nil=>rw[AS9]
 |snoc l v s =>
  intro rest e;have e':a=l++(A4Z v):=by rw[e,List.append_assoc];rfl
  have j:v∈a:=by rw[L1 e']
  have b:C5T l:=λr m=>d r (E4Q m);obtain⟨h,o⟩:=b6h l b;rw[b0e,List.filter_append,<-s _ e'];have key:(LO l).any BUZ=! AY8:=by
   rw[BSO];rw[EJ5 Lst Bool.not_not List.any_eq_true]
   .rw[EVX];rw[OU u (E4Q DXW)];have f:u≠v:=λz=>by
     rw[e']at nd;exact sK (List.nodup_append.mp nd) u DXW v List.mem_cons_self z
    rw[hb,decide_eq_false f];rfl
   .rw[EVX];rw[Bool.and_eq_true,Bool.not_eq_true',decide_eq_false_iff_not]at hb;have c:u∈l:=by
     rw[e']at hu;rw[BM (A9L hu)]
     rw[NT]
     .rw[OZ uA]
      rw[HL q hb.1]
      .exfalso;have g:HT.lexLt u v=false:=by
        rw[e']at k;have:=hZ (List.pairwise_append.mp k);exact C3B List.pairwise_cons.mp u q
       have h2:=b6d (GT (d u (AE e' C5Y)) (d v j)) hb.2 hb.1;exact hb.1 (R6 u v g h2)
    rw[IJ x h1 h2 (o u c) x h1 (b8i (GT (b x (h x h1)) (b u c)) (GT (b u c) (d v j)) h2 hb.2)]
  rw[key];cases i:AY8 with
  |true=>rw[MF,List.filter_cons_of_pos (p:=BQO) i];rfl
  |false=>rw[A90,List.filter_cons_of_neg (p:=BQO) (BZG i)];simp
section
variable {K:qF}
inductive IspAboveL(vs:A0)(H:Hp)(Q:VK)(E:XK):Prop
 |mk (l:qE) (y:V) (fs:A0) (fss:LLI) (ys:qI) (_:QA IX y) (_:E0P) (_:E0B) (_:jV) (_:DF f fss DH7) (_:A1K E2E):HF IspAboveL
noncomputable def b0G:Sp:=IB IspAboveL
def sc_above_any:AYP ["some","one","other"] "some" a1i:={}
def a7x(F:A2I "above_any" a1i "some")(T:AV)(b:CJC):F0F:=by
 rw[BO sc_above_any n j c]
 rw[AHW l y fs fss ys]
 .obtain⟨l,y,fs,fss,ys,rfl,hl,hI,hy,hL,k⟩:=h;rw[BU (A3 (BB4 2 sc_above_any.nd
 (A5 (CIS (tU c.mono DRV)
 jC
 B6)))
 jC)]
  rw[FFZ [A8N,BT2,o] (A8S (EQS i)) (NM σ (by obtain⟨_,_,s',_⟩:=h;rw[A9V DP3]))]
  .rw[FJC];rw[A3T c d g hx];have m:(EQS AM)=ASJ:=by
    rw[F2U d]
   rw[CF ⟨_,rfl,_,rfl,x,y,r,ys,rfl,g.same s',hy.same s',hL r c,C9U⟩];cases e:ASJ with
   |false =>
    rw[e]at m;exact C1 (HE _ AOZ m)
   |true =>
    rw[FAW (show LQ E2E from ZB List.any_eq_true.mpr r c e)]
  rw[FLA]
inductive IspLeastOf(vs:A0)(H:Hp)(Q:VK)(E:XK):Prop
 |mk (p:qE) (us:A0) (rss:LLI) (n:Nat) (_:oN) (_:AGP p) (_:MR) (_:aN) (_:aQ) (_:TB) (_:C7T) (_:∀q zs srt H',BL->B08 srt->BN9->UM zs (E12 rss)->tF):HF IspLeastOf
noncomputable def a7N:Sp:=IB IspLeastOf
def sc_least_of:cI ["some","found","one"] "some" a2y:={}
def b1f(F:XI "least_of" a2y "some")(T:AV)(c:F0F):F3C:=by
 rw[BO sc_least_of a6 a5 m]
 rw[gZ p us rss n]
 .obtain⟨p,us,rss,n,rfl,hp,hI,hl,hn1,hn2,hR,k⟩:=h;have hu:=m.u60;rw[VJ hz]
  rw[BU (ADE 1 sc_least_of.nd
 (A3 (mX (AC1 (c3e P w rfl T.b_sorted (BN (AAH (c6t K P w hu) T.b_set)))) 2 sc_least_of.nd
 (A5 (A45 (F0 c m.mono C4Y)
 (oU 1 JJ)
 B6)))
 (BQ4 IV)))]
  rw[aR g M];rw[XR OO M];rw[fL e1 H g OO g []];rw[AE2 (C77 g) e1];rw[CF (UR true p us rss rfl (GE AOU) (hI.same s1) hl (EE a xs ha L j V))];rw[AC s2 (s1.upd (o:=A15) ha) B (AO5 H1 A15 ha)];rw[MK e2 H1 a A15 a A15];rw[ANA (upd H1 a A15) s2 B e2];have a2:MO:=by
   have:=Tab.nodup_le (xs.map (·.1)) rss L λr m=>XC j r m;rw[List.length_map,<-GW]at this;rw[ZI c1r hl]
  refine⟨a,xs,rfl,e2,λx J=>(V x J).same B,λx J=>AE (hR ET (NE j ET (List.mem_map.mpr (QX x J)))) hn1,a2,λl zs b y d N a1=>?_⟩;have S:CBK:=⟨a1,N.symm.nodup L,λr=>rS N.mem_iff (j r)⟩;rw[B7U s3 WU y];rw[fL U H2 l WU l zs];have C:upd H2 l WU g=BK .lst []:=a0e DRT y;have d:=wD d.same H2 WU y;have a4:l≠g:=tG DRT y;generalize VI l zs=H3 at s3 U C d;have I:C5T b:=λr m=>hR r (E0W m);have a3:GY zs.length:=by
   have:=Tab.nodup_le b rss S.nd λr m=>E6E m;rw[XT];rw[<-GW]at this;rw[ZI c1r hl]
  have X:EN g:=M;refine HE l (rM U) ?_;refine VF O5 l zs (OM σ (Ex2 λo2 fs=>An5 (σ=ED1 o2) (Off [g] H3 H') (iQ g fs) (UM fs AMV) (fs.length<=i))) ⟨none,[],rfl,A0L,C,.nil,BV⟩ (NM σ (by obtain⟨_,_,_,o',_⟩:=h;rw[A9V (ZQ o' a4 U)])) ?_ ?_
  .rintro i x σ H' J ⟨o2,fs,rfl,off,D,hIf,hfl⟩;rw[EZ r m Z a0 d.mem J];have Y:C1R:=LX J;have O:IT H' x r:=by
    rw[HG xa R a0];rw[NH xa (ZQ off (XE R C) R)]
   rw[XJ W f AMV DH7 f D (by
    have:=(b6h (n:=n) (b.take i) λr m=>ANI I r m).1 f D;rw[AB (ANI I f this) hn2])]
   have t:LO (b.take AM)=if ETM then AMV else AMV++[r]:=by
    rw[CG List.take_add_one Z (BZ b0e)]
   rw[CF ⟨_,rfl,_,rfl,g,x,fs,_,r,rfl,D,hIf,O,W,C9U⟩];cases e:ETM with
   |true =>
    rw[e,EK]at t;refine C1 ⟨_,fs,rfl,off.trans s2.off,UW D,?_,ABV hfl⟩;rw[AZ t hIf.same s2]
   |false =>
    rw[e,MF]at t;have G:=UW D;rw[tZ (BI9 (OW G) g G (~~~lq 0xd4c0c82003e0da3e889e33f0ae923d0 hz a3 hfl Y))];refine⟨_,fs++[x],rfl,BA3 off.trans s2.off,A2,?_,B61⟩;rw[AB t (Its.put (EP3 hIf.same O.same) G)]
  .rintro σ H' ⟨o2,fs,rfl,off,D,hIf,_⟩;rw[cY XT hIf];refine eV g fs (BDI D);rw[eD s4 H' fs hq];refine k q fs b _ ((b0N s3 X off).trans s4) S A2 ?_;rw[GJ e (b8k (n:=n) b I S.ri S.nd b [] AF) e hIf];have e2:(b.filter λv=>Lst b v)=BUL b.filter rss:=by
    rw[B9B v];exact a7Z S.mem v
   rw[e2]at hIf;exact hIf.same s4
#where
def Wk.inv1{L:LLI}(h:oS)(e:k=1):F8K BF9 (F=CAY) (W=L):=by
 induction h with
 |one ri nd h=>exact GZ ri nd h rfl
 |more h _ _ _ _ _=>rw[KR CBN]
def Wk.inv2{L:LLI}{k':Nat}(h:bM F W L k'):∀k,k'=BX->1<=k->∃a c b,bM a c b k/\B8B/\F8K (∃u∈b,CR5 a) (F=a++CAY) (W=c++L):=by
 cases h with
 |one ri nd h=>intro k e d;omega
 |more h ne ri nd f =>
  intro k e d;obtain rfl:_=k:=Nat.succ.inj e;exact⟨_,_,_,h,ne,ri,nd,f,rfl,rfl⟩
def Wk.det{rss:LLI}{cs:AK}:∀(k:Nat) {F W L b c a:LLI},oS->bM b c a k->F=b/\W=c/\L=a
 |0,_,_,_,_,_,_,h,_=>VC CBN
 |1,F,W,L,b,c,a,h,g=>by
  obtain⟨d,e,f,i,j⟩:=h.inv1 rfl;obtain⟨l,m,n,o,p⟩:=g.inv1 rfl;rw[FKG]
 |k+2,F,W,L,b,c,a,h,g=>by
  obtain⟨r,w,t,a0,_,d,e,f,i,j⟩:=EKI h.inv2;obtain⟨s,x,u,q,_,l,m,n,o,p⟩:=EKI g.inv2;rw[HG rfl rfl (Wk.det BX a0 q)];rw[FKG]
def Wk.back{L:LLI}(h:oS):∀st,1<=st->st<=k->∃a c b G R,bM a c b st/\W=c++R/\F=a++G/\SX G (BG st<v.sum)/\(st<k->B8B):=by
 induction h with
 |@one L ri nd h =>
  intro st h1 h2;have:st=1:= AAV 0x11c517f498d7b6272468e6d
  rw[iF];rw[FIA (.one ri nd h)]
 |@more F W L L' k h ne ri nd d i =>
  intro st h1 h2;rw[FO st BX]
  .rw[DB];rw[FIA (.more h ne ri nd d)]
  .obtain⟨a,c,b,G,R,g1,g2,g3,g4,g5⟩:=i st h1 (~~~a6v h2 e);refine⟨a,c,b,G++D6S,R++L',g1,DJU g2,DJU g3,u5 g,mJ⟩
   .rw[BQ7]
    .exact g4 v z
    .rw[XV hu hx (XC d v C0X)];have:=(b5s (h.lv.1 u hu) hx).sum;rw[KO this]
   .rw[BI e2 st k]
    .subst e2;rw[C02 f h g1];rw[JY f ne]
    .exact g5 AD
def Wk.stop{b d c:LLI}{st:Nat}(h:eH)(g:EPR d):st<=k:=by
 rw[A2L a];obtain⟨i,j,L2,G,R,g1,_,_,_,f⟩:=g.back k CBN (WR c1p);rw[C02 e h g1];exact f (aM 157932406998) e.symm
def d0J{b c:LLI}{st:Nat}(h:eH)(g:EPR a):zW W.length:=by
 obtain⟨f,i,L2,G,R,g1,d,_,_,_⟩:=h.back st DV9 (h.stop g);obtain⟨_,e,_⟩:=CB9 g1;rw[d,e,List.length_append];exact a1r
def b2r{b:LLI}{st:Nat}(h:eH)(g:bM a b [] st):F=a/\W=b:=by
 have e:k=st:=Nat.le_antisymm (g.stop h) (h.stop g);rw[DB];obtain⟨e1,e2,_⟩:=CB9 h;rw[AQ e1 e2]
def c7z{α:Type}[DTC]:FDB
 |[],b,_,_=>GH
 |iY,b,e,h=>by
  rw[FLE c7z]
def a3S{a:Int}(h:eH)(f:BG W.length<=a):¬Over rss cs a:=by
 rintro⟨u,A,y,st,g,r⟩;have b:=d0J h g;rcases r with q|⟨ne,d,nd,p,q⟩
 .exact lq 0x62c1df18c6ef38758 f b q
 .have hst:=h.stop g;have c:st<k:=by
   rw[BM (Nat.lt_or_ge st k)]
   rw[NT]
   .have e:st=k:=Nat.le_antisymm hst z;rw[DB];rw[C02 e g h];rw[DT e ne]
  obtain⟨w,B,L2,G,R,g1,m,_,_,_⟩:=h.back (st+1) A9Q c;obtain⟨t,i,x,a0,_,_,_,j,_,l⟩:=g1.inv2 st rfl DV9;rw[HG rfl rfl (CB9 a0)];have n:d.length<=L2.length:=c7z d L2 nd λv s=>fR j v (p v s);have o:W.length=i.length+L2.length+R.length:=by rw[m,l,List.length_append,List.length_append]
  exact lq 0x6c7b61b5f81e7a5af75e90333117e1ae375b f q n o
def gdx{a b:qI}(h:BCZ)(e:B3X b.length (a.getD j 0=DGN)):iR:=by
 rw[EYE h h1 h2 e h2];rw[CE4 (KA h1) C3A this];rw[QB]
noncomputable def a8B(a b:qI):qI:=List.zipWith DQE a b
noncomputable def b0n(c:Int)(r:qI):qI:=r.map λz=>c*z
noncomputable def TgA:qI->LLI->qI->qI
 |qP,jN,A3I=>D8Z (CM8 c r)
 |qP,_,_=>qP
def a2T(a b:qI)(h:BCZ):KQ a8B a b=b.length:=by unfold a8B;rw[AZ List.length_zipWith c2y h]
def L9(c:Int)(r:qI):KQ b0n c r=r.length:=uR
def b4R(a b:qI)(h:BCZ)(j:Nat):(a8B a b).getD j 0=DGK+DGN:=by
 unfold a8B;rw[List.getD_eq_getElem?_getD,List.getD_eq_getElem?_getD,List.getD_eq_getElem?_getD,List.getElem?_zipWith];rw[VG (j<a.length)]
 .rw[KA c,KA (~~~a6r h c)];rfl
 .rw[AHT c,BZ8 (~~~b3B h c)];rfl
def b4P(c:Int)(r:qI)(j:Nat):(b0n c r).getD j 0=c*QU:=by
 rw[ZW b0n List.getD_eq_getElem?_getD List.getElem?_map List.getD_eq_getElem?_getD];cases r[j]? with
 |none=>show OJ=c*0;rw[PD 5734523507254]
 |some z=>rfl
def b6l(a r:qI)(h:BNU r.length):a8B a (b0n 0 r)=a:=by
 refine HU (gdx (by rw[CG (CEA h) L9 h.symm])) j _;rw[F2 (AG b4R (AE L9 h)) b4P lq 0x96e235d25032]
def b6f{n:Nat}:∀(rss:LLI) (cs qP:qI),C7T->C3M->tN TgA qP rss cs=n
 |[],cs,qP,_,h=>DD3 cs h
 |jN,[],qP,_,h=>h
 |jN,A3I,qP,a,h=>by
  have h1:=F54;exact b6f rss cs _ DYQ (dE (CEA (b3O h h1)) L9 h1)
def a4o{α:Type}{xs:CJ}{i:Nat}{x:α}(h:cH):xs.drop i=x::xs.drop AM:=by
 rw[IM (List.getElem?_eq_some_iff.mp h)];rw[List.drop_eq_getElem_cons h1,h2]
def a4i{xs:qI}{j:Nat}(h:eB):lS∈xs:=by
 rw[EGM B2J h]
def b4w{n:Nat}(j:Nat):∀(a:LLI) (cs qP:qI),C3M->DF t a DIO->F7X qP=qP.getD j 0+dot CLZ cs
 |[],cs,qP,_,_=>by cases cs<;>simp[TgA,dot]
 |t::a,[],qP,_,_=>tX TgA dot
 |t::a,A3I,qP,b,d=>by
  have h1:=AWC d;show F7X (CM8 c t)=_;rw[b4w j a cs _ (dE (AG a2T EQ7) L9 h1) (BVZ e AOF),AG b4R EQ7,b4P,List.map_cons,S6,Int.mul_comm c];rw[PD 0x30b37140943e4c8e]
def b5V{B:Int}:∀(a c:qI),RZ a (x<=B)->C54 c->BNU c.length->DTU<=B*c.sum
 |[],[],_,_,_=>B8S
 |iY,y::c,d,e,h=>by
  rw[S6,List.sum_cons,Int.mul_add];rw[SQ (b5V a c E1F E1G oK) (C0C (AZY d) CH5)];rw[ADQ 0x819f37ab26efaec6aa]
noncomputable abbrev tgl(n:Nat)(qO:LLI)(c:qI):qI:=TgA A1J qO c
noncomputable abbrev fre(m:Nat):AK:=C5N none
def a0P(m:Nat):EH fre m=m:=List.length_replicate
def b4E(n j:Nat):AH3 n getD j 0=0:=by
 rw[List.getD_eq_getElem?_getD,List.getElem?_replicate];split<;>rfl
def b4T(h:A9M qO DIO)(c:qI):tN tgl n qO c=n:=b6f qO c _ h List.length_replicate
section
variable {K:qF}
inductive IspNought(vs:A0)(H:Hp)(Q:VK)(E:XK):Prop
 |mk (n:Int) (_:AOC n) (_:aQ) (_:TB) (_:A3J (AFF n.toNat)):HF IspNought
noncomputable def a5C:Sp:=IB IspNought
def b6A:CJB a5K:={}
def b6U(F:C78 "nought" a5K):CJA:=by
 rw[BO b6A b a g]
 rw[CLR n]
 .rw[FJZ c9U UC]
  rw[FKS (WN 0)]
  rw[EC5]
  rw[F8B c3v (D4 q e)]
inductive IspZip(g:A3H)(vs:A0)(H:Hp)(Q:VK)(E:XK):Prop
 |mk (x:_) (y:_) (xs:_) (ys:_) (_:BDD) (_:AQJ) (_:jV) (_:MO) (_:AX3 (IT H' v (List.zipWith g xs ys))):EIB
noncomputable def b0x(g:A3H):Sp:=AEZ EIB
def c4I:CH7 b2R:={}
def c5H(F:HA "plus" b2R AIE)(T:AV):CKK:=by
 rw[BO c4I e d m]
 rw[ATL]
 .rw[CQ7 c];rw[GL (ZZ (BFZ
 AT0) (ACQ O9))]
  rw[FCU (BUX (x+y)) (x+y)]
inductive IspTimes(vs:A0)(H:Hp)(Q:VK)(E:XK):Prop
 |mk (m:Int) (x:V) (xs:qI) (_:QA AA2 x) (_:AQJ) (_:MO) (_:0<=m) (_:m<A6D) (_:A3J (xs.map λz=>m*z)):HF IspTimes
noncomputable def a8H:Sp:=IB IspTimes
def b8M:BCQ "many" "many" a8T:={}
def b9R(F:A2I "times" a8T "many")(T:AV):CN0:=by
 rw[BO b8M d c j]
 rw[AEF m x xs]
 .obtain⟨m,_,xs,rfl,⟨a,rfl,ha⟩,b,m0,m1,k⟩:=h;rw[GL (ZZ (bT "a" "many" bK BR1
 (WG ["a","many"])) (C7O a3p))]
  refine uS a ha;rw[ER (b0s (caps:=[B02]) (λz=>DO (m*z)) b DO5 rfl (λx H1 g _ _ q=>FCN BF6)) H1 p s e];rw[B5J (CFA (B3A (DO (m*x))) (B3A (m*x))) b e b]
inductive IspTog(vs:A0)(H:Hp)(Q:VK)(E:XK):Prop
 |mk (t c:qE) (us:A0) (rss:LLI) (cs:qI) (n:Nat) (_:AAS KH ZC n) (_:BAZ) (_:MR) (_:A7G (RG cs.map)) (_:aQ) (_:TB) (_:C7T) (_:(DF c cs (0<=c/\B9M c))) (_:AX3 (IT H' v (TgA A1J rss cs))):HF IspTog
noncomputable def c7q:Sp:=IB IspTog
def sc_together:DA ["told","counts","width","whole","one","many"] BXY a2t:={}
def b0Y(F:HA "together" a2t BXY)(T:AV)(d:CJA)(g:CN0)(k:CKK):F37:=by
 rw[BO sc_together R N y]
 rw[pC t c us rss cs n]
 .obtain⟨t,c,us,rss,cs,n,rfl,ht,hI,hc,hn1,hn,hR,hC,kk⟩:=h;rw[BU (CA 3 sc_together.nd (F0 d y.mono JJ)
 (A3 (BH5 CS9 4 sc_together.nd 5 sc_together.nd
 (A5 (C3 (GC Y5 5 A7)
 (B7W 3 sc_together.nd (F0 k y.mono (DV 3 (BN (E0C y.mono)))))
 B6)))
 (BN3 3)))]
  refine⟨_,rfl,_,rfl,~~~a9x hn1,~~~c0V hn,AB2 U B⟩;rw[Int.toNat_natCast]at B;rw[CF (AXQ t c (HR ht) C3W)];refine c6R (k1:=true) (k2:=true) (xs:=us) (zs:=PV cs.map) (OM σ (Ex4 λv L M qP=>An5 (σ=[C1X,DX c,DS n,UO,L,M]) BL (AGN qP) C3M (TgA qP (rss.drop i) (cs.drop i)=E9Y)))
   ⟨U,none,none,_,rfl,s1,B,List.length_replicate,rfl⟩ (AX4 σ (by rw[B6K s'];rw[AQ (B9F ht) (B9F hc)])) ?_ ?_
  .rintro i x z σ H' q hx hz' ⟨v,L,M,qP,rfl,s',hv',hal,hT⟩ hq;rw[bC j u K9 hz'];obtain⟨r,y,G,ra,rfl,D⟩:=hI.mem hx;rw[AC l (AC4 y) m (MA hC j u)];rw[a4o G,a4o u]at hT;refine tL q EIG A2 A1X (WN j) gK [];rw[AC C (s'.upd (o:=CZQ) hq) p (wD hv'.same H' CZQ hq)];generalize YN H' q EIG=Y at C p;rw[CF ADX]
   .rw[FQ ⟨_,rfl,_,rfl,_,rfl,j,A1X,r,rfl,D4 ra (ANF C),~~~b3J hn l,m.1,m.2,BS W Z O I⟩ ⟨v,W,qP,_,rfl,p.same O,I,EDX hal,BS X H5 S J⟩];exact⟨X,_,_,a8B qP (b0n j r),rfl,GK C.trans O S,J,GU (CEA (b3O hal l)) L9 l,hT⟩
   .have e0:j=0:=by
     have:¬0<j:=λz=>A30;rw[QE 0x366b995ee82d053a521dc3236 m.1]
    subst e0;change TgA (CM8 0 r) _ _=_ at hT;rw[b6l qP r (~~~b3O hal l)]at hT;exact⟨v,_,_,qP,rfl,C,p,hal,hT⟩
  .rintro σ H' ⟨v,L,M,qP,rfl,s',hv',hal,hT⟩;have e:qP=E9Y:=by
    rw[<-hT,List.length_map,GW];by_cases h:rss.length<=cs.length
    .rw[C25,List.drop_length];cases cs.drop rss.length<;>rfl
    .rw[VW Nat.min_eq_right c1p h,List.drop_length];cases rss.drop cs.length<;>rfl
   rw[DB];exact DJ (AJ kk s' hv')
#where
noncomputable def Tk(H H':Hp):Prop:=∀c xs,aZ c HO.tup xs->EHH
def Tk.trans{a:Hp}(h:ASV)(g:Tk H' a):Tk H a:=λc xs e=>g c xs (h c xs e)
def Tk.same(s:BL):ASV:=λc xs e=>s c _ e
def Tk.put{c:qE}{xs:A0}{o:HO}(e:B9V):Tk H B0B:=λd ys q=>BV5 e
def Tk.it(h:ASV){v:V}{r:qI}(g:BCC):IT H' v r:=mF a e q g a e (AG h q)
def Tk.its(h:ASV){vs:A0}(g:TD):AST:=⟨UU,QH v (mF r e1 e2 (g.2 i v e) r e1 (h.it e2))⟩
section
variable {K:qF}
def d0c(a:LLI):EH IK a=a.length:=uR
def b5C(v:qI):EYP v.map v.map:=DN7
def mem_IK{v:qI}:v.map BX2∈IK a↔v∈a:=by
 rw[E5U IK]
 .rw[tY u hu];rw[JY (a9O e) hu]
 rw[EJF v]
structure NarC(qO:LLI)(row:qI)(most:Nat)(cts fss:LLI):Prop where
 ri:G6 cts
 wk:∃F W k,cts.Perm F/\Wk BYM EB3 F W [] k/\BB9
 ex:∃mss srt,mss.Nodup/\(uG mss (∃c∈cts,ATB=v))/\Srt mss srt/\fss=E12 mss
def NarC.one{n d f b:LLI}{l:qI}{i c:Nat}(h:NarC n l i d f)(g:NarC n l c a b):f=b:=by
 obtain⟨F,W,k,p,u,_⟩:=h.wk;obtain⟨z,A,k',p',w,_⟩:=g.wk;rw[LN rfl (b2r u w)];have e:d=a:=S5 h.ri g.ri (p.symm.nodup u.nd.2) (p'.symm.nodup u.nd.2) λv=>p.mem_iff.trans p'.mem_iff.symm;rw[DB];obtain⟨s,t,_,y,S,rfl⟩:=h.ex;obtain⟨j,m,_,q,o,rfl⟩:=g.ex;have x:∀r,r∈s↔r∈j:=λv=>BSB y q;have es:t=m:=ZB S.eq o.ri o.nd (λr=>GK o.mem r (bS x r));subst es;rw[B9B v];exact a7Z x v
def b2s{d:LLI}{a:Nat}(e:d.Perm F)(f:eH)(b:W.length<=a):d.length<=a/\A0D d (c.length=cs.length/\RZ c RJ/\c.sum<=BG a+1):=by
 obtain⟨o,h,j,l,p,q,m,r⟩:=f.lv;rw[EQ (AE e.length_eq (a6s b l)) c g];obtain⟨i,s,n,lv⟩:=h c (j c (e.mem_iff.mp g)).1;rw[AU lv.len lv.nn (AE lv.sum (lq 0x19cb1b22f9133c8b4c1d8 b m n))]
inductive IspNarrow(D:qE)(vs:A0)(H:Hp)(Q:VK)(E:XK):Prop
 |mk (t r:qE) (zs:A0) (qO:LLI) (row:qI) (most:Nat) (mi:Int) (_:AAS KH (AI r) mi) (_:BDX) (_:VU t zs) (_:B4A) (_:AJZ r row.map) (_:1<=row.length) (_:dD row.length) (_:dD zs.length) (_:most<=900) (_:(SX qO (AXX row.length (Sm v)))) (_:Sm (qO.map (dot row))) (_:(∀q f g fs fss cts H',BL->AH4 [rA,B6T]->fK f fs->UM fs fss->F51 cts fss->tF)) (_:BED FEO):AJE IspNarrow
noncomputable def b0B(D:qE):Sp:=B93 IspNarrow
def sc_narrowed:DA ["told","row","most","totals","first","counts","found"] BXX a2x:={}
def b1e{j:qE}(F':HA "narrowed" a2x BXX)(T:AV)(n:BH9)(G:AT5)(m:F37)(l:F3C)(p:ATN j):F3K j:=by
 rw[HP F'.okE sc_narrowed f6 f3 X]
 rw[AEG t r zs qO row most mi]
 .obtain⟨t,r,zs,qO,row,most,_,rfl,rfl,ht,hI,hrw,r1,r2,hzl,hmo,hT,hS,kq,ke⟩:=h;have hu:=X.u60;rw[eT hz 30000]
  rw[BU (CA 3 sc_narrowed.nd (ZZ (CFD "row"
 (ACM "row")) (F0 n X.mono AKA))
 (ASO 4 sc_narrowed.nd b5H
 (BF4 (mX (F5 K (AKV (ART p X.mono a9q (jaC (O8 tO) (jaC (F0 G X.mono (BN APF)) JJ))))) 5 sc_narrowed.nd
 (A5 (D5 (c6D hu C1E (gD m X.mono a6o (YI (DV 5 C1J))) ABZ))))
 (CA 6 sc_narrowed.nd (gD l X.mono c0y (BN (b7q rfl T.b_tuple nT)))
 (SE O8 (DV 6 (BN (ZZ (bT "one" "first" BO0 (pK F5 6)
 (ACM "first")) (W7 hu U3 (jv 0))))))))))]
  refine E1J;rw[ER (UZ a8C [DX r] (λv=>EOJ) (AHI hzl) DO6 hI rfl (λv u H1 Q1 e0 L s1 q=>?_)) H1 p1 s1 d5]
  .exact BDQ (AI r) v row u (D4 r (HR hrw)) L C94 (hT u e0).2 F07
  rw[show(qO.map λv=>EOJ)=BKV V.int by rw[BMV]];rw[UV (mE p1 pt d8) s2 (s1.upd (o:=CWW) d5).upd B2X d8];rw[MK e2 EN4 pt B2X pt B2X];rw[oC EN4 pt B2X H2 s2 e2]
  rw[ABH]
  intro d hd
  rw[ABH]
  have d0:EN d:=s2.free hd;rw[AC a3 (MU H2 (o:=AII) hd) s3 (s2.trans a3)];rw[FE0 e3 H2];have e2:=C0N a3;generalize TM H2 d .dT []=H3 at s3 a3 e3 e2;refine A05 (zK 1 c0Q) p4 d6;rw[AC M (MU H3 (o:=GN ALP) d6) s4 (s3.trans M)];rw[eN e4 H3 p4 ALP p4 ALP];rw[dV e2 M e2 a6 (AG M e3)];generalize YN H3 p4 ALP=H4 at s4 M e4 e2 a6;refine BSI t (ABQ ht) A0G (~~~c0Z hzl) (BS ca H5 s5 a9);rw[Int.toNat_natCast,GW]at a9;have b1:qO.length<=100:=by rw[JY GW hzl]
  have Y:SyAt H5 p4 ca BYM (fre qO.length):=⟨⟨ALP,C88,Its.nil.snoc (D4 pt (iG e2)),AF⟩,a9,GH,AE a0P b1,λr' d9=>by
   rw[DCS d9,a0P,List.length_map];rw[AQ rfl hS]⟩
  have b2:BV9 qO.length<=901*101:=ED6 (BJ 0x21a87d99aaa98ec914ace5 hmo) 0x3bd60a2b2d8ab6865 b1;refine⟨_,rfl,p4,ca,_,EB3,most,_,rfl,rfl,Y,ABU a0P 0x3f81ec72a139f200fb0c20ee9ff6dc96ce5 b2,λq t0 pp ys I ws Fl W k H6 s6 hq b6 J b5 e1 f9 f7 hW U=>?_,λH6 s6 ho=>ke H6 (GK s4.trans s5 s6) ho⟩;rw[AC c0 (s5.trans s6) f5 (s4.trans c0)];have c5:=AG c0 a6;obtain⟨D,b0⟩:=b2s b5 hW U;have a8:FP qO (AWP row.length):=λv L=>nE hT L;refine⟨q,_,0,_,rfl,rfl,C1W,rfl,t0,rfl,OI b6,?_⟩;refine VF a9R t0 ys ((λi σ H'=>Ex3 λ(o5:qD V) (qL:qA (qA Key×V)) (g:LLI)=>An9 (σ=[some (.ref t),some (.ref r),some (.int most),some (.ref pt),some (.ref d),o5,none]) (Same H H') (Tk H6 H') (H' d=some (.dT qL)) (qL.map (·.1)=IK g) (g.Nodup) (g.length<=i) ((∀v,v∈g↔∃c∈I.take i,tgl row.length qO c=v)) (∀v∈g,∃y,G7 qL (v.map Sum.inl)=some y)))
   ⟨none,[],[],rfl,f5,CM5,c5,rfl,List.nodup_nil,BV,AF,A17⟩ (NM σ (by rw[B6K tk];exact SqT.of (AG tk b6))) ?_ ?_
  .rintro i x σ H7 hx ⟨o5,qL,g,rfl,s7,tk7,ed7,hk,hnd,hml7,hmem,hfir⟩;rw[EZ c c7 c8 c9 J.mem hx];rw[mU xa a1 id c9];have d2:B2F:=DL3;have f2:=J.1;obtain⟨_,R,f8⟩:=b0 c c7;rw[A0J b7 (I.take AM=I.take i++[c]) List.take_add_one c8]
   have d3:qL.length=g.length:=by rw[<-d0c g,<-hk,List.length_map]
   rw[ABH]
   refine⟨_,rfl,d,rfl,DC ⟨qL,ED ed7⟩,_,rfl,_,rfl,_,rfl,r,_,rfl,QM (ANE hrw),t,xa,zs,qO,c,row.length,C6V,ANE ht,hI.same s7,AG tk7 a1,r1,C94,a8,DTS,BS v8 H8 s8 e7⟩
   .rw[SQ (R y hy) (b1l R y hy)];omega
   rw[HG va f0 e7];rw[dV B s8 ed7 c1 (s7.trans s8)];rw[JK a5 (tk7.trans (Tk.same s8)) (UR qL (BSL (tgl row.length qO c).map) va B rfl (AE b5C f0) (~~~lq 0xcf2aa4e53eb32d648c39dfdb823ba01c99ffb99123937e0dbccaceb hmo hz D hml7 d2 f2 d3) (BH v' e5) (LR hn))]
   .have hin:ATB∈g:=C0S mem_IK.mp hk b4Q e5;refine⟨_,qL,g,rfl,c1,a5,B,hk,hnd,ABV hml7,LR v,hfir⟩;rw[hmem v,b7];constructor
    .rintro⟨c',h1,h2⟩;rw[AU c' C6Q h2]
    .rw[F69]
     .rw[AU c' z rfl]
     .rw[ZF];exact XC hmem _ hin
   .have hni:ATB∉g:=λz=>b0o hn (GS hk mem_IK.mpr z);refine⟨_,_,g++[ATB],rfl,IY o (AE (A8Z d0) (RT c1)),ALS (GI (F6 EDN B QJ) EDN),A2,by rw[a5X _ hn,List.map_append,hk];rw[C86 IK],a9m hnd hni,EVB hml7,LR v,u5 L⟩
    rotate_left
    .rw[b8u];rw[BI ev v ATB]
     .rw[lL (by rw[ev])];exact QD
     .have L:B9A:=by
       rw[BM (List.mem_append.mp L)]
       rw[NT]
       rw[nS List.mem_singleton.mp z ev]
      rw[AB (BD (BT9 ev a9O)) (hfir v L)]
    rw[List.mem_append,hmem v,b7,List.mem_singleton];constructor
    .rintro(⟨c',h1,h2⟩|rfl)
     .rw[AU c' C6Q h2]
     .rw[AU c AF rfl]
    .rw[F69]
     rw[GX (QX c' z)]
     .rw[AZ ZF .inr rfl]
  .rintro σ H7 ⟨o5,qL,g,rfl,s7,tk7,ed7,hk,hnd,hml7,hmem,hfir⟩;rw[cY J.1 hmem];rw[J.1]at hml7;have d4:FP g (AWP row.length):=λv L=>by
    rw[cX c (XC hmem v L)];exact b4T a8 c
   refine⟨_,rfl,d,qL,g,rfl,ed7,hk,BS p8 ms d7 C⟩;rw[eD O H7 ms d7];rw[eN e8 H7 p8 ms p8 ms];rw[AC s8 (s7.trans O) C (C.same O)];have B:=AG O ed7;generalize YN H7 p8 ms=H8 at s8 O e8 C B;refine⟨p8,ms,g,row.length,rfl,e8,C,AE C.1 (lq 0x245826cd7cf81cd0e718f500ace7 hmo D hml7),r1,C94,d4,λp9 fs a4 H9 c2 S e9 a0=>?_⟩;rw[vS s9 s8.trans c2 c6 c2 B]
   rw[ABH]
   have a7:F51 I (BUL a4.filter g):=⟨e1,⟨Fl,W,k,b5,hW,U⟩,g,a4,hnd,hmem,S,rfl⟩;have d1:fs.length<=most:=by
    rw[AB a0.1 (BTJ Nat.le_trans cF (Tab.nodup_le a4 g S.nd λr X=>E6E X) (~~~a6s D hml7))]
   refine LC _ rfl _ p9 rfl (OI e9) ?_;refine VF S7 p9 fs (VD 0x6f8ed66abc7f4cee4ae7e0dbccace7 hmo hz d1) (OM zs (ANR H9/\zs.length<=i)) ⟨rB,BV⟩ (NM zs ⟨zS e9,DK⟩) ?_ ?_
   .rintro i x zs' H10 hx ⟨s10,hzl'⟩;obtain⟨v,e6,g0,xa,rfl,a1⟩:=a0.mem hx;have f1:B9A:=XC S.mem v (AK4 e6);obtain⟨y,hy⟩:=hfir v f1;rw[B95];refine D88 d y ?_ s10 B61;rw[T6 (DGet.t (k:=BSL v.map) (AG s10 c6) (b:=xa) (AE b5C (AG s10 a1))) hy]
   .rintro zs' H10 ⟨s10,hzl'⟩ p10 hp10;refine mE p10 F b3;rw[AC Z ((MU H10 (o:=DW zs') hp10).upd (o:=GN zs') b3) b8 (s10.trans Z)];rw[eN c4 EX4 F zs' F zs'];generalize YN EX4 F zs'=c3 at b8 Z c4;rw[EQ (AEA 2 0x696ad8a526e076a0ad) f4 b4];rw[AC b9 (MU c3 (o:=BL2 p9 (AI F)) b4) a2 (b8.trans b9)];exact JC (kq f4 p9 F fs) (s9.trans a2) A2 (AG a2 e9) (a0.same a2) a7
#where
#where
section
variable {L:vB}{a rss:LLI}{n:Nat}
noncomputable def Rs3(m:Nat)(rss:LLI):Prop:=yJ (ALJ m (v4 r (-3<=z/\z<=3)))
def d1n{v:qI}(h:B3X v.length DG4):APY:=λx b=>by
 rw[AV7 j a b];have:=h j a;rwa[List.getD_eq_getElem?_getD,sV]at this
def b4n:∀(a c:qI),C54 a->RZ c RJ->0<=DTU
 |[],_,_,_=>B8S
 |EY,[],_,_=>B8S
 |iY,y::c,d,e=>by
  rw[S6];have:=b4n a c E1F E1G;rw[nJ Int.mul_nonneg (AZY d) CH5]
def c8l(h:ETK (gE t)){c:qI}(d:gE c):gE CM9:=d1n λj f=>by
 rw[F1B _ λt b=>gP h b,b4E,Int.zero_add];refine AJ b4n (AH1 e) d;rw[dJ t b (List.mem_map.mp e)];exact c0k (A29 h b) j
def c3Y{xs:A0}{v:V}(h:GD xs DFC v):BQQ (-1):=by
 have a:DGV:=by
  rw[AHG DZP 0x1e504058902a98e2e5]
 unfold atI ixN;rw[MF,EA (aM 0x1888c52460c5c5d),Option.bind_some,AXJ (yH A7V ALE) DFC];exact h
def a6V{R B:Int}(hR:0<=R)(c:0<=B):∀(r v:qI),DF z r (-R<=z/\z<=R)->(DF y v DA8) -> -(F4Q)<=AF4 v/\AF4 v<=F4Q
 |[],v,_,_=>by
  have:=Int.mul_nonneg (Int.mul_nonneg hR c) (Int.natCast_nonneg v.length);simp only[dot,List.zipWith_nil_left,List.sum_nil];omega
 |z::r,[],_,_=>B8S
 |z::r,y::v,d,e=>by
  rw[AC h1 (a6V hR c r v (λq a=>d q fS) (λq a=>e q fS)) f (d z List.mem_cons_self)];have b:=CH5;have h:z*y<=R*y:=C0C f.2 LG;have g : -R*y<=z*y:=C0C hJ LG;have i:R*y<=R*B:=DDN b.2 hR;rw[Int.neg_mul]at g;rw[S6,List.length_cons,Int.natCast_succ,Int.mul_add,Int.mul_one];omega
def c9u{c:qI}{B M:Int}(h:ETK (ALO t B))(g:0<=B)(i:c.length=a.length)(d:gE c)(hs:c.sum<=M):GR CM9 (y<=B*M):=λy m=>by
 rw[AV7 j k m];have e:=F1B A1J λt f=>gP h f;rw[List.getD_eq_getElem?_getD,List.getElem?_eq_getElem k,b4E,Int.zero_add]at e;have e:(CM9)[j]=dot CLZ c:=e;rw[e];have h1:=b5V (B:=B) CLZ c (λx l=>by
  rw[FT t f l];by_cases b:j<t.length
  .exact(A29 h f _ (a4i b)).2
  .rw[CG List.getD_eq_getElem?_getD (AHT b) g]) d (DJT i)
 have h2:=Int.mul_le_mul_of_nonneg_left hs g;exact c2q h1 h2
noncomputable def BdS(n:Nat)(B:Int)(qO:LLI):Prop:=dD qO.length/\FP qO (AXX n EG4)
def NarC.bd{b g i:LLI}{a:qI}{f:Nat}{B:Int}(h:NarC b a f g i)(q:BdS n B b)(G:0<=B)(z:a.length=n)(C:f<=40):BdS n (B*41) i:=by
 obtain⟨F,W,k,w,H,m⟩:=h.wk;obtain⟨A,o,I,d,S,rfl⟩:=h.ex;obtain⟨l,u⟩:=b2s w H m;subst z;rw[XJ j t b (t.length=a.length) t p (gP CS p)];rw[EQ ?_ v J]
 .have h1:=Tab.nodup_le o (g.map (tgl a.length b)) S.nd λr z=>by
   rw[ZL s e (NE d r (E0W z))];rw[DDZ (A7B c s)]
  rw[List.length_map]at h1;rw[DHQ (λv=>Lst A v) o];exact lq 0x147db29b7dfed421dd0052b0ce8 C l h1 this
 .rw[ZL s rfl (NE d v (NE S.mem v (AK4 J)))];obtain⟨h1,h2,E⟩:=u c s;rw[a0P]at h1;rw[AQ (b4T j c) (λy D=>⟨c8l (λt p=>⟨j t p,λx K=>nD (A29 CS p) K⟩) h2 y D,c9u CS G h1 h2 (AR 0x4de8e88eda723920f946917 C E) y D⟩)]
structure Chn(n most:Nat)(rss:LLI)(L:vB):Prop where
 len:L.length=rss.length+1
 hd:∃t,GD L 0 t/\G6 t/\EB4
 nx:dQ row qI DRX (∃a b cts,DXF/\GD L AM b/\NarC a row most cts b)
def Chn.at{n d:Nat}{rss c:LLI}{L l:vB}(h:Chn n d rss L)(g:Chn n d c l)(hp:dQ k qI (CC c k) (A81 k)):uX l.length (L[i]?=l[i]?)
 |0,_=>by
  obtain⟨t,e,u,pm⟩:=h.hd;obtain⟨t',e',p,j⟩:=g.hd;rw[e,e',S5 u p (pm.symm.nodup (a4k _)) (j.symm.nodup (a4k _)) λv=>pm.mem_iff.trans j.mem_iff.symm]
 |AM,hi=>by
  have f:i<c.length:=by rw[MM g.len 0x465797692280e281737 hi]
  obtain⟨a,b,s,e1,e2,N⟩:=h.nx i _ (CDH hp);obtain⟨w,b',q,m,o,r⟩:=CDH g.nx;have:=Chn.at h g hp i (hY a2G);rw[S1 e1 m this this];rw[e2,o,N.one r]
def Chn.one{a:Nat}{b:vB}(h:Chn n a rss L)(g:Chn n a rss b):L=b:=by
 rw[A8V i];rw[WZ hi b.length]
 .exact h.at g CM5 i hi
 .rw[B6Z (by rw[h.len,<-g.len];exact O1 hi),BR8]
inductive OvB(n most:Nat)(rss:LLI):Prop
 |mk (i row L qO:_) (_:DRX) (_:E94) (_:DXG) (_:FEO):E2W
def Chn.not{c:Nat}(h:E8S rss):¬BX5 c:=by
 rintro⟨i,l,u,t,s,g,m,q⟩;rw[AC hi (LX m) e (h.at g (λj r f=>by
  rw[List.getElem?_take]at f;split at f
  .exact f
  .cases f) i hi)]
 obtain⟨a,b,o,e1,e2,N⟩:=h.nx i l s;rw[AY5 e1 m];obtain⟨F,W,k,_,p,d⟩:=N.wk;exact a3S p (sL a9u) q
def Chn.snoc{c i:Nat}{b g:LLI}{m:qI}(h:E8S D31)(p:A81 m)(v:DXF)(N:NarC a m c g b):Chn n c (rss.take AM) CCS:=by
 have l:=LX p;have o:L.length=AM:=by rw[EGN h.len l]
 have ap:∀{j x},IZ L x->BV4 CCS:=λ{j x} e=>u0 (B5Y A3K)
 rw[FK (by rw[D6Z List.length_take];rw[FX 0x360b25121b420721e3c7190a988fd7ab9797 l o]) ?_ (EI j r d)]
 .obtain⟨t,e,h1,h2⟩:=h.hd;rw[BW t (ap e) h1 h2]
 .rw[List.getElem?_take]at d;by_cases f:j<i
  .rw[EA (~~~a6q f)]at d;obtain⟨u,b',k,e1,e2,s⟩:=h.nx j r (GU List.getElem?_take C33 d);rw[IO u b' k (ap e1) (ap e2) s]
  .have hj':j<AM:=by
    by_cases q:j<AM
    .exact q
    .rw[AW AC9 d d]
   have e:j=i:= AR 0xa277b67476d5780835296 f hj'
   rw[DB];rw[S1 (EA hj') p d d];rw[IO a b g (ap v) (by rw[<-o,AP0,Nat.sub_self];rfl) N]
noncomputable def Sgs(H:Hp)(ss:A0)(L:vB):Prop:=ss.length=L.length/\dQ x V (OE ss) (∃(a:qE) (zs:A0) (qO:LLI),JH/\A52 zs/\B4A/\DXG)
def Sgs.tk{H H':Hp}{ss:A0}(h:ESJ)(k:ASV):E8P:=A5U (QH x (CNY a zs qO (xW x) ⟨a,zs,qO,e1,ALD e2,k.its e3,e4⟩))
def Sgs.snoc{H:Hp}{ss zs:A0}{a:qE}{b:LLI}(h:ESJ)(e:A52 zs)(hI:OD zs b):Sgs H (ss++[CM]) CCS:=by
 rw[EC E2N (sO x d)];rw[List.getElem?_append]at d⊢;rw[<-CB];split at d
 .next c=>rw[AB jE (DK i x d)]
 .next c =>
  rw[BD c];have:i-ss.length=0:=by
   rw[AJ0 (LX d)];omega
  rw[this]at d⊢;cases d;exact cN a zs b e hI rfl
noncomputable def BdL(n i:Nat)(L:vB):Prop:=∀j t,IZ L t->BdS n (41 ^ j) t
def d1L:∀{i:Nat},i<=6->WT<=41 ^ i/\(BG 41) ^ i<=4750104241:=AH
def b7z(n:Nat)(c:vU){t:LLI}(a:EB4):BdS n 1 t:=by
 rw[EQ ?_ v d]
 .rw[a.length_eq];have:IW D86<=EH fre n:=BF7;rw[TU a0P];rw[QE 0x3ba27a1ff65ea0766 c]
 .rw[FT j hj (List.mem_filter.mp (a.mem_iff.mp d)).1];rw[a0P];rw[EC (Q0 n j) (λy b=>HJ (b0q n j y b))];unfold T7 at b;rw[C7L i];split<;>omega
section
variable {P:qG}{w:World}{K:qF}{mg:BF}{base:Heap}
inductive IspByRows(D:qE)(vs:A0)(H:Hp)(Q:VK)(E:XK):Prop
 |mk (ra:qE) (us:A0) (rss:LLI) (n most:Nat) (wi mi:Int) (_:AAS A1X DEP mi) (_:wi=n) (_:BDX) (_:C8C) (_:MR) (_:BCY) (_:aQ) (_:vU) (_:most<=40) (_:E5E) (_:(∀q ss L H',BL->AH4 ss->E8P->D6P rss->DF t L (dD t.length)->tF)) (_:BED E2W):AJE IspByRows
noncomputable def b0D(D:qE):Sp:=B93 IspByRows
def sc_by_rows:DA ["rows","width","most","stages","row"] BXA a3M:={}
def b3f{d:qE}(F':HA "by_rows" a3M BXA)(T:AV)(F:AT5)(k:CN4)(m:F3K d):F9H d:=by
 rw[HP F'.okE sc_by_rows b8 b6 hr]
 rw[AEG ra us rss n most wi mi]
 .obtain⟨ra,us,rss,n,most,_,_,rfl,rfl,rfl,hra,hI,hul,n1,n2,hmo,hR,kq,ke⟩:=h;rw[C9G];rw[eT hz 30000]
  rw[BU (gR 3 sc_by_rows.nd E4 (BN (CBE k 177044476 (BN (CBE F 177043692 IV))))
 (BF4 (mX A8T 4 sc_by_rows.nd
 (oU 3 (BN (AKV (ART m hr.mono c0w (jaC (BRR A0K) (DV 4 JJ)))))))
 CD0))]
  refine⟨_,rfl,_,rfl,A0G,BJ 0x4d5c44b53a3ccfb65 n2,AB2 ca a0⟩;rw[Int.toNat_natCast]at a0;refine⟨ca,fre n,rfl,a0,GH,GS a0P a9v n2,λp2 zs U H2 s2 e2 a6 a2 b0=>?_⟩;rw[A3S a3];rw[EQ (zK 1 c0Q) l hl];have a8:A84:=a3.free hl;rw[AC S (MU H2 (o:=DW A1C) hl) s3 (a3.trans S)];rw[PJ e3 H2 l A1C l A1C];have S0:Sgs (VI l A1C) A1C [U]:=BC Sgs.snoc ss [] L [] (DZ (fY z x6)) (C0N S) (a6.same S);generalize VI l A1C=H3 at s3 e3 S0
  rw[ABH]
  refine uS ra (nQ hra);refine VF a9R ra us (OM σ (Ex3 λ(o4:aJ) (B:A0) (L:vB)=>An6 (σ=[CWI,DS n,CWR,A8N,o4]) BL (iQ l B) (Sgs H' B L) E94 (BdL n i L)))
   ⟨none,A1C,[U],rfl,s3,e3,S0,eX (HE U b0 a2) (λi r z=>x6),λj t e=>by
    match j,e with
    |0,e=>rw[CI];exact b7z n n2 a2
    |JL,e=>exact A9N⟩ (NM σ (by obtain⟨_,_,_,_,s',_⟩:=h;exact SqT.of (mG hra))) ?_ ?_
  .rintro i x σ H4 hx ⟨o4,B,L,rfl,s4,e4,hS4,hC,hB⟩;obtain⟨D,a9,M,xa,rfl,b4⟩:=hI.mem hx;have J:i<rss.length:=LX M;have Z:L.length=AM:=by rw[EGN hC.len J]
   have O:B.length=AM:=AAM hS4 Z;obtain⟨y,R⟩:∃y,GD B DFD y:=(EM (KA (BJ 0xb9bf08f0bfa022b336d6 O)));rw[FZ b5 (CC B y) (vP i DFD 0x1863c0a822fb06b50b73b8be5f2d6 O) R]
   obtain⟨ya,ws,u,rfl,a4,Y,I⟩:=hS4.2 i y b5
   rw[ABH]
   rw[AC C (hR D a9) X GW];rw[fN b1 b2 d1L (show i<=6 by exact lq 0x34180881082fffbba31891a7 hul J X)];have p:=hB i u I;have b3:Sm (u.map (dot D)):=λz hz=>by
    rw[FT v W hz];have h:=a6V AH (A5D (OJ<=4750104241)) D v C.2 λy R=>⟨ANL CK5 R,Int.le_trans (CK5 y R).2 b2⟩;rw[EK0]at h;omega
   rw[FQ (HE _ (OW e4) ?_) ⟨_,rfl,_,rfl,l,_,_,_,rfl,rfl,DP e4,c3Y R,_,rfl,_,rfl,ya,xa,ws,u,D,most,_,rfl,rfl,a4,Y,ABQ b4,AE C.1 n1,SD C.1,AE Y.1 CU,BJ 0x6421a1d3a9172f4ce5 hmo,λv W=>AYK EK0 C.1 (λy R=>VC (CK5 y R)),b3,λq f g fs a5 b9 H5 G hq hf a7 N=>?_,λH5 G ho=>ke H5 C7C ⟨i,D,L,u,M,hC,I,ho⟩⟩];refine⟨q,_,0,_,rfl,rfl,C1W,rfl,?_⟩;rw[JK e5 (cP e4) (LC l _ _ rfl e5 (~~~lq 0x5a385c151da058e2040b139fd6a28f8ff3354cfda9 hul hz J O X) ?_)];have b7:Tk H5 (GO H5 l EEJ):=Tk.put e5;refine⟨_,EEJ,L++[a5],rfl,IY o (A16 (A8Z a8) (RT ((C7C)))),A2,((ES3).snoc hf a7).tk b7,hC.snoc M I N,A5S j t⟩;rw[List.getElem?_append]at e;split at e
   .exact hB j t e
   .next c =>
    have a1:j-L.length=0:=by
     rw[AJ0 A3K];omega
    rw[GM a1];rw[CG (show j=AM by exact lq 0x4e13c057a4ec303ea17eaf83a9c4dc12a32bf10ed7 Z c a1) Int.pow_succ (N.bd p AD C.1 hmo)]
  .rintro σ H4 ⟨o4,B,L,rfl,s4,e4,hS4,hC,hB⟩;refine eV l _ (BDI e4);rw[eD G H4 B hq];rw[cY GW hC];exact kq q B L _ C7C A2 ES3 hC λt ht=>by
    rw[vX j hj ht];exact(hB j t hj).1
#where
#where
section
variable {cs:AK}{m:Nat}{rss:LLI}
noncomputable def Tdc(rss:LLI)(cs:AK)(m:Nat)(qO:LLI):Prop:=∃F W k,eH/\C8H/\BBE/\uV
def Tdc.one{e b:LLI}{m':Nat}(h:CML e)(h':Tdc rss cs m' b):e=b:=by
 rw[FLP o n]
def Tdc.not{a:LLI}(h:Tdc rss cs m a):¬BQN BTA:=by
 rw[FG8]
noncomputable def Lim(rss:LLI)(cs:AK)(m:Nat):Prop:=∀F W k,eH->C8H->AGX 900
def Lim.few(h:m<=900):CI4:=AEP q (DJJ q)
noncomputable def Fw(n:Nat)(qO:LLI):Prop:=qO.length<=900/\FP qO (AXX n (ALO v 901))
def Tdc.fw{d:LLI}(h:Tdc rss cs m d)(j:CI4):Fw cs.length d:=by
 obtain⟨F,W,k,g,i,e,_⟩:=h;rw[IM (b2s e g (j F W k g i))];rw[EQ h1 v l];rw[ABC b c (h2 v l)];rw[AQ a (λx f=>⟨b x f,by rw[MM (b1l b x f) 0x2cb36a012f44d38cac16b33ae932 c]⟩)]
noncomputable def sdS(rss:LLI)(ss:qI):LLI:=AXV (λr s=>DZX) rss ss
def c4E{ss:qI}(h:CCK):KQ sdS rss ss=rss.length:=by rw[ZW sdS List.length_zipWith h Nat.min_self]
def c4D{ss:qI}{x:qI}(h:x∈tK):∃r s,A0W/\s∈ss/\x=DZX:=by
 rw[iK h];unfold sdS at hi⊢;rw[List.length_zipWith]at hi;rw[List.getElem_zipWith];exact nA _ (EG2 b5v) (EG2 b3R) rfl
noncomputable def sdC(n:Nat):AK:=AS3++[xV]
def a0s(n:Nat):EH sdC n=CW:=IF sdC
def c6i{v:qI}{n:Nat}(h:DQP):∃u t,v=u++[t]/\u.length=n:=by
 refine⟨v.take n,v.getD n 0,?_,DZO 0x5cd708d33031bb8db2d6⟩;rw[A8V j];rw[List.getElem?_append,List.length_take,Nat.min_eq_left (dZ 909891649188566)];split
 .rw[List.getElem?_take,lL (by assumption)]
 .rw[FO j n]
  .rw[DB];rw[Nat.sub_self,List.getD_eq_getElem?_getD,KA (dZ 909905142117078)];rfl
  .rw[JP List.getElem?_eq_none,B6Z (by simp;omega)]
def c3J(ys:qI)(h:0<ys.length):BFO BQ8 (-1)=ys.dropLast.map V.int:=by
 rw[ELM BV1 BV1 (by
  rw[BZN];rw[F8T (BG ys.length) ys.length])]
 rw[e,HT.sIx_none,List.drop_zero,Nat.sub_zero,<-List.map_take,List.dropLast_eq_take]
section
variable {P:qG}{w:World}{K:qF}{mg:BF}{base:Heap}
def d1K{caps:L2.St}{u v:V}:Sub CTG (C11::bE UO):=(DZ (λj x e=>by
 match j,e with
 |0,e=>rw[CI]
 |1,e=>rw[CI]
 |oO,e=>exact e))
inductive IspSided(vs:A0)(H:Hp)(Q:VK)(E:XK):Prop
 |mk (ra sa:qE) (us:A0) (rss:LLI) (ss:qI) (_:QA A1X (AI sa)) (_:C8C) (_:MR) (_:aN) (_:BAO) (_:CCK) (_:E7N) (_:BI2 tK):HF IspSided
noncomputable def b5c:Sp:=IB IspSided
def b8N:wB "rows" "sides" "rows" "sides" a8V:={}
def b9W(F:ZM "sided" a8V "rows" "sides")(T:AV):F8H:=by
 rw[BO b8N u t I]
 rw[AEC ra sa x0]
 .obtain⟨ra,sa,us,rss,ss,rfl,hra,hI,hul,hrl,hsl,hsa,kk⟩:=h;rw[VJ n]
  rw[GL (ZZ (AZJ "row" "side"
 (mR D6U D6U)) (GC a3n 0 (O8 (BN (Y7 (jv 1))))))]
  refine AXQ ra sa hra hsa;refine BC O6 xs us zs (PV ss.map) (EDY n) (dP (UM ys F2H)) (AG3 Its.nil) (F06 hra hsa (by rw[XM];unfold sdS;rw[F2 List.length_zipWith List.length_take lq 0x346f103b6b388e88ed7])) ?_ ?_
  .rintro i x z ys H1 p hx hz' ⟨s1,hy⟩ hp;obtain⟨r,k,a,g,rfl,m⟩:=hI.mem hx;rw[bC sz l K9 hz'];rw[AC b (hrl r k) s2 (AO5 H1 (BL2 g BPW) hp)];refine tL p EIF A2 B6T (WN sz) BPW [];generalize ALX p EIF=H2 at s2;rw[KG d1K];rw[UV (LC _ rfl _ _ rfl (C9S n) (A7Z B)) d s2.upd (GN (WN (-sz))) j];refine⟨g,B,_,_,rfl,rfl,A9W DJN m,A2,by rw[BZN];rw[iU BU4 0xbd9ec586179b634a30ae923ce n b],BS C G D v⟩;have c:=d.trans D;rw[KG (s1.trans c)];have e:sdS (rss.take AM) (ss.take AM)=F2H++[r++[-sz]]:=by
    have h1:=DX6;unfold sdS;rw[List.take_add_one,List.take_add_one,a,l,List.zipWith_append (by rw[List.length_take,List.length_take];rw[DG 0x376d637b38a4fa5af07f10ecf9ad2d7b22236f8957 hsl])];rfl
   rw[e];exact(hy.same c).snoc (D4 C (BQG v))
  .rintro ys H1 ⟨s1,hy⟩ p hp;rw[List.length_map,GW,hsl,Nat.min_self,List.take_length,<-hsl,List.take_length]at hy;rw[BD9 fV hp];rw[FER p y d hp y DJN (hy.same d)]
inductive IspSidedCaps(vs:A0)(H:Hp)(Q:VK)(E:XK):Prop
 |mk (n:Nat) (wi:Int) (_:AOC wi) (_:wi=n) (_:aQ) (_:dD n) (_:AV2 q (SA q (kH (FW sdC n) cV)) tF):HF IspSidedCaps
noncomputable def a4z:Sp:=IB IspSidedCaps
def a7l:CJB a0t:={}
def a7r(F:C78 "sided_caps" a0t)(T:AV)(a:AT5):F0U:=by
 rw[BO a7l g c j]
 rw[TJ n wi]
 .obtain⟨n,_,rfl,rfl,h1,h2,kk⟩:=h;rw[VJ d]
  rw[GL (a3n E6Y (O8 UC))];refine⟨_,rfl,_,rfl,A0G,~~~c0Z h2,AB2 p e1⟩;rw[Int.toNat_natCast]at e1;rw[EQ (C9S d) p2 b];rw[eD s2 H1 (WN 1) b];refine⟨p,p2,_,_,rfl,rfl,ACV,A2,by rw[uI List.length_replicate];rw[iU BU4 0x3e1f870b5a281cfcc60e866 h2 d],BS k e l i⟩;exact kk k e (CHF l) (by rw[i];rw[C86 sdC])
noncomputable def a4Z(t:Int)(qO:LLI):LLI:=FE (WF qO.filter v (v.getLast?=some t)) List.dropLast
inductive IspEnding(vs:A0)(H:Hp)(Q:VK)(E:XK):Prop
 |mk (p:qE) (us:A0) (qO:LLI) (n:Nat) (t:Int) (_:t9 (BP t)) (_:AGP p) (_:CA9) (_:aN) (_:TB) (_:(SX qO DQP)) (_:BI2 (a4Z t qO)):HF IspEnding
noncomputable def b0C:Sp:=IB IspEnding
def b6C:wB "some" "last" "some" "last" a5N:={}
def b6W(F:ZM "ending" a5N "some" "last")(T:AV):F8I:=by
 rw[BO b6C y m G]
 rw[AHW p us qO n t]
 .obtain⟨p,us,qO,n,t,rfl,hp,hI,hul,hn,hl,kk⟩:=h;rw[VJ C]
  rw[GL (ASQ (CFD "last"
 (ACM "last") (AC6 (K3 (D0 K DY (Y7 A7)) (jv 1))) (TN (E7U CK3))))]
  refine uS p hp;refine S7 (xs:=us) (EDY C) (OM ys (BL/\UM ys EZ9/\AK6)) ⟨qU,Its.nil,BV⟩ (NM ys ⟨zS hp,nF⟩) ?_ ?_
  .rintro i x ys H1 hx ⟨s1,hy,hyl⟩;obtain⟨r,g,j,v,rfl,l⟩:=hI.mem hx;have k:=hl r g;obtain⟨u,z,rfl,I⟩:=c6i (n:=n) k;have a:=HR l;have c:CA1 D7A (-1)=C2O:=c3Y (by rw[List.length_map,List.length_append,List.map_append,UT List.getElem?_append_right];simp);have e:a4Z t (qO.take AM)=EZ9++(AN7 (z=t) [u]):=by
    rw[F9Z a4Z j];rw[FO z t]
    .rw[IP];simp[e]
    .rw[GA];simp[e]
   rw[e];rw[B95];refine⟨_,rfl,_,rfl,v,_,_,_,rfl,rfl,DES,c,_,rfl,rfl,_,rfl,lN⟩
   .have e':z=t:=by rw[zO]
    rw[C35];refine⟨_,rfl,_,rfl,_,rfl,v,_,rfl,DES,?_,ANQ D⟩
    .rw[show D5X DPQ DPQ=u.length by
      rw[DRP];rw[F8T (EU C0I) C0I]]
     rw[DRP];show ¬(_/\u.length=C0I);omega
    rw[c3J _ AF,List.dropLast_concat];rw[PX b H1 (RG u.map) d];rw[AU DFZ ((hy.same b).snoc (AXC D)) B61]
   .rw[MD e' (¬z=t) e]
    rw[BZT C2G];rw[AU s1 hy (ABV hyl)]
  .rintro ys H1 ⟨s1,hy,_⟩ p1 hp1;rw[cY GW hy];rw[FER p1 B b hp1 B DFZ (hy.same b)]
inductive IspBeyond(D:qE)(vs:A0)(H:Hp)(Q:VK)(E:XK):Prop
 |mk (ra sa:qE) (us:A0) (rss:LLI) (n most:Nat) (ss:qI) (wi mi:Int) (_:vs=[A1X,AI sa,DEP,BP mi]) (_:wi=n) (_:BDX) (_:C8C) (_:MR) (_:BCY) (_:E5E) (_:aQ) (_:vU) (_:most<=2000) (_:CCK) (_:Bds ss) (_:E7N) (_:EW6 Lim) (_:(∀(q t b pp:qE) (zs ys:A0) (qO:LLI) (H':Hp),BL->AH4 [KH,GV,B24]->EHG->UM zs (a4Z 1 qO)->fK b ys->UM ys (a4Z 0 qO)->F7C qO->tF)) (_:BED (EW6 Over)):AJE IspBeyond
noncomputable def b0E(D:qE):Sp:=B93 IspBeyond
def sc_beyond:DA ["rows","sides","width","most","walk"] BYS a5O:={}
def b6X{a:qE}(F':HA "beyond" a5O BYS)(T:AV)(e:F8H)(b:F0U)(c:F8I)(d:ATN a):F3J a:=by
 rw[HP F'.okE sc_beyond a2 a0 G]
 .rw[sR ra sa us rss n most x0 wi mi]
 .obtain⟨ra,sa,us,rss,n,most,ss,_,_,rfl,rfl,rfl,hRe,hRI,hRl,hR,n1,n8,hmo,hsl,hsb,hsa,hLm,kq,ke⟩:=h;rw[VJ hz]
  rw[BU (CA 4 sc_beyond.nd (ART d G.mono a9q (pX (F0 e G.mono WV) (AQ1 G.mono a6o JJ) tO))
 (SE O8 (pX E0X E0X (BT6 4))))]
  rw[FQ ⟨_,rfl,_,rfl,ra,sa,us,rss,ss,rfl,hRe,hRI,BMU hRl,λr l=>GS (AQ9 l) a0H n8,hsl,hsa,EE q1 z1 H1 s1 e1 y⟩ ⟨_,rfl,n,_,rfl,rfl,n1,~~~a9v n8,CCU c2 e2⟩];rw[A3S J];have Y:SyAt H2 q1 c2 tK (sdC n):=⟨⟨z1,ACV,y.same s2,by rw[dF,c4E hsl,<-hRI.1];exact a1p hRl⟩,e2,GS a0s lq 769280509789,ABU a0s 87696555759999845 n8,λr l=>by
   obtain⟨x,sz,hx,X,rfl⟩:=c4D l;rw[EQ (CUO (nD hR hx) a0s) z hz];rw[OZ (A9L hz)]
   .rw[nJ (AJW hR hx) z q]
   .rw[B9L];have:=hsb sz X;rw[gN topN];omega⟩
  have F:BV9 CW<=2001*9:=ED6 (~~~c1f hmo) 0x2144658f78039b65 n8;refine⟨_,rfl,q1,c2,tK,BQ6,most,_,rfl,rfl,Y,ABU a0s 0x14bcb5b27dc9c72f5732f6416e09876a5 F,λq t pp zs j ws Fl W k H3 s3 U ht g S V a4 a3 hW D=>?_,λH3 s3 O=>ke H3 (J.trans s3) O⟩;have a1:=J.trans s3;have B:F7C j:=⟨Fl,W,k,hW,D,S,V⟩;have u:=B.fw hLm;rw[a0s]at u;obtain⟨I,C⟩:=u;rw[CF ⟨_,rfl,q,_,0,KH,rfl,rfl,GE U,rfl,t,zs,j,n,1,rfl,ht,g,EXM,DX8,EXK,EE b4 z4 H4 p e4 M⟩];rw[FQ ⟨_,rfl,q,_,0,KH,rfl,rfl,bQ p U,rfl,t,zs,j,n,0,rfl,AG p ht,g.same p,EXM,DX8,EXK,EE b5 z5 H5 s5 e5 N⟩ ⟨_,rfl,q,_,1,B24,rfl,rfl,bQ ((p.trans s5)) U,rfl,AEA 3 0x226d156eeb7523cd,BH p6 R⟩];rw[AC m (MU H5 (o:=GN [AI b4,AI b5,B24]) R) L (s5.trans m)];have a5:=p.trans L;exact kq p6 b4 b5 pp z4 z5 j _ (DKA p L) A2 (AG L e4) (M.same L) (AG m e5) (N.same m) B
def a9U{n:Nat}{t:Int}{a:LLI}(h:Fw CW a):Fw n (a4Z t a):=by
 unfold a4Z;rw[EQ (IL (BAD CB)) v c];rw[FT u b c];rw[IM (DK u CAT)];rw[AQ (UH List.length_dropLast h1) (λx d=>h2 x ((List.dropLast_sublist u).subset d))]
#where
noncomputable def d1E(xs:qI):Prop:=dL (BJ2 1000000000000)
noncomputable def R0(ps:qI)(rss:LLI):LLI:=AFS DIP
def b2W{ps:qI}:KQ R0 ps rss=rss.length:=B60 R0 List.length_map
noncomputable def BsP(rows:LLI):SJ C15
 |none=>D3M
 |B76=>(EBN)∈rows/\∀r'∈rows,t8 r' EBN
def BsP.one{rows:LLI}:∀{a b:C15},BsP rows a->BsP rows b->iR
 |none,none,_,_=>rfl
 |none,B76,h,g=>by rw[iE (DDD h) g (nomatch UU)]
 |B76,none,h,g=>by rw[DDD g]at h;exact nomatch CB
 |AO (n,t),AO (m,u),h,g=>by
  have e:=R6 DO2 (m::u) (g.2 _ CB) (DK _ UU);rw[ARL]
  rw[AAZ]
noncomputable def d2k(H:Hp)(v:V)(rows:LLI):Prop:=(BsP rows none/\D4Q)∨BHZ t q (rP q/\E0G/\DXZ/\EI8 rows)
section
variable {P:qG}{w:World}{K:qF}{mg:BF}{base:Heap}
inductive spCheapest(vs:A0)(H:Hp)(Q:VK)(y_3:XK):Prop
 |mk (t:qE) (pv:V) (us:A0) (rss:LLI) (ps:qI) (_:QA KH pv) (_:BAZ) (_:MR) (_:DTE) (_:W1 pv ps) (_:dD ps.length) (_:A65 (d1E r)) (_:AX3 (d2k H' v (R0 ps rss))):HY spCheapest
def b0M:wB "told" "prices" "told" "prices" a2z:={}
def b1g(F:ZM "cheapest" a2z "told" "prices")(T:AV)(b:F0G):FA3:=by
 rw[BO b0M D u B]
 rw[AEC t pv ps]
 .obtain⟨t,_,us,rss,ps,rfl,ht,hI,hl,⟨pa,rfl,hp⟩,hpl,hR,k⟩:=h;have I:=B.u60;rw[VJ g]
  rw[BU (SE (c6s K I rfl T.b_min) (BN (RU (CFD "prices"
 (ACM "prices")) (O8 (C0Y (C8S B.mono))))))]
  refine E1J;refine S7 (xs:=us) (AR 0x6cb974c83285dedc36ecace6 hl g) (dP (PrI K H' ys EZ8)) (AG3 EFA) (EMB ⟨zS ht,GU XM b2W lA⟩) ?_ ?_
  .rintro i x ys H1 hx ⟨s1,hy⟩;rw[A3T c m p hx];rw[HG C d p];have j:=AC4 c;rw[B95];rw[FQ (BDQ _ _ ps r (D4 pa AOU) (D4 C (HR d)) (AHI hpl) ((λz g=>BZK j g)) ASI) (A05 (E64 g) L l)];rw[B7U y (GN [.int (dot ps r),QG]) l];rw[KG DI7];have e:R0 ps (rss.take AM)=EZ8++[DIP]:=by
    unfold R0;rw[BW4 m]
   rw[e];exact(hy.same y).snoc A2 (A9W DI7 d)
  .rintro ys H1 ⟨s1,hy⟩ p1 hp1;rw[cY GW hy];rw[BDB fV hp1];refine LC p1 ys _ YQ DJR AU2 (EE v r J c ex G)
   .exact AJ k tQ (uB e)
   .obtain⟨n,t',q,a,e1,e2,e3,e4⟩:=ex;exact AJ k tQ (DC ⟨n,t',q,a,e2,e3,e4,(show BsP _ (AO (n,t'))from⟨e1 ▸ c,e1 ▸ G⟩)⟩)
def c4K:BCQ "prices" "prices" b2U:={}
def c5M(F:A2I "cost" b2U "prices")(T:AV)(a:BH9):F0G:=by
 rw[BG6 c4K]
 rw[ATL]
 .obtain⟨x,y,xs,ys,rfl,hx,hy,hl,hs,k⟩:=h;rw[GL (mY d.mono WV)];exact BDQ x y xs ys hx hy hl hs k
#where
#where
section
variable {now xs:qI}
section
variable {P:qG}{w:World}{K:qF}{mg:BF}{base:Heap}
def b8P:CH7 a8X:={}
def c0a(F:HA "minus" a8X AIE)(T:AV):EOR:=by
 rw[BO b8P e d m]
 rw[ATL]
 .rw[CQ7 c];rw[GL (ZZ (BFZ
 AT0) (ACQ b1L))]
  rw[FCU E16 (x-y)]
#where
noncomputable def Small(xs:qI):Prop:=dL D52
def Small.at(h:A2S){k:Nat}(a:ACW):0<=C9L/\GY C9L:=by
 rw[EVH]
def IT.put{H:Hp}{v:V}{ns:qI}{c:qE}{xs:A0}{o:HO}(h:BCD)(b:B9V):IT B0B v ns:=by
 rw[IJ a e q h a e (BV5 b)]
def Its.put{H:Hp}{vs:A0}{rss:LLI}{c:qE}{xs:A0}{o:HO}(h:TD)(a:B9V):CEZ:=CJ2 (IT.put e2 a)
noncomputable def cst(l:HW):qI:=BXK l.map
def c6W(l m:HW):cst (l++m)=cst l++cst m:=List.map_append
def b8g(now:qI)(j n:Nat)(c:now.length=n)(d:iA):List.zipWith DQE now CNF=APU:=by
 unfold bump;rw[BYI (List.ext_getElem (by simp[c]))];rw[List.getElem_zipWith,List.getElem_map,List.getElem_range,List.getElem_set];rw[FO j i]
 .rw[DB];rw[EK,EK];have:gC=now[j]'(AD):=DQR (AIT C2J)
  rw[this]
 .rw[WX GA CER]
def c6M(x:Int)(l:qI):aB (AM8 .int (PV l.map)) (x∈l):=by
 rw[EJ5 inV Bool.eq_iff_iff decide_eq_true_eq]
 .rw[tY y hy];rw[FT z a hy];have:z=x:=B1Y eqV e
  exact this ▸ a
 .intro h;rw[AU B79 (wT x h) DJC]
def b7y(l:qI):DRZ V.int:=by
 rw[E84]
def c5T{l:HW}{j:Nat}:aC∈cst l↔j∈l:=by
 rw[E5U cst]
 .rw[tY k hk];have:k=j:= ~~~b3G e
  exact this ▸ hk
 rw[EJF j]
noncomputable def Ls(now xs:qI):HW:=BXE xs.length CG3
noncomputable def Fl(rss:LLI)(now:qI):HW:=BXE now.length C8N
def c8I{rss:LLI}(h:DP5):tH=BLY:=by
 unfold Pl Ls;rw[B9B j];rw[L1 h]
def c5c{rss:LLI}(h:DYO)(c:EBK):(cst BLY).filter EFM=cst tH:=by
 rw[FY cst List.filter_map];congr 1;unfold Ls Pl;rw[List.filter_filter];refine HU List.filter_congr j b;have a:=DFX;show(inV (.int aC) D8K && CHT)=_;rw[c6M,h,Bool.false_or,Bool.and_comm];congr 1;rw[Bool.eq_iff_iff,decide_eq_true_eq,decide_eq_true_eq,c5T];rw[ZW Fl List.mem_filter List.mem_range decide_eq_true_eq];rw[AQ (λq=>CS) (λq=>⟨ZJ R5 c,q⟩)]
noncomputable def NN(xs:qI):Prop:=v4 xs (0<=z)
def d1m(h:CCI)(a:AQD)(hs:A2S):DWC:=λz b=>by
 rw[iK b];rw[SQ (h _ b) (a.2 i E65)];have c:=hs.at (k:=i) E65;have e:now.getD i 0=now[i]:=by rw[AL7 hi]
 omega
def c5Q(h:CCI)(j:Nat):NN (bump now j):=λz a=>by
 rw[A7S bump];rw[OZ (List.mem_or_eq_of_mem_set a)]
 .exact h z q
 .by_cases hj:j<now.length
  .have:gC∈now:=by
    rw[B5A ALQ]
   have:=h _ this;rw[ZI c1k q]
  .have:gC=0:=DQR (BVA now.length j O1 hj)
   rw[QE 0x11029a55bcf34ed579e372 q]
def a7O:∀(xs:qI),A2S->xs.sum<=1000*xs.length
 |[],_=>AF
 |EX,h=>by
  have:=AS1;have:=BFJ (a7O xs);rw[WX List.sum_cons List.length_cons]
def b5h(n:Nat):EHD:=by
 induction n with
 |zero=>rfl
 |succ n a=>rw[EOD]
def a7I(xs:qI)(h:A2S):Under AYX xs:=by
 rw[EQ AF j a];have:=h.at a;have e:AH3 xs.length getD j 0=0:=by rw[AL7 a]
 rw[FX 0x7b194f3034f5fcdf2252 AN6 e]
def c9t(n:Nat):NN A1J:=λz a=>GS (List.mem_replicate.mp a).2 Int.le_refl _
section
variable {P:qG}{w:World}{K:qF}{mg:BF}{base:Heap}
inductive spNxp(vs:A0)(H:Hp)(Q:VK)(y_3:XK):Prop
 |mk (a:qE) (y z:V) (us:A0) (rss:LLI) (now xs:qI) (j:Nat) (rest:HW) (_:vs=[CM,y,z]) (_:jL) (_:MR) (_:W1 y now) (_:AQK) (_:aN) (_:EBK) (_:MO) (_:CAH) (_:DWC) (_:E40) (_:APK j):HY spNxp
def sc_next_place:DXJ "at" "one" "falling" BXB a0x:={}
noncomputable abbrev d2j(a:qE)(ya:qE)(za:qE)(H:Hp)(rss:LLI)(now:qI)(xs:qI)(σ:L2.St)(H':Hp):Prop:=∃p o4,σ=[RQ,DX ya,D2S,cA,o4]/\BL/\SA p (AV6 tH)
def c9q(F:HA "next_place" a0x BXB)(T:AV)(b:AED)(c:CJ3):F18:=by
 rw[BO sc_next_place L u g]
 .rw[sR a y z us rss now xs j rest]
 .obtain⟨a,_,_,us,rss,now,xs,j,rest,rfl,ha,hI,⟨ya,rfl,hy⟩,⟨za,rfl,hz⟩,hl,hnl,hxl,hR,hs,hPl,k⟩:=h;rw[BU (eM (F1M sc_next_place.nd "at" (AT2 (xM JJ))
 (DJZ "at")) (B7Q a8e CC1 DVK) DY
 (A3 (A45 (AQ1 g.mono a2E WV)
 (ASO 4 sc_next_place.nd (gD c g.mono a2E WV)
 (A5 (mV 3 sc_next_place.nd (N:=["j","falling"]) (src:=[none,BO0]) BCA
 (C8D "falling") (AC6 (BD6 DY U3)) (TN DY))))
 B6)
 (FH (AUP 3))))]
  rw[CP8 za hz AD];rw[FB2 (DX ya) D2S (λj=>CHT) hxl W M]
  .exact⟨_,rfl,_,rfl,ya,_,_,_,rfl,rfl,C5E hy,a1K (BKM hnl),_,rfl,_,rfl,za,_,_,_,rfl,rfl,C5E hz,a1K hi,_,_,rfl,rfl,_,rfl,aG⟩
  rw[B7U e B0K M];rw[MK B H2 p B0K p B0K];show(yO _) _ EHR;generalize EHR=R at e B;rw[FF];rw[CIR (d2j a ya za H rss now xs)]
  case fin =>
   rintro σ H' ⟨p,Y,rfl,s',e'⟩;refine UR p _ 0 gK rfl rfl (DP e') ?_ (LZ s');rw[AB hPl (a1K (ns:=aC::cst rest) (k:=0) AF)]
  refine BY7 DE6 now (AG e ha) (hI.same e) (D4 ya (AG e hy)) hl (λr g=>AE (AQ9 g) hxl) hs (ANQ S);rw[dV C d B d (e.trans d)];cases G:C6H with
  |true=>rw[NH true (C5A (QF p _ d (AE (c8I G) C)))]
  |false =>
   rw[FQ (DHS AP1) ⟨_,rfl,_,rfl,a,DE6,us,rss,now,rfl,AG d ha,hI.same d,D4 ya (AG d hy),hl,AR 0x1861d376767851c52273ae63a0456 hnl hxl,AE hnl hR,hs,BS Z U l n⟩];rw[HG I t n];rw[dV D l C l (d.trans l)];rw[CF (aH p D)];rw[ER (b7h (caps:=[DX I]) EFM (by unfold cst Ls;rw[AB List.length_map (BAD B61)]) (A2V D) rfl (λx J X _ v q=>⟨_,rfl,_,rfl,I,_,rfl,QM (B25 v),rfl,b7y _,_,rfl,q⟩)) J O v m];rw[AB (c5c G hnl) (LY (QF O _ (l.trans (v.upd m)) A2))]
inductive spWay(C:qE)(vs:A0)(H:Hp)(Q:VK)(E:XK):Prop
 |mk (a:qE) (z:V) (us:A0) (rss:LLI) (xs:qI) (_:A00 z) (_:jL) (_:MR) (_:AQK) (_:aN) (_:BAO) (_:Sm xs) (_:((wF/\DIH/\AQG/\CAH/\A2S/\∀v js H',BL->E8D->IT H' v (cst js)->y6)∨(D60/\kI DSI))):zT spWay
def sc_way:DXJ "one" "at" "j" A6Q b8R:={}
def c9n{C:qE}(F:B8A "way" b8R)(T:AV)(g:AED)(p:CJA)(x:CO3)(t:CKK)(d:F18)(OC:OwnCls "NoAnswer" C BML "ValueError.__new__" mg base):F9G C:=by
 rw[HP F.okE sc_way b0 a9 G]
 rw[AEC a z xs]
 .obtain⟨a,_,us,rss,xs,rfl,ha,hI,⟨za,rfl,hz⟩,hl,hRl,hSm,k⟩:=h;have hu:=G.u60;rw[eT b2 10000]
  rw[BU (A3 (A45 (B00 g G.mono 174586636 WV)
 DYZ
 B6)
 (CA 2 sc_way.nd (CEV p C1J)
 (ADE 3 sc_way.nd
 (BF4 (b1F (c2X K hu aE U3)
 (CA 4 sc_way.nd (gD d G.mono b3k (YI DRV))
 (A3 (D5 (pP E8 3 nT))
 (B7W 2 sc_way.nd (CEV t (DV 2 (BN (CEV x (jaC dC nT)))))))))
 CD0))))]
  refine BY7 B6U xs ha hI (B88 hz) hl hRl hSm AMP;rcases k with⟨Z,a7,B,hR,hs,k⟩|⟨Z,k⟩<;>rw[Z]
  rotate_left
  .rw[NH false (D6 ⟨AB7,DLL⟩)]
  rw[FQ (D4 true A2M) (BSI za (HR hz) (BQC a9x a7) (IL (lq 0x4d5c44b53a3cd5125 B)) (CCU v2 O))];rw[List.length_map,Int.toNat_natCast]at O;rw[A3S s2];rw[FF];rw[aR n J];rw[B7U s3 OO J];have a2:EN n:=s2.free J;rw[fL e3 H2 n OO n []];have R:=wD O.same H2 OO J;generalize VI n []=H3 at s3 e3 R;rw[CF ⟨λm σ H'=>FKM now (m=E5N) now AQD CCI now now.sum,
   ⟨_,v2,none,_,[],rfl,rfl,s3,R,a7I xs hs,c9t _,rfl,b5h _,e3⟩,?_⟩]
  rintro m σ H' ⟨v,L,now,l,rfl,rfl,s',hv,D,hN,hG,N,e'⟩;rw[mU va a6 id hv];refine⟨_,rfl,_,rfl,1,_,AH,EqV.ints (k:=true) (sqt a6) (sqt DP4),CHK,_,rfl,?_⟩;rw[BI y now xs]
  .subst y;rw[GG (show A8S (F25 now now) by simp) C1 ?_];refine eV n _ (BDI e');exact k _ l _ (BZ9 hq) hG DS3
  .rw[GG (show LQ (F25 xs xs) by simp[y]) D6 ?_];have a3:=CI2 c7v (λr G=>AQ9 G) D y Z;obtain⟨j,rest,I⟩:∃j rest,E40:=by
    cases e:tH with
    |nil=>rw[DT e a3]
    |cons j rest=>rw[AU j rest rfl]
   have M:BBS:=by rw[BE3 I]
   rw[AC hj (a6a M) a0 D.sum];rw[JK a8 (a7O xs hs) ⟨λσ H'=>FKM c (TW (B1W c.sum)<E5N) c (Under c xs) (NN c) c c.sum,
    BNB ⟨v,L,c,l,h1,h2,h3⟩ ⟨_,h2,v,L,c,l,h1,rfl,h3⟩,?_⟩]
   refine⟨_,rfl,_,rfl,_,rfl,a,ANB,B6U,us,rss,now,xs,j,rest,rfl,C7Z,hI.same s',hv,(B88 DP4),hl,D.1,DXC,hR,d1m hN D hs,I,BH X W⟩;rw[dV Y W e' a4 (hv.same W)];have W:=s'.trans W;rw[CF (BI9 (OW Y) n Y (by rw[List.length_map];unfold cst;rw[KO List.length_map]))];rw[show BOX l++[BP aC]=BJ9 BM4 V.int by rw[C2S c6W]];have S:=IT.put (o:=B0L) a4 Y;have s5:NZ ESC:=dM (AE (A8Z a2) (A0Q W))
   rw[MK e5 X n B0L n B0L];generalize ESC=H5 at S s5 e5;rw[FQ ⟨_,rfl,_,rfl,za,_,rfl,QM (iG hz),_,rfl,_,xs.length,j,rfl,B9Q,DXC,hj.1,BS v6 H6 s6 a5⟩ ⟨ANB,v6,now,_,rfl,S.same s6,a5,GS D.1 b3o B,BS v7 H7 s7 U⟩];rw[b8g now j xs.length D.1 hj.1]at U;rw[JK a1 (a3x now j (AE D.1 hj.1)) ⟨v7,_,APU,BM4,rfl,?_,GK s5.trans s6 s7,U,D.bump M,c5Q hN j,hG.snoc ⟨rest,I⟩,AGY a1 N List.length_append,ANE (AG s6 e5)⟩];have b1:=a0.2 y;omega
#where
def b1O{rss:LLI}{xs:qI}:∀(b:HW) (now:qI),AQD->ENF->BG b.length=B1W now.sum
 |[],now,_,h=>by
  have:now=xs:=h;rw[iF];simp
 |j::b,now,e,⟨⟨rest,c⟩,f⟩=>by
  have a:BBS:=by rw[BE3 c]
  have d:=a3x now j (by rw[e.1];exact(a6a a).1);have:=b1O b APU (e.bump a) f;rw[CBA 0xa284f07ecd07fc48e236bc51f826138f d this]
#where
section
variable {m:Int}{n:Nat}{r rest:qI}
def c7d{rss:LLI}{v:qI}:ANG↔yJ (dot r v=0):=by
 rw[EGQ];rw[AQ (F4R of_decide_eq_true) (F4R decide_eq_true)]
def d1J(l:qI)(h:BA9):DG2:=by
 induction l with
 |nil=>rw[C7E]
 |cons x l b =>
  have:=CIE b;have:=AS1;rw[KO List.sum_cons]
def d1I(l:qI)(h:BA9)(y:Int)(a:y∈l)(hp:0<y):DGZ:=by
 induction l with
 |nil=>cases a
 |cons x l c =>
  rw[AC b (CIE (d1J l)) h1 AS1];rw[AN5];rw[QI AVW q]
  .exact lq 0xf41b82dfce84f57ce52 hp b
  .have:=c (vR CXZ) q;rw[ZI c0S h1]
def b4j(l:qI):BTH (D5H V.int):=by
 rw[E84]
noncomputable def Ofl:qI->qI->qI
 |EX,HX=>if nH then(B1C)::mO else mO
 |_,_=>[]
noncomputable def b7e:qI->Int
 |[]=>0
 |AA8=>l.foldl (λσ a=>if a<σ then a else σ) x
def a6l{l:qI}(h:C40):b7e l∈l/\∀a∈l,b7e l<=a:=by
 cases l with
 |nil=>rw[DT rfl h]
 |cons x l =>
  obtain⟨h1,h2,b⟩:=fold_min l x;rw[EQ ?_ a c]
  .rw[OZ h1]
   .show gH List.foldl∈_;rw[BE3 q]
   .exact IS q
  .rw[QI (List.mem_cons.mp c) q]
   .exact h2
   .exact b a q
def c0r{l:qI}{M:Int}(h1:M∈l)(h2:∀a∈l,M<=a):M=b7e l:=by
 have b:C40:=λz=>by rw[AW z h1 h1]
 obtain⟨c,d⟩:=a6l b;have:=h2 _ c;rw[KR (d _ h1)]
def b2k:∀(xs ys:qI) (x y:Int),C6U->Ofl D42 D49=mO++(AN7 nH [B1C])
 |[],[],x,y,_=>by
  show OK nH _ _=_;rfl
 |a::xs,b::ys,x,y,h=>by
  have c:=b2k xs ys x y oK;show B22 (0<a) ((b / a)::EW4) EW4=yQ (0<a) ((b / a)::mO) mO++_;rw[c];split<;>rfl
def a5t:∀{xs ys:qI}{m:Int},m∈mO->∃i,A27/\B2F/\0<lV/\m=CKM
 |[],ys,m,h=>DD3 ys yY
 |EX,[],m,h=>yY
 |EX,HX,m,h=>by
  change m∈CLG at h;rw[VG nH]
  .rw[jE]at h;rw[OZ DG8]
   .exact⟨0,AF,AF,c,q⟩
   .rw[FK6 (a5t q)]
  .rw[A2E]at h;rw[FK6 (a5t h)]
def b4z:∀{xs ys:qI}{i:Nat},A27->B2F->0<lV->CKM∈mO
 |EX,HX,0,_,_,h=>by
  have h:nH:=h;show B1C∈CLG;rw[BE3 vH]
 |EX,HX,AM,h1,h2,b=>by
  have a:=b4z (xs:=xs) (ys:=ys) (i:=i) A8P A8Q b;show CKM∈CLG;split
  .exact fS
  .exact a
noncomputable def oft(r rest:qI):Int:=b7e (Ofl r rest)
noncomputable def a3h(rest r:qI)(m:Int):qI:=AXV (zQ (a-b)) rest (r.map λz=>m*z)
noncomputable def R9:LLI->qI->qI×qI
 |[],rest=>([],rest)
 |jN,rest=>(gG::B2A A3V,C20 A3V)
noncomputable def a4s(n:Nat)(r:qI):Prop:=r.length=n/\RZ r (RJ/\x<1073741824)/\DH1
noncomputable def a2l(n:Nat)(r:qI):Prop:=ALJ n (GP r (RJ/\AIF x))
def a5Z(h:gE r)(hs:DH1):∃i,DFJ/\0<AOO:=by
 by_cases q:∃y∈r,0<y
 .obtain⟨y,a,hp⟩:=q;rw[IJ i hi rfl (List.mem_iff_getElem.mp a) i hi (GU List.getD_eq_getElem?_getD UY hp)]
 .have hall:GR r (y=0):=λy a=>by
   have:=h y a;have:¬0<y:=λz=>ZB q y a z;omega
  rw[List.eq_replicate_iff.mpr (DZ hall)]at hs;simp at hs
def b4A(hp:nM)(b:rest.length=n):HH (Ofl r rest):=λz=>by
 obtain⟨i,hi,a⟩:=a5Z (λx c=>nD ANY c) hp.2.2;rw[ABS (b4z (ys:=rest) hi (B21 b mT hi) a) z]
def a9k(hp:nM)(c:A10):0<=gG/\AIF gG/\∀j,iA->gG*QU<=AA7:=by
 rw[IM (EWQ FN)];have a:∀j,iA->AQQ AA7 AA7:=λj b=>SF _ (UG a4i FN b);obtain⟨i,p,k,l,g⟩:=a5t h1;have d:=a i (OV FN k);have h:0<=gG:=by
  show 0<=b7e _;rw[AB g (Int.ediv_nonneg XT (~~~a3X l))]
 rw[FK h ?_ (ANP b)]
 .show b7e _<_;rw[g];rw[nJ Int.ediv_le_self AOO XT]
 .have hx:=CLY ANY r j DX5;rw[BI f QU 0]
  .rw[f,Int.mul_zero];exact(a j b).1
  .have hpos:0<QU:= ~~~a9A hx.1 f
   have e:gG<=EBY:=h2 _ (b4z DX5 (B29 FN) hpos);have m:=Int.mul_le_mul_of_nonneg_right e (BSS DG3 a3X hpos);have o:EBY*QU<=AA7:=Int.ediv_mul_le _ AD;omega
def a1w(h:CDZ):tN a3h rest r m=r.length:=by
 unfold a3h;rw[F2 List.length_zipWith List.length_map c2y h]
def a9G(h:CDZ)(j:Nat):(a3h rest r m).getD j 0=AA7-m*QU:=by
 unfold a3h;rw[List.getD_eq_getElem?_getD,List.getD_eq_getElem?_getD,List.getD_eq_getElem?_getD,List.getElem?_zipWith,List.getElem?_map];rw[iM (j<rest.length)]
 .rw[sV,KA (ZJ a6r h)];rfl
 .rw[AHT a,BZ8 (ZJ b3B h)];show OJ=0-m*0;rw[PD 0x1be5d3a2a0f5436]
def a0g(hp:nM)(b:A10):AGB A3V:=by
 rw[CO7 LG]
 rw[EQ (GT ANT mT) x c];rw[iK c];rw[ANT,mT]at hi;have e:=a9G (m:=gG) a i;rw[List.getD_eq_getElem?_getD,List.getElem?_eq_getElem (by rw[CG ANT mT hi])]at e;have e:(A3V)[i]=C39-gG*AOO:=e;rw[e];rw[BEO d (a9k hp b)];have:=mH h2;rw[AC f (CLY b.2 rest i (C0W LG)) c (CLY ANY r i (C0W mT))];rw[nJ Int.mul_nonneg d FN]
def a8y{n:Nat}:DAR rss (DON) (AGB (C20 rest))
 |[],rest,_,h=>h
 |jN,rest,a,h=>a8y rss _ DYQ (a0g F54 h)
def b2l:∀(rss:LLI) (rest:qI),BPG (QT (B2A rest))
 |[],_=>rfl
 |jN,rest=>by
  show IW (_::B2A _)=_;rw[DTM b2l]
section
variable {P:qG}{w:World}{K:qF}{mg:BF}{base:Heap}
inductive spOften(vs:A0)(H:Hp)(Q:VK)(y_3:XK):Prop
 |mk (x y:V) (r rest:qI) (n:Nat) (_:BDD) (_:W1 x r) (_:W1 y rest) (_:TB) (_:nM) (_:A10) (_:APK gG):HY spOften
def b8O:DA C5G C5G a8W:={}
def b9Y(F:HA "often" a8W C5G)(T:AV):EZH:=by
 rw[BO b8O B t G]
 rw[AHW x y r rest n]
 .obtain⟨_,_,r,rest,n,rfl,⟨a,rfl,ha⟩,⟨b,rfl,hb⟩,hn,hp,hr',k⟩:=h;rw[VJ D]
  rw[lF c r.length rest.length mT hr'.1]
  rw[GL (W2 c6v T.b_min (AZJ "here" "there"
 (mR D6W D6W) (AC6 BCF) (TN (C7O c3h))))]
  refine B1S;refine BC O6 k1 true k2 true (xs:=PV r.map) (zs:=PV rest.map) (BZI List.length_map mT b3w hn D) (OM zs (BL/\zs=FE F2I V.int/\zs.length<=i)) (D4 qU BV) (EM6 ha hb nF) ?_ ?_
  .rintro i x z zs H' p hx hz' ⟨s',rfl,hzl⟩ hp';rw[bC x' d K9 hx];rw[bC g q K9 hz'];have C:DFJ:=LX d;rw[AC m (MA ANY x' d) s2 (s'.upd (o:=GN (AZ7 g)) hp')];have u:Ofl (r.take AM) (rest.take AM)=F2I++(AN7 (0<x') [g / x']):=by
    rw[List.take_add_one,List.take_add_one,d,q];exact TV b2k (dE List.length_take List.length_take c)
   refine tL p (AZ7 g) A2 BT4 (WN g) (BP g) [];rw[AAI]
   .match j,e with
    |0,e=>rw[CI]
    |1,e=>rw[CI]
    |oO,e=>exact e
   refine ADX
   .have e':0<x':=oF;refine⟨_,rfl,_,rfl,_,_,rfl,rfl,⟨e',m.2⟩,s2,?_,?_⟩
    .rw[u,C35,List.map_append];rfl
    .rw[A8E];simpa using hzl
   .rw[SH e' (0<x') A30];rw[AU s2 (DP2 u C2G) (ABV hzl)]
  .rintro zs H' ⟨s',rfl,hzl⟩ p hp';rw[List.length_map,List.length_map,c,Nat.min_self,List.take_length,<-c,List.take_length];rw[JK l (b4A hp hr'.1) ⟨p,_,rfl,YQ,List.length_pos_iff.mpr l,EI M h1 h2⟩];rw[AB (A1O c0r) (LZ (BZ9 hp'))]
noncomputable def c6k(H:Hp)(a:qE)(z:V)(us:A0)(rss:LLI)(xs:qI)(n:Nat):Prop:=jL/\MR/\AQK/\aN/\aQ/\TB/\DON/\AGB xs
inductive spLaid(vs:A0)(H:Hp)(Q:VK)(y_3:XK):Prop
 |mk (a:qE) (z:V) (us:A0) (rss:LLI) (xs:qI) (n:Nat) (_:A00 z) (_:c6k H a z us rss xs n) (_:CHN (BL3 xs)) (_:DYS (RG (DX7).map)):HY spLaid
def c4a{rs:qI}(h:DOJ):aB ((rs.map V.int).any trV) (0<rs.sum):=by
 rw[E8J decide_eq_true_eq]
 .rw[tY v hv];rw[FT z c hv];have b:=DK z c;have:z≠0:=λq=>by subst q;rw[CI]
  exact d1I rs EZ3 z c (~~~a9A LG this)
 .intro hs;rw[ZP i hi (a5Z EZ3 hs)];rw[OU (BP DIC) (EAS (a4i hi))];show LQ (DIC != 0);exact bne_iff_ne.mpr (sL a3W)
def sc_laid:AYP ["told","one","rest","counts","part","many"] "told" b2S:={}
noncomputable abbrev d2d(a:qE)(z:V)(pc:qE)(H:Hp)(n:Nat)(rss:LLI)(xs:qI)(i:Nat)(σ:L2.St)(H':Hp):Prop:=∃(v:V) (o4 o5:aJ) (rs cs:qI),σ=[RQ,AO z,UO,DX pc,o4,o5]/\BL/\AGN rs/\DOJ/\SA pc CWU/\cs.length=i/\cs++(EYH).1=DX7/\(EYH).2=C20 xs
def c5K(F:A2I "laid" b2S "told")(T:AV)(d:EZH)(c:EOR)(g:CN0):F0H:=by
 rw[BO sc_laid U O G]
 rw[pC a z us rss xs n]
 .obtain⟨a,z,us,rss,xs,n,rfl,⟨ha,hI,hx,hl,hn1,hn,hP,hR⟩,h0,k⟩:=h;rw[VJ X]
  rw[BU (gR 2 sc_laid.nd jv 1
 (ADE 3 sc_laid.nd
 (A3 (mX A8T 4 sc_laid.nd
 (CA 5 sc_laid.nd (F0 d G.mono (DV 4 JJ))
 (CA 2 sc_laid.nd (BUB (DV 2 (BN (E0C G.mono))))
 (oU 3 AO1))))
 (A3 (CIS (pH c9Q T.b_any JJ)
 aP
 B6)
 CD0))))]
  rw[A2F];rw[FF];rw[aR m p];rw[AC C p s1 (A7E (o:=OO) p)];rw[fL e1 H m OO m []];have t:=hx.same s1;rw[AN9 (C77 m) s1 e1 t];rw[CF (uS a (HR ha))];refine VF a9R a us (d2d a z m H n rss xs)
   ⟨z,none,none,xs,[],rfl,s1,t,hR,e1,rfl,rfl,rfl⟩ (NM σ (by rw[ED4];exact SqT.of C7Z)) ?_ ?_
  .rintro i x σ H' hxi ⟨v,o4,o5,rs,cs,rfl,s',hv,hRs,hc,hcl,hL1,hL2⟩;have D:i<us.length:=LX hxi;rw[A3T I J y hxi];have j:=hP r I;rw[a4o J]at hL1 hL2;have V:=a9k j hRs;rw[CF ⟨_,rfl,_,rfl,x,v,r,rs,n,rfl,y.same s',hv,hn,j,hRs,BH H4 R⟩];rw[CF ⟨_,rfl,_,rfl,_,rfl,C6G,x,r,rfl,(y.same s').same R,SD j.1,V.1,AD,BS Z H5 S L⟩];rw[XU ⟨v,Z,rs,_,rfl,EPC hv.same,L,SD hRs.1,BS v6 H6 Y M⟩];rw[AC B (GK R.trans S Y) l (AG B hc)];rw[FQ (BI9 C62 m l (IL (lq 0xc9b79e9da38410b6af279ac9654ee67ddc80e8 hl X hcl D))) ⟨v6,_,_,a3h rs r C6G,cs++[C6G],rfl,dM (A16 (A8Z C) (A0Q ((s'.trans B)))),IT.put M l,a0g j hRs,CD4,IF hcl,?_,hL2⟩];rw[AB List.append_assoc hL1]
  .rintro σ H' ⟨v,o4,o5,rs,cs,rfl,s',hv,hRs,hc,hcl,hL1,hL2⟩;rw[GW,List.drop_length]at hL1 hL2;change cs++[]=_ at hL1;rw[List.append_nil]at hL1;change rs=_ at hL2;rw[HG va N hv];refine⟨_,rfl,true,va,_,rfl,B7G,b4j _,?_⟩;rw[c4a hRs,hL2];rw[nO (BJ 0x111fed06739f7c416 h0)];rw[FQ (DHS A2M) (eV m _ (A02 hc q W))];rw[AB hL1 (k q _ (BZ9 W) A2)]
#where
def c6h(h:CDZ){s:qI}:dot s (CSA m)=dot s rest-m*dot s r:=by
 unfold a3h;induction s generalizing rest r with
 |nil=>simp[dot]
 |cons a s b =>
  cases rest with
  |nil =>
   cases r with
   |nil=>simp[dot]
   |cons _ _=>cases h
  |cons x rest =>
   cases r with
   |nil=>cases h
   |cons y r =>
    rw[List.map_cons,List.zipWith_cons_cons,S6,S6,S6,EMW,Int.mul_sub,Int.mul_add];have:a*(m*y)=m*(a*y):=by rw[<-Int.mul_assoc,Int.mul_comm a m,Int.mul_assoc]
    rw[QL 0x37d34888af0947ae173bed2356b98c6]
def b3X(hp:nM)(c:A10):E4C A3V:=by
 rw[CO7 FN]
 rw[EQ (AE ANT a.symm) j d];rw[a9G a];have b:DG3:=c0k (λx b=>nD ANY b) j;rw[E5F (a9k hp c).1 b 0xe70198216a252]
def c2Q(hp:nM)(b:A10):¬Under r A3V:=by
 intro d;rw[CO7 LG]
 obtain⟨h1,_⟩:=EWQ LG;obtain⟨i,e,j,f,g⟩:=a5t h1;have h2:=iV i (u0 ANT);rw[a9G a,show oft r rest=rest.getD i 0 / AOO from g]at h2;rw[CA2 h C39 f c (Int.mul_ediv_add_emod C39 AOO)];rw[Int.mul_comm]at c;omega
def b1z{n:Nat}:EUQ (E4C CH0/\A9M a (¬Under t CH0))
 |[],rest,_,_=>⟨Under.refl _,ND⟩
 |r::a,rest,d,c=>by
  have b:=CBD;rw[IM (b1z a A3V EQK (a0g b c))];rw[EQ (h1.trans (b3X b c)) t g];rw[u8 (List.mem_cons.mp g)]
  .exact λe=>c2Q b c (Under.trans e h1)
  .exact h2 t z
def b5A{n:Nat}{rss:LLI}:∀(a:LLI) (rest:qI),DF r a (nM/\AGH r)->A10->AGH rest->AGH CH0
 |[],rest,_,_,h=>h
 |r::a,rest,d,e,h=>by
  obtain⟨b,c⟩:=CBD;refine b5A a _ EQK E57 ?_;rw[c7d]at h c⊢;intro s hs;rw[c6h (by rw[e.1,LG]),h s hs,c s hs];rw[PD 0x1ba0299c54d9236]
def c2S{rss b:LLI}{cs:AK}{v:qI}(h:uG b (C71 v))(hp:qV b (a4s cs.length r))(c:a2l cs.length v)(l:ANG)(hw:AB5):CHN E56:=by
 rw[IM (b1z b v hp c)];rw[AC d (a8y b v hp c) i (b5A b v (λr z=>⟨hp r z,(NE h r z).an.ans⟩) c l)];have j:=b2C _ λx g=>nD iV g;rw[A2L f];rw[ABC e k (a0S (rss:=rss) (cs:=cs) (E56).2.sum.toNat AD ⟨XT,λx g=>nD iV g,i,~~~a9A j f⟩ (a5e FN hw h1))];exact h2 a (fR h a e) k
def b6g{n:Nat}:EUQ (A0D (R9 a rest).1 (AQQ c c))
 |[],_,_,_=>ND
 |r::a,rest,d,e=>λc f=>by
  have b:=CBD;rw[DR2]
  .have:=a9k b e;rw[AQ AN6 C1K]
  .exact b6g a _ (BVZ g BTK) E57 c z
section
variable {P:qG}{w:World}{K:qF}{mg:BF}{base:Heap}
#where
#where
universe K53
namespace L2
open PySem PySem.Spec PyProof.Rows
noncomputable def c8j(C:qE)(m:Str)(sp:Sp)(ta:TE)(t:TA):TX:=FK5 (D.rt v H3)
def c6n{X:Cx}{C:qE}{m:Str}{k:Nat}{ps:AA}{sp:Sp}{o e:Expr}{es:BT}{ta:TE}{t:TA}{qN qM pos:Pos}{pl:w6}(O:E3Q)(c:oZ)(hr:jJ)(he:AOS)(Y:FC)(i:EVF:=by exact fY z z)
  (w:DE:=by rfl) (n:TH:=by rfl)
  (ht:RA APV=(do
   let ov <-eval o X.env
   standAt qN.atName
   let (f,first) <-holding [ov] (getMethod ov m pl)
   callWith qM f first (backTo qM (starEach (e::es) X.env)) (backToKw qM (keywordEach [] X.env))):=by rfl) :
  JX X [D9P APV] (c8j C m sp ta t):=by
 rw[FJ2 E Z];rw[fE wpAny_execs_cons wpAny_Return_some];rw[BIB (BI0 (WA he.h) (EI u s1 y) i) ht A rx M y];rw[BH7 rx A M E];rw[CPL E.kp (BI0 (AEJ Y.h qM A q) (EI us s2 y) i) w n];rw[FB5 G y];have J:EXN:=CHU;have hl:DID=ps.length:=by rw[CD1 J.length G]
 rw[FL0 Z J G];cases r with
 |error e =>
  obtain⟨p,C,H',B,a0,h1,h2,N,P,Q,S,T,U,C',W,j⟩:=g;cases W;exact FLR N P Q S T U j
 |ok fl =>
  cases fl with
  |ret u =>
   rw[FBW K L];rw[IO v σ K L rv q3]
  |next=>rw[PF g]
  |brk=>rw[PF g]
  |cont=>rw[PF g]
section
variable {M:Model}{A:Around}{E:qH}
def a6R{nm q s K:Str}{C N D x:qE}{bs bm n b:AN}{hdct i:Bool}{sn u:AA}{sub l:AN}{ab m:Bool}{col j:sU}{dd o:IN}{k0 k1 k2 k3 k5 F G H I J:TR}{qR a:String}
  {h:Heap}{g:A0M}{d:Drawn}{t:Nat}{os:OsState}{e:qE}{w:Obj}{Q:jG}
  (y:EJX) (v:nB D (AHE s K D x n b i u l m j o F G H I J a)) (z:nB e w) (k:VX w.cls C)
  (c:A07 b.contains) (r:F5C) (B:Q false BXF):EUS (AI D):=by
 have p:A07 (AMO (Value.ref D) b):=by rw[EBV c]
 rw[EL4]
 repeat (first | rw[DWR z k]|with_reducible refine wpAny_loadPart_at v ?_ | (with_reducible refine wpAny_isSubtype_exc v ?_;rw[p]) | (with_reducible refine wpAny_isSubtype_exc y ?_;rw[r])|wp_step)
 exact B
#where
structure ClsN(K:qF)(D C:qE):Prop where
 d:CGP D
 ex:FMI F5C
noncomputable def d0P(D C:qE)(tx:TX)(ts tu:TS):TS:=EJD (λσ1 c H'=>(c=D/\CO5 ts c)∨(c=C/\CO5 tu c))
def c6q{X:Cx}{K:qF}{body:ML}{tx:TX}{ts tu:TS}{G J:Str}{np y nq A pos:Pos}{b0 b1:Stmt}{g i:ML}{D C:qE}(hN:ClsN K D C)(hx:EP6)
  (hg:OB Gl) (hm:AAK G D) (V:KD J) (W:AAK J C)
  (Z:E92 (b0::g)) (a1:∀p,JB A62 EBM tu) (hK:AT:=by rfl) (t:CDY:=by rfl) (U:BEV:=by rfl) (hd:AFA G:=by decide) (S:AFA J:=by decide) :
  JS X (COD [CA0 (AO (.Name G np)) (b0::g) y,CA0 (AO (.Name J nq)) EBM A]) (d0P D C tx ts tu):=by
 rw[B68 hK (AMW N ?_)];rw[FGM hx.h N]
 .cases f with
  |next=>rw[CE8]
  |brk=>exact q
  |cont=>exact q
  |ret v=>exact q
 .obtain⟨σ1,H1,s1,p,c,H',B,a0,rfl,I1,hos,hbare,hU,hok,hp,fl,cov,k⟩:=q;rw[AC P (ZD fl) w fl];rw[t]at w;refine EB (F7M t U w) h4 o a2;refine JQ wpAny_landsW o h5 d j;rw[<-t]at d;have j:=a2.trans j;have l:EK3 h5:=DYY P cov XT j;obtain⟨oe,r,n⟩:=d.there;obtain⟨b3,q',a6,a9,a8,T,b4,a5,a7,a3,b2,j0,j1,j2,j3,j5,M,F,x,_⟩:=hN.d.ex;obtain⟨nm,qq,NN,bs,bm,a4,sn,sub,ab,col,dd,k0,k1,k2,k3,k5,qR,E,R,Y⟩:=hN.ex;rcases k with⟨rfl,k⟩|⟨rfl,k⟩
  .rw[FKJ hg hm hd DZM x Z];cases f with
   |next=>rw[AEE]
   |brk=>rw[AEE]
   |cont=>rw[AEE]
   |ret v=>rw[CQ4 b b.unheld]
  .rw[D9J hg hm hd];refine a6R DZN DZM r n x Y ?_;rw[FKJ V W S DZN R a1];cases f with
   |next=>rw[AEE]
   |brk=>rw[AEE]
   |cont=>rw[AEE]
   |ret v=>rw[CQ4 b b.unheld]
universe L2
namespace K53
open PySem PySem.Spec PyProof.Rows L2
section
variable {a:LLI}{n:Nat}
section
variable {P:qG}{w:World}{K:qF}{mg:BF}{base:Heap}
def a5g{x:Int}{H:Hp}{Q:VK}(a:C9X)(q:Q E60 H):rStrI (WN x) H Q:=by
 rw[AB4 n n (x=n) x.toNat];rw[BW n rfl (D7Q n) q]
def d1H{i:Nat}{σ:L2.St}{H:Hp}{Q:VK}{a:qE}{xs:qI}(hσ:DUO)(e:DLE)(d:B94)(f:AQG)(k:EN5):vV (tBM K "str" C51 (tC (YV " "))) (a5z (a7J [none] (c6N K (tVar i)) AV8 T8 (tCB rStrI (CLX 0))) a2h):=by
 rw[VJ h]
 rw[FZ c (EH xs.map V.int<=8) List.length_map f]
 refine⟨rfl,_,hσ,a,rfl,EM (SqT.of e),?_⟩;rw[ER (wM V2 fT xs (λx=>B30 x) (AR 0xb8e24a012d7972923ce h c) uR (ZU e) rfl (A3P H1 m g b s1)) H1 p s1 j]
 .rw[A1G b g g];exact DJ (a5g (MA d x b) aG)
 .have hB:GR B3G AM7:=λy l=>ELW l (d x b)
  rw[JK h2 (a5w d f) ⟨bk,p,B3G,60,rfl,rfl,BGZ,hB,?_,by show E08<=_;rw[FX 0x236351960173c0f2e923ce h h2],LZ (s1.upd j)⟩];rw[DMX A1R]
inductive spShowV(vs:A0)(H:Hp)(Q:VK)(y_3:XK):Prop
 |mk (v:V) (xs:qI) (_:A7F v) (_:AVY v) (_:B94) (_:AQG) (_:EN5):HY spShowV
def a5F:ELE Z2:={}
def a6d(F:XI "show_vector" Z2 "one")(T:AV):BG8:=by
 rw[BG6 a5F]
 rw[TJ v xs]
 .obtain⟨_,xs,rfl,⟨a,rfl,ha⟩,hx,hl,k⟩:=h;rw[GL (wN (BN (RU (C9A A8T
 C82) (AAH a2b T.b_str))))]
  exact d1H rfl ha hx hl k
def atc{x:V}{xs:A0}:atI EX 0=some x:=ASB
inductive spFill(vs:A0)(H:Hp)(Q:VK)(y_3:XK):Prop
 |mk (x y:Str) (_:QA VH C36) (_:A8W (EC0 (kN ""))):HY spFill
def b6B:wB "text" "empty" "text" "empty" a5M:={}
def b6V(F:ZM "filled" a5M "text" "empty")(T:AV):BHR:=by
 rw[BO b6B b a c]
 rw[TJ x y]
 .rw[XG x y rfl k];rw[EY4 D5V jv 0]
  .rw[EA (D3Y V.str.inj)]at k;exact DJ k
  .rw[B8U CK2]at k;exact DJ k
noncomputable abbrev semi:Str:=OG "; "
def a6C:CL3 (BQT 488) semi 490
 |[],_=>GH
 |US,h=>by
  rw[CNO 490]
 |oM,h=>by
  rw[FIV a6C EXS 0x24632b6fb253e28127f504f90df83576d51268e7]
noncomputable def vts(qO:LLI):Str:=if qO=[] then wd "-" else EJG qO.map
def Fw.sz(h:BE9)(c:vU):FP a (Sz v/\v.length<=8):=λv d=>by
 rw[IM (DK v d)];rw[AQ (λx b=>ERU h2 b h2 b) (A2A 0x465794ac2afdbb58766 h1)]
def Fw.len(h:BE9)(b:vU):GR (a.map vt) (A5O 488):=λy d=>by
 rw[FT v c d];rw[IM (h.sz b v c)];exact a5w h1 h2
def b4O(h:BE9)(b:vU):EH vts a<=441000:=by
 rw[dU vts]
 .decide
 .rw[ACJ (a6C (h.len b))];rw[KR CB]
def b1S(n:Nat):1<=BDA:=by
 rw[T6 (List.length_pos_iff.mpr (a3u n)) Array.length_toList]
def c8f{xs:qI}(h:DIH):1<=E08:=by
 match xs,h with
 |US,_=>exact b1S _
 |oM,_ =>
  show 1<=iS (sB::D7 y::r.map D7);rw[N1,B7,B7];have:=b1S x.toNat;show 1<=BO7 x.toNat+_+_;rw[QL 0x11029f82af063cb4b1166f]
def c3a{x:Str}{r:AA}(h:C3C):bH semi vJ≠wd "":=λz=>by
 rw[EK5];cases r with
 |nil =>
  rw[EQP]
 |cons y r =>
  rw[F9Y (_+_+_)];rw[QE 0x23c284c4ac74bfe4b493e6f h]
inductive spSVs(vs:A0)(H:Hp)(Q:VK)(y_3:XK):Prop
 |mk (t:qE) (us:A0) (qO:LLI) (n:Nat) (_:vs=VT t) (_:BAZ) (_:CA9) (_:Fw n qO) (_:aQ) (_:vU) (_:ALU vts qO):HY spSVs
def a4K:cI ["some"] "some" V4:={}
def a4Q(F:XI "show_vectors" V4 "some")(T:AV)(b:BHR)(a:BG8):F0V:=by
 rw[BO a4K j d g]
 rw[gZ t us qO n]
 .obtain⟨t,us,qO,n,rfl,ht,hI,hF,n1,n7,k⟩:=h;rw[eT B 500000]
  rw[FZ u DTE GW hF.1]
  rw[GL (tU g.mono (B72 (wN (BN (RU (A08 "one" A8T
 (mL "one")) (mY g.mono WH))))))]
  refine⟨rfl,_,rfl,t,rfl,OI ht,?_⟩;rw[ER (UZ a8C [] (λr=>D7H) AD DO6 hI rfl (λv r H1 y c x s1 q=>?_)) H1 p s1 m]
  .obtain⟨z1,z2⟩:=hF.sz n7 r c;exact⟨_,rfl,v,r,rfl,x,z1,z2,F07⟩
  .rw[AC hB (hF.len n7) l (a6C hB)];rw[C4K z hF.1 l];refine⟨semi,p,qO.map vt,488,rfl,rfl,BGZ,hB,DWL EXS,AD,_,_,rfl,?_⟩;have:=LZ (s1.upd (o:=DW (qO.map λr=>D7H)) m);rw[gN vts];cases qO with
   |nil=>rw[QB]
   |cons v r =>
    rw[F83 (EJG (FE (v::r))) (c3a (c8f (AE (nE hF.2 List.mem_cons_self) n1)))]
noncomputable def Ls4:AA:=[OG "least",OG "beyond",OG "cheapest",OG "rows"]
noncomputable def d1C(w:Str)(zs:qI)(n:Nat):Prop:=(w=wd "way"/\DIM)∨(w=wd "lay" /\ ∃m xs,zs=m::xs/\C3L/\A8X)∨(w∈Ls4/\∃m,zs=[m]/\A8X)
inductive spIsL(vs:A0)(H:Hp)(Q:VK)(y_3:XK):Prop
 |mk (x:Str) (l:qE) (zs:qI) (n:Nat) (_:AAS VH IX EV) (_:B2O DI2) (_:d1C x zs n) (_:DT5):HY spIsL
def b2M:DA B59 B59 a3L:={}
def c9w{x:Str}(h:B8X):F7I x x (AM8 .str B8O):=by
 have:GR Ls4 (F7I y y (ESA B8O)):=FV
 exact this x h
def b3e{o:Tok}{d:qE}(F:HA "is_line" a3L B59)(T:AV)(b:sD "LISTS" d)(c:∀H,AI9 d B8O)(a:BOQ "GREATEST_MOST" 2000 o):F35:=by
 rw[BO b2M g e p]
 rw[gZ x l zs n]
 .obtain⟨x,l,zs,n,rfl,hl,hL,k⟩:=h;refine⟨_,  (A3 (DMT
 (FH (a1A dC (jv 2)))
 B6)
 (A3 (DMT
 (FH (ADW (a1A dC DY7) ERY))
 B6)
 (FH (a4F (c9J K DY (a0a (v:=ALC) rfl b rfl) CV) (ADW (B9X dC) ERY))))),?_⟩
  rcases hL with⟨rfl,h1⟩|⟨rfl,m,xs,rfl,h1,h2⟩|⟨j,m,rfl,i⟩
  .refine IE (D6 ⟨_,rfl,l,_,rfl,APR,_,rfl,rfl,?_⟩);rw[AB (decide_eq_true (by rw[uI h1])) D3V]
  .refine IE (XQ (D6 ⟨_,rfl,l,_,rfl,APR,_,rfl,_,_,rfl,rfl,rfl,_,rfl,?_⟩));rw[GG (decide_eq_true (by rw[List.length_map,List.length_cons,h1];rfl)) D6 FJM];rw[F0Z (decide_eq_true h2)]
  .rw[DI h1 h2 h3 c9w j];rw[ACZ];rw[BUN h1];rw[GG h2 C1 (ETP d (pI c _) FV)];rw[MF,h3];rw[VE (D6 (AT4 l APR _ rfl (D6 FJM)))];rw[F0Z (decide_eq_true i)]
noncomputable def wtx(q:B09):Str:=ENZ C1M
noncomputable def wds(l:A3L):AA:=FE (WF l.filter q y3) wtx
noncomputable def d0H(l:A3L):Str:=if wds l=[] then wd "0" else EZ2
def b8s{l:A3L}{i:Nat}{q:B09}(h:CC l q):wds (l.take AM)=wds (l.take i)++AN7 y3 [wtx q]:=by
 rw[F9Z wds h];rw[nZ y3]
 .rw[IP];simp[e]
 .rw[L1 GA];omega
def b4N(l:A3L):EHC l.length:=by
 unfold wds;rw[AB List.length_map cF]
def c4j{q:B09}(h:AQQ CZ CZ)(h2:DUD)(a:DPM):EH wtx q<=551:=by
 unfold wtx;have h1:AIK CZ:=DMC DK;have:=X0 (x:=CZ) (A5U h1);have:=a5w h2 a;rw[B7,B7,show AK0 " * "=3 by decide];omega
noncomputable def d1A(l:A3L):Prop:=l.length<=400/\∀q∈l,(AQQ CZ CZ)/\DUD/\DPM
def b1I:CL3 (BQT 551) wplus 554
 |[],_=>GH
 |US,h=>by
  rw[CNO 554]
 |oM,h=>by
  rw[FIV b1I CI6 0x246c7ea48d1bec3f845cdc5902e49d7207c15867]
def d0L{l:A3L}(h:d1A l):DF y ACE DNM/\EHC 400/\DNB ACE<=400*554:=by
 have h1:GR ACE DNM:=λy c=>by
  rw[FT q b c];have:=DK q CAT;exact c4j AN6 C1K BT0
 rw[AC h2 (b4N l) a CB];have:=b1I h1;rw[AU h1 (AO6 0xb1b4832b3b59f7028d6 a) AD]
inductive spSize(vs:A0)(H:Hp)(Q:VK)(y_3:XK):Prop
 |mk (x:V) (xs:qI) (_:vs=US) (_:AQJ) (_:APK xs.sum):HY spSize
def c4H:ELE b2Q:={}
def c5F(F:XI "size" b2Q "one")(T:AV):ENB:=by
 rw[BG6 c4H]
 rw[TJ x xs]
 .obtain⟨_,xs,rfl,⟨a,rfl,ha⟩,k⟩:=h;rw[GL (pH b4a T.b_sum WH)];exact⟨_,rfl,true,a,xs,rfl,GE ha,k H (Same.refl H)⟩
inductive spTms(vs:A0)(H:Hp)(Q:VK)(y_3:XK):Prop
 |mk (m:Int) (v:V) (xs:qI) (_:QA AA2 v) (_:(0<=m/\m<BQ0)) (_:AVY v) (_:B94) (_:AQG) (_:ALU wtx CEB):HY spTms
def sc_show_times:AYP ["many","one","vector"] "many" a0u:={}
def a7s(F:A2I "show_times" a0u "many")(T:AV)(a:BG8):F0I:=by
 rw[BO sc_show_times l j n]
 rw[AEF m v xs]
 .obtain⟨m,v,xs,rfl,hm,hv,hx,hl,k⟩:=h;rw[iO b]
  rw[BU (CA 2 sc_show_times.nd (mY n.mono IV)
 (SE c3g (GC O4 0 (AKT (gO O4 a3l)))))]
  rw[XU ⟨_,rfl,v,xs,rfl,hv,hx,hl,AMP⟩];have d:m<rN 60:=DMC hm.2;have c:EK8:=X0 (x:=m) ⟨hm.1,d⟩;have e:=a5w hx hl;rw[E8Z g]
  rw[KP DLL (show wtx CEB=F7B C1M by rw[L3];rfl)];rw[VE (FKU (c1t b c) C1M (lq 0x5f443b6ac08072e9d87ad23b4043f11f17d6f b c g) (C8M c1y) FBT FBT)]
#where
#where
section
structure DkAt(C:qE)(H:Hp)(p:qE)(ns:AA)(rss:LLI)(ss:qI)(cs:AK)(ps:qI):Prop where
 ex:∃dx n r s c q us,B0O (dfl n r s c q)/\DS0/\C8B/\MR/\BCY/\D5B s/\AQZ/\AJZ q ps.map
def DkAt.same{C:qE}{H H':Hp}{p:qE}{ns:AA}{rss:LLI}{ss:qI}{cs:AK}{ps:qI}(h:kB)(s:BL):EJO:=by
 rw[COQ a b d e f g];exact⟨dx,n,r,t,c,q,us,DHO,C2V,GQ a,b.same s,d,GQ e,C2T,GQ g⟩
def d1g(cs:AK):cs.map ovI=cs.map cV:=List.map_congr_left λc _=>BZF c
structure Sg5(ns:AA)(rss:LLI)(ss:qI)(cs:AK)(ps:qI):Prop where
 k:CSG SysOk
 r3:EJW
inductive Out where
 |ok (t:Str)|na|tm
noncomputable def Fin(CN CT:qE)(H:Hp)(Q:VK)(E:XK):SJ Out
 |.ok t=>A31 t
 |.na=>C3Y CN
 |.tm=>C3Y CT
def Fin.same{CN a:qE}{H H1:Hp}{Q:VK}{E:XK}{o:Out}(h:BPE a)(s:KS):Fin CN a H1 Q E o:=by
 cases o<;>exact A2N (h H' (s.trans s'))
noncomputable def c8Z:Out->Str
 |.ok t=>t
 |.na=>wd "no answer"
 |.tm=>wd "too many"
noncomputable def LsO(rss:LLI)(cs:AK)(m:Nat)(f:EE1)(o:Out):Prop:=(BQN m/\BAW)∨∃qO t,CML qO/\f qO t/\o=.ok t
def LsO.one{rss:LLI}{cs:AK}{m:Nat}{f:EE1}{o o':Out}(d:∀a t t',f a t->f a t'->t=t')(h:CI8 f o)(g:CI8 f o'):ADB:=by
 rw[FKR a t h1 h2 t' g1 c]
 .rfl
 rw[HL h g1.not]
 rw[HL g h1.not]
 .have:=h1.one g1;rw[iF];rw[A4J d h2 c]
noncomputable def rwT(L:vB):Str:=LI (L.map λt=>D7 AZV)
noncomputable def RwO(n m:Nat)(rss:LLI)(o:Out):Prop:=(BX5 m/\BAW)∨∃L,Chn n m rss L/\o=ES1
def RwO.one{n m:Nat}{rss:LLI}{o o':Out}(h:EYG o)(g:EYG o'):ADB:=by
 rcases h with⟨h,rfl⟩|⟨L,h,rfl⟩<;>rcases g with⟨g,rfl⟩|⟨a,g,rfl⟩
 .rfl
 rw[HL h g.not]
 rw[HL g h.not]
 .rw[DHX]
noncomputable def chT:C15->Str
 |none=>wd "-"
 |B76=>ENZ C1N
noncomputable def fLe(qO:LLI)(t:Str):Prop:=t=vts qO
noncomputable def fBe(qO:LLI)(t:Str):Prop:=t=EWR 1++wd " | " ++ EWR 0
inductive fCh(ps:qI)(qO:LLI)(t:Str):Prop
 |mk (b:_) (_:BsP (R0 ps (a4Z 1 qO)) b) (_:t=chT b):fCh ps qO t
noncomputable def Ask(ns:AA)(rss:LLI)(ss:qI)(cs:AK)(ps:qI)(x:Str)(m:Nat)(o:Out):Prop :=
 (DKI/\CI8 fLe o)∨(ALY/\F5R)∨(DKJ/\FHE fBe)∨(DKK/\FHE (fCh ps))
noncomputable def AskP(ns:AA)(rss:LLI)(ss:qI)(cs:AK)(x:Str)(m:Nat):Prop :=
 (kN "least"/\A8X/\CI4)∨(EN2)∨(FG6 "beyond")∨(FG6 "cheapest")
def fCh.one{ps:qI}{a:LLI}{t t':Str}(h:fCh ps a t)(g:fCh ps a t'):t=t':=by
 rw[dJ b h1 h];rw[dJ b' g1 g];rw[h1.one g1]
def BsP.cost{ps:qI}{a:LLI}{n:Int}{t:qI}{k:Nat}(h:EI8 (R0 ps a))(f:Fw k a)(g:k<=7)(hp:GP ps yV):(0<=n/\AIK n)/\t∈a:=by
 rw[B0E r d CB];rw[ARL]
 subst e2;rw[IM (f.2 _ d)];have:=BC a6V R 1000000000000 B 901 AH AH ps r (λz b=>by have:=hp z b;rw[gN topN];omega) h2;have c:=b4n ps r (λz b=>(hp z b).1) λz b=>(h2 z b).1;have e1:D6C=n:=e1;rw[e1]at this c;rw[EC ⟨c,Int.lt_of_le_of_lt BZQ ?_⟩ d];rw[LV Int.lt_of_le_of_lt (DDN (show BG r.length<=7 by rw[FX 0x7b194dba67630dc98766 g h1]) AH)];rw[RC]
section
variable {P:qG}{w:World}{K:qF}{mg:BF}{base:Heap}{C:qE}
inductive spSRw(C CN CT:qE)(vs:A0)(H:Hp)(Q:VK)(E:XK):Prop
 |mk (p:qE) (ns:AA) (rss:LLI) (ss:qI) (cs:AK) (ps:qI) (m:Nat) (_:t9 DEQ) (_:kB) (_:A3W) (_:m<=40) (_:BEC F5R):BHP spSRw
def a3H:CCW "most" "most" S8:={}
def b1c{CN u:qE}(I:ACU "say_rows" "Desk.say_rows" S8 "most")(U:XZ)(T:AV)(b:F9H u):FBH u:=by
 rw[HP I.fnE a3H J o S]
 rw[AEG p ns rss ss cs ps m]
 .obtain⟨p,ns,rss,ss,cs,ps,m,rfl,hD,hG,hm,k⟩:=h;rw[FKX M z D];rw[iO l]
  rw[GL (wN (BN (RU (A08 "stage" (F5 K (Y8 b (JP S.mono) rfl (AAG A47 IV)))
 (mL "stage")) (EK6 APF))))]
  refine⟨rfl,_,rfl,p,C,dx,_,_,rfl,e1,U.cl,U.n2,rfl,_,rfl,p,C,dx,_,_,rfl,e1,U.cl,U.n1,rfl,n,_,rfl,DLC,_,rfl,r,us,rss,ns.length,m,_,_,rfl,B9Q,rfl,M,z,D,hG.k.n1,hG.k.n7,hm,hG.r3,λq' zs L H1 s1 G g F d=>?_,λH1 s1 R=>BGH (uB R)⟩;have k:ALU rwT L:=k ES1 (.inr (QX L F));have e:L.length<=7:=by rw[F.len,<-cS];rw[DG 0x62a2df7d45a5 D]
  refine BBV q' G;rw[ER (wM V2 zs L (λt=>B30 AZV) (AJT UU 0x23634fcffd91ba9df17d6e l e) UU (ZU G) rfl (λi v x H2 Q2 X Y s2 k2=>?_)) H2 p2 s2 j]
  .obtain⟨a,ys,qO,rfl,ha,hI,hL⟩:=g.2 i v X;obtain rfl:x=qO:=DDP Y.symm.trans hL;refine ZV a _ (QM (UW ha)) ?_;rw[GW];have h1:=MA d x hL;exact a5g ⟨Int.natCast_nonneg _,iI (show dD DEB by exact c0C h1)⟩ (k2 _ rB)
  .have hB:GR (L.map (λt=>D4O)) AM7:=λy Z=>by
    rw[FT t W Z];have:=d t W;rw[WL X0 (Int.natCast_nonneg _) (iI (show dD AZV by rw[rY c0C]))]
   have O:iS EV4<=_:=AYF 32 60 hB;rw[List.length_map]at O;refine⟨bk,p2,EV4,60,rfl,rfl,BGZ,hB,DWL A1R,AD,LZ (A5F s1.trans s2 j)⟩
inductive spSCh(C:qE)(vs:A0)(H:Hp)(Q:VK)(y_3:XK):Prop
 |mk (p t:qE) (us:A0) (qO:LLI) (ns:AA) (rss:LLI) (ss:qI) (cs:AK) (ps:qI) (_:t9 KH) (_:kB) (_:A3W) (_:BAZ) (_:CA9) (_:Fw ns.length qO) (_:∀b H',BsP (R0 ps qO) b->BL->VY (A57 chT b)):oY spSCh
def sc_Desk_say_cheapest:DA ["self","some","found","price","vector"] (WC "some") L7:={}
def Fw.in12{n:Nat}{a:LLI}(h:BE9):qV a (d1E r):=λr b x c=>by
 rw[KR (CCT DK x c)]
def a4S(I:ACU "say_cheapest" "Desk.say_cheapest" L7 "some")(U:XZ)(T:AV)(b:FA3)(a:BG8):FAZ:=by
 rw[HP I.fnJ sc_Desk_say_cheapest J z B]
 rw[BI1 t us qO]
 .obtain⟨p,t,us,qO,ns,rss,ss,cs,ps,rfl,hD,hG,ht,hI,hF,k⟩:=h;obtain⟨dx,n,r,s',c,q,O,e1,e2,R,S,V,W,X,L⟩:=hD.ex;rw[iO d]
  rw[AC y hG.k.n7 l hG.k.pl];rw[BU (CA 2 sc_Desk_say_cheapest.nd (AQ1 B.mono a2E (A2U LT))
 (A3 (C3 (gO a1B L6)
 D34
 B6)
 (CA 3 sc_Desk_say_cheapest.nd AH7
 (CA 4 sc_Desk_say_cheapest.nd (mY B.mono B7B)
 (SE c3g EZA)))))]
  rw[XU ⟨_,rfl,_,rfl,p,C,dx,_,_,rfl,e1,U.cl,U.n5,rfl,t,ABP,us,qO,ps,rfl,ht,hI,AE GW hF.1,D4 q L,AR 0xd76c38ec76e856e658766 y l,hF.in12,AB2 v e⟩];rcases e with⟨e,rfl⟩|⟨m,xs,D,j,rfl,f1,f2,e⟩
  .exact IE (D6 (k none H1 e s1))
  refine IE A2M;rw[ABD M N (e.cost hF y hG.k.pb) F G (hF.sz y xs N)];rw[F10 D AA2 DFS ⟨_,rfl,D,_,1,BSU,rfl,rfl,DFS,rfl,BSU,xs,rfl,D4 j f2,F,G,ASI⟩];rw[FF];have g:EK8:=X0 (x:=m) M;have o:=a5w F G;have u:AK0 ": "=2:=by decide
  rw[KP (k _ H2 e tQ) (show chT (some CEB)=F7B C1N by rw[L3];rfl)];exact DJ (FKU (c1t d g) C1N (lq 0x5f443b6ac0807247db8a68cea0e7f11f17d6f d g u) (~~~c1y d o) FG4 FG4)
#where
#where
section
noncomputable def c7h(ns:AA)(js:HW):Str:=if js=[] then wd "-" else LI (BUR js.map)
def b5O{rss:LLI}{xs:qI}:∀{a:HW}{now e:qI},E7Y->∀j∈a,eB
 |[],_,_,_=>ND
 |i::a,_,_,⟨EM h,g⟩=>λj b=>by
  rw[u8 AC3]
  .exact(AY2 a6a h).1
  .exact b5O g j z
def c6r{x:Str}{r:AA}(h:C3C):LI vJ≠wd "":=λz=>by
 rw[EK5];cases r with
 |nil =>
  rw[EQP]
 |cons y r =>
  rw[F9Y (_+1+_)];rw[QL 0xd3d7d36bb2fab36]
def d0z{ns:AA}{j:Nat}(h:j<ns.length):CL2 ns.map aC A7P:=K0 (by rw[EKO B2J B2J])
def d0h{rss:LLI}{xs:qI}{a:HW}(b:A2S)(h:D5W a):BG a.length=xs.sum:=by
 rw[KP (b1O a _ (a7I xs b) h) b5h];rw[QL 0x119033b274c6dbf65d5b757]
structure Vo(ns:AA)(rss:LLI)(xs:qI):Prop where
 N:QZ
 xl:w9
 n1:B8G
 n7:jH
 r3:EJW
 v:dL yV
def Vo.rs{ns:AA}{rss:LLI}{xs:qI}(h:oV):CAH/\Sm xs:=by
 rw[EQ (ANO b) x a]
 .rw[IM (h.r3 r b)];rw[AQ (h1.trans h.xl.symm) (λx a=>VC (h2 x a))]
 .rw[F13]
noncomputable def WyO(ns:AA)(rss:LLI)(xs:qI)(o:Out):Prop:=oV/\EW7 ((wF/\EBI/\BAW)∨(wF/\xs.sum<=300/\∃js,E8D/\o=.ok (c7h ns js)))
section
variable {P:qG}{w:World}{K:qF}{mg:BF}{base:Heap}{C:qE}
inductive spSWay(C CN CT:qE)(vs:A0)(H:Hp)(Q:VK)(E:XK):Prop
 |mk (p:qE) (z:V) (ns:AA) (rss:LLI) (ss:qI) (cs:AK) (ps:qI) (xs:qI) (_:t9 z) (_:kB) (_:AQK) (_:oV) (_:BEC E8V):BHP spSWay
def a4P:CCW "one" "one" V9:={}
def b2Z{tT:Tok}{CN CT:qE}(FM:ACU "say_way" "Desk.say_way" V9 "one")(U:XZ)(T:AV)(a:BOQ "GREATEST_WAY" 300 tT)(b:AED)(m:ENB)(D:F9G CN)(l:BHR)(OT:E3K CT):FBI CT:=by
 rw[HP FM.fnE a4P a7 a6 Y]
 .obtain⟨p,z,ns,rss,ss,cs,ps,xs,rfl,_⟩:=h;rfl
 .obtain⟨p,z,ns,rss,ss,cs,ps,xs,rfl,hD,hz,hV,k⟩:=h;obtain⟨hR,F⟩:=hV.rs;obtain⟨hN,d,n1,Z,_,u⟩:=id hV;rw[FM7 n a5]
  rw[BU (A3 (AEB (A61 (AQ1 Y.mono c0v CED)) (Y5 (F0 m Y.mono IV) (AXO (BP 300) a))
 (B5U OT)
 B6)
 (FH (F0 l Y.mono (B72 (wN (BN (RU (D6H "j" (ART D Y.mono a9p CED)
 (C8D "self")) (A7M BBB 0))))))))]
  refine FLO z hz DBK F;rw[AC a0 C3T a1 (HR e3)];cases L:DMP with
  |false =>
   exact C1 (FMM a0 a1 (e4.same s1) D4B (DC ⟨L,A2N (k .na ⟨hV,uB L⟩ H' (s1.trans s'))⟩))
  |true =>
  by_cases I:EBI
  .rw[F9R];rw[AZ (dR I) D6 ⟨AB7,k .tm ⟨hV,lT (QX L I)⟩ _ tQ⟩]
  have hS:A2S:=u9 ⟨nD u hx,by rw[MM (b1l (λy G=>ANL u G) x hx) 0x8ae04074001645820ce6fed2 I]⟩;rw[F9R];rw[GG AO4 C1 ?_];rw[A3S s2];refine FMM ACV DMN DJS (hz.same s2) (ED ⟨L,vI 0x46fb22660337d800156 n1,vI 0x46f57deaf3540ae6456 Z,hR,hS,EE v g H3 s3 hG u⟩);rw[HG va W u];have k:A31 E5G:=k (.ok E5G) ⟨hV,XN ⟨L,BJ 0x8761d046dfd16afeb6 I,g,hG,rfl⟩⟩;rw[AC O (d0h hS hG) R (b5O hG)];have s3:=s2.trans s3;have M:A6N (BJ9 g)=g.length:=by unfold cst;rw[uI List.length_map]
  refine BBV va W;rw[ER (D82 (BOX g) g (λj=>B1V A7P) (~~~lq 0x4e7f0953fc5c8997327f6bde60d89016727f69b7f9 a5 I O M) M (ZU W) rfl (λi v x H4 Q4 u X J k4=>?_)) H4 p4 J a4]
  .unfold cst at u;rw[BZW List.getElem?_map X u];cases u;have J:=s3.trans J;exact FLB (AI2 J) U.n1 n _ _ rfl (bQ J e2) (d0z (by rw[<-d];exact R x (A68 X))) (k4 _ rB)
  .have hB:GR (g.map (λj=>A7P)) (1<=y.length/\y.length<=8):=λy G=>by
    rw[FT j hj G];have a2:j<ns.length:=by rw[<-d];exact R j hj
    have:=hN.nm A7P (by rw[B5A (KA a2)]);rw[AQ AN6 C1K]
   have a3:iS E15<=_:=M7 (c:=32) (B:=8) λy G=>EPE;rw[List.length_map]at a3;refine⟨bk,p4,E15,8,rfl,rfl,BGZ,λy G=>EPE,GU List.length_map A1R (lq 0x10196d432761ddfb8e107a8dbb323ca29fcc14510daa234d4d530a9a3f9afeb7 I O),AD,_,_,rfl,?_⟩;have:=LZ (s3.trans (J.upd (o:=DW (g.map λj=>V.str A7P)) a4));rw[gN c7h];cases g with
   |nil=>rw[QB]
   |cons j g =>
    rw[F83 (LI (BUR (FE (j::g)))) (c6r (hB _ List.mem_cons_self).1)]
#where
#where
section
variable {a rss:LLI}{m:Nat}{ns:AA}{xs:qI}
section
variable {P:qG}{w:World}{K:qF}{mg:BF}{base:Heap}{C:qE}
def c8e{l:A3L}(h:HH ACE):EZ2≠wd "":=λz=>by
 rw[E8Z b]
 have a:GP ACE (3<=x.length):=λx a=>by
  rw[cX q AA3];rw[ZW wtx B7 B7 b];rw[PD 0x11544469f313ccb8e]
 cases e:ACE with
 |nil=>exact h e
 |cons x r =>
  rw[GJ h1 (a x (AI3 List.mem_cons_self)) e z];have h2:DNB vJ=0:=WQ Str.length z;cases r with
  |nil =>
   change x.length=0 at h2;rw[ADQ 0x6902125f842d48d]
  |cons y r =>
   rw[N1,B7,B7]at h2;rw[ADQ 0x23c284c4ac74bfe4b49448f]
def c4n(n:Nat)(xs:qI):bU Wi AS3 xs:=by
 unfold Wi;induction n generalizing xs with
 |zero=>rfl
 |succ n a =>
  cases xs with
  |nil=>rfl
  |cons x xs=>rw[List.replicate_succ,List.zipWith_cons_cons,List.all_cons,a];rfl
def b6k{cs:AK}{F W:LLI}{k:Nat}(h:eH)(b:AGX 200):FP W (FBD cs.length):=λv c=>by
 obtain⟨j,d,l,m,n,o,e,p⟩:=h.lv;obtain⟨i,f,g,lv⟩:=d v c;rw[FK lv.len (λx a=>HJ (lv.nn x a)) (B8N b3K f)];rw[KP (b1l lv.nn x a) lv.sum];exact lq 0x1b449ca03d1fcec9a24e8a0057d652f19 b e g this
inductive Td(n:Nat)(rss qO:LLI)(m:Nat):Prop
 |mk (F W k:_) (_:Wk rss AS3 F W [] k) (_:C8H) (_:BBE) (_:uV):Td n rss qO m
def Td.ok{n:Nat}(h:CCE)(f:A2Y)(hR:DO7):SX a (FBD n)/\(uG a (Least rss AS3 v))/\zW 200:=by
 rw[SO F W k c e b i];have d:=b6k c (AR 0xaf3b755088bdda82f66 f e);rw[OU (u5 j) (λv=>b.mem_iff.trans (c.least (λr g=>B70 (AC4 g)) v))]
 .have:=d v (ZD c.lv v (b.mem_iff.mp j)).1;rw[vA List.length_replicate]
 .rw[b.length_eq];rw[KR (B1Z c.lv)]
def Td.part{n:Nat}(h:CCE)(c:A2Y)(hR:DO7):FP a (a4s n v):=λv d=>by
 rw[IJ h1 h2 b ((h.ok c hR).1 v d) h1 (λx e=>VC (h2 x e)) b]
def Td.one{n m':Nat}{e b:LLI}(h:Td n rss e m)(h':Td n rss b m'):e=b:=by
 rw[FLP p o]
def Td.not{n:Nat}(h:CCE):¬EFC AS3:=by
 rw[FG8]
def Vo.rest(h:oV):a2l ns.length xs:=⟨h.xl,λx a=>by
 rw[F13]⟩
def Td.zero(h:CCF)(d:A2Y)(c:oV)(e:wF):CHN (R9 a xs):=by
 rw[CKX b (yR c.r3 b)];exact BC c2S rss rss cs BXU (hZ E5M) (λr b=>B70 (h.part d hR r b)) (B70 c.rest) e (c4n _ xs)
def Td.lw(h:CCF)(d:A2Y)(b:oV):C68 d1A:=by
 rw[CKX i (yR b.r3 i)];rw[CGB E5M];rw[EQ (ABU List.length_zip 0x119004fbac2fc74b8c82f66 h2) q g];rw[ABE k (List.of_mem_zip g)];obtain⟨f,c,_⟩:=h1 CS k;rw[AU (b6g a xs (h.part d hR) b.rest CZ j) (λx e=>ERU c e c e) (by rw[f];rw[AHG b.n7 3886778600293])]
noncomputable def LyO(ns:AA)(rss:LLI)(xs:qI)(m:Nat)(o:Out):Prop:=oV/\A2Y/\EW7 ((wF/\EFC BXU/\BAW)∨(wF/\∃qO,Td ns.length rss qO m/\o=.ok (d0H ((R9 qO xs).1.zip qO))))
inductive spSLay(C CN CT:qE)(vs:A0)(H:Hp)(Q:VK)(E:XK):Prop
 |mk (p:qE) (z:V) (ns:AA) (rss:LLI) (ss:qI) (cs:AK) (ps:qI) (xs:qI) (m:Nat) (_:vs=[II,DEQ,z]) (_:kB) (_:AQK) (_:oV) (_:A2Y) (_:BEC CFV):BHP spSLay
def sc_Desk_say_lay:DA ["self","most","one","told","parts"] BXG W3:={}
def b3a{CN CT:qE}(FM:kX "say_lay" "Desk.say_lay" W3 BXG)(U:XZ)(T:AV)(d:AED)(n:AT5)(l:ATN CT)(u:F0H)(b:F0I)(g:BHR)(OC:BYY "NoAnswer" CN):FA6 CT:=by
 rw[HP FM.fnE sc_Desk_say_lay b5 b4 D]
 .rw[sR p z ns rss ss cs ps xs m]
 .obtain⟨p,z,ns,rss,ss,cs,ps,xs,m,rfl,hD,hz,hV,hm,k⟩:=h;rw[FM7 n' a3]
  rw[HG za I hz];obtain⟨G,a5⟩:=hV.rs;obtain⟨hN,B,n1,n7,_,_⟩:=id hV;rw[CKX D (yR hV.r3 D)];rw[BU (A3 (A45 (gD d D.mono c0y (jaC LT JJ))
 DYZ
 B6)
 (CA 3 sc_Desk_say_lay.nd (AKV (ART l D.mono a9q (AAG (F0 n D.mono (BN (xM JJ))) IV)))
 (eM (ETD 4 sc_Desk_say_lay.nd "many" "part" (jaC (gD u D.mono a6o (DV 3 JJ)) tO)
 (mR D5F D5F)) (AC6 BCF) (AQ1 D.mono a6o WV)
 (FH (F0 g D.mono (B72 (wN nT)))))))]
  refine FLO B6U (B88 I) (λt ht=>AE (gP G ht) (a9s B n7)) a5;cases hA:DMP with
  |false=>rw[WL D6 AB7 (k .na ⟨hV,hm,uB hA⟩ _ s1)]
  |true =>
  rw[HI C1];refine FLB C3T U.n2 za rfl (QM ALT) _ A0G (IL (lq 0x48ca82f199dc5046de9426456 B n7)) (CCU pc hc);rw[BZV Int.toNat_natCast B hc];rw[A3S s2];rw[B]at G;refine⟨_,rfl,r,pc,rss,BXU,m,_,rfl,rfl,⟨⟨us,DMN,DJS,BRL⟩,hc,GH,GS List.length_replicate a9v n7,B70 G⟩,?_,λq t pp zs a ws F' W' k' H3 J hq ht hI Y a0 b8 b6 a6 W=>?_,EI H3 J ho⟩
  rw[FDP List.length_replicate (show m+1<=2001 by rw[DG 0xb4ca45a95cd4b4d6f65 hm]) n7]
  rotate_left
  .exact k .tm ⟨hV,hm,lT (QX hA ho)⟩ _ (s2.trans J)
  have R:CCF:=⟨F',W',k',a6,W,Y,a0⟩;have k:A31 (C68 d0H):=k (.ok _) ⟨hV,hm,XN ⟨hA,a,R,rfl⟩⟩;obtain⟨b7,_,a2⟩:=R.ok hm hR;have S:QT BKR=a.length:=BZ b2l;rw[JK O (R.lw hm hV) ⟨q,_,_,KH,rfl,rfl,C1W,rfl,?_⟩];rw[FF];rw[AC J (s2.trans J) F GW];refine⟨_,rfl,_,rfl,t,B6U,zs,a,xs,ns.length,rfl,⟨ht,hI,B88 (AG J I),AR 0x7e46e0972a9db4cd4641e02f66 a2 F,n1,B2B n7,R.part hm hR,hV.rest⟩,R.zero hm hV hA,λpl H4 L X=>⟨_,rfl,true,true,pl,t,rfl,OI X,OI (AG L ht),?_⟩⟩;rw[vS a4 hI.same L b2 L ht];have L:=J.trans L;refine BC O6 k1 true k2 true (xs:=PV (BKR).map) (zs:=zs) (ACP 0x11c692ec7037e8162a88277aa11df17d6f a3 a2 S) (OM ys (ANR H4/\ys=A4L wds (AZS AZ9 a) i V.str)) (UP rB) (F06 X b2 (EGZ (DRS b4N lA))) ?_ ?_
  .rintro i x z ys H5 p5 hx hz5 ⟨s5,rfl⟩ hp5;rw[bC y b0 K9 hx];obtain⟨r1,b9,b1,M,rfl,b3⟩:=a4.mem hz5;have Z:AC0 (AZ9 a) (y,r1):=List.getElem?_zip_eq_some.mpr ⟨b0,b1⟩;have a1:=b8s Z;obtain⟨a7,a8,a9⟩:(AQQ y y)/\Sz r1/\r1.length<=8:=A1W O.2 Z;have s6:=s5.upd (o:=GN D7M) hp5;refine tL p5 D7M A2 (BP y) (VT M) BPR [];rw[AAI]
   .match j,e with
    |0,e=>rw[CI]
    |1,e=>rw[CI]
    |oO,e=>exact e
   refine ADX
   .have e:0<y:=oF;refine⟨_,rfl,_,rfl,y,BPR,r1,rfl,a7,D4 M (AG s6 b3),a8,a9,λH7 s7=>HJ (s6.trans s7)⟩;rw[a1,IP,List.map_append];rfl
   .rw[SH e (0<y) A30];rw[AQ s6 (DP2 a1 GA)]
  .rintro ys H5 ⟨s5,rfl⟩ p5 hp5;rw[List.length_map,S,F,Nat.min_self,UG List.take_of_length_le List.length_zip c2t]at *;rw[DI f1 f2 f3 d0L O];rw[CF ⟨rfl,_,rfl,wplus,p5,_,551,rfl,rfl,YQ,f1,SD CI6,AR 0x6f2c6e74f8f237fda9c2b061f17d6e a3 f3,_,_,rfl,?_⟩];have:=LZ (EJ8 (JR (A4L wds AZ9 a)) hp5);rw[gN d0H];rw[FO (C68 wds) []]
   .rw[TU IP];rw[e]at this⊢;rw[QB]
   .rw[TU GA];rw[AB (CXL c8e) this]
#where
#where
universe K53
namespace L2
open PySem PySem.Spec PyProof.Rows
noncomputable def c8i(i:Nat)(C:qE)(m:Str)(sp:Sp)(ta:TE)(t:TA):TX:=FK5 (D.nx BXW H3)
def c6m{X:Cx}{C:qE}{m y:Str}{i:Nat}{k:Nat}{ps:AA}{sp:Sp}{o e:Expr}{es:BT}{ta:TE}{t:TA}{qN qM pos pos':Pos}{pl:w6}(O:E3Q)(c:oZ)(hr:jJ)(hN:X.N.Nodup)(hi:CA8)(hy:CJF)(he:AOS)(ha:FC)(j:EVF:=by exact fY z z)
  (A:DE:=by rfl) (w:TH:=by rfl)
  (hs:BNI APV (B7V pos'):=by rfl) (hf:CNH:=by rw[pD])
  (ht:RA APV=(do
   let ov <-eval o X.env
   standAt qN.atName
   let (f,first) <-holding [ov] (getMethod ov m pl)
   callWith qM f first (backTo qM (starEach (e::es) X.env)) (backToKw qM (keywordEach [] X.env))):=by rfl) :
  JX X [.Assign [B7V pos'] APV pos] (c8i i C m sp ta t):=by
 rw[FJ2 J hb];refine wpAny_execs_cons (wpAny_Assign_Name ?_ hs);rw[BIB (BI0 (WA he.h) (EI u s1 E) j) ht G rx Q E];rw[BH7 rx G Q J];rw[CPL J.kp (BI0 (AEJ ha.h qM G q) (EI us s2 E) j) A w];rw[FB5 K E];have L:EXN:=CHU;have hl:DID=ps.length:=by rw[CD1 L.length K]
 rw[FL0 hb L K];cases r with
 |error e =>
  obtain⟨p,C,H',B,a0,h1,h2,S,T,U,W,Y,Z,C',h9,n⟩:=g;cases h9;exact FLR S T U W Y Z n
 |ok fl =>
  cases fl with
  |ret u =>
   rw[FBW M N];exact a5B N hN hi hy rv (λs2 P=>DCU (cM M P q3)) hf
  |next=>rw[PF g]
  |brk=>rw[PF g]
  |cont=>rw[PF g]
def c9N{X:Cx}{st:Stmt}{t:TS}(h:EGT JS):BO6 JS:=⟨ATO D hw (FBN (cK h.h))⟩
universe L2
namespace K53
open PySem PySem.Spec PyProof.Rows L2
section
variable {cs:AK}{ns:AA}{rss:LLI}{ss:qI}
noncomputable def AskA(ns:AA)(rss:LLI)(ss:qI)(cs:AK)(ps:qI)(x:Str)(zs:qI)(o:Out):Prop :=
 COL BHB (uQ/\BUH zs o) (zs=CG7/\CFV)
noncomputable def AskQ(ns:AA)(rss:LLI)(ss:qI)(cs:AK)(x:Str)(zs:qI):Prop :=
 COL CJY (uQ/\DQJ) (zs=CG7/\oV/\A2Y)
section
variable {P:qG}{w:World}{K:qF}{mg:BF}{base:Heap}{C:qE}
inductive spSBy(C CN CT:qE)(vs:A0)(H:Hp)(Q:VK)(E:XK):Prop
 |mk (p l:qE) (x:Str) (zs:qI) (ns:AA) (rss:LLI) (ss:qI) (cs:AK) (ps:qI) (_:vs=[II,VH,IX]) (_:kB) (_:A3W) (_:AJZ l zs.map) (_:CJZ) (_:BEC CFS):BHP spSBy
def sc_Desk_say_by:DA ["self","word","numbers","found"] BXH Z9:={}
def c8v{H:Hp}{r c:qE}{us:A0}{ps:qI}(a:A3W)(d:C8B)(e:MR)(f:BCY)(g:AQZ):D19 r c :=
 ⟨lW us d (BMU f),g,GH,by have:=a.k.cl;rw[KR a.k.n7],λt b=>⟨A16 a.k.cl (gP a.r3 b),λz h=>BZK (A29 a.r3 b) h⟩⟩
def b6R{CN L:qE}(FM:kX "say_by" "Desk.say_by" Z9 BXH)(U:XZ)(T:AV)(e:VL)(a:F0V)(z:ATN L)(v:F3J L)(g:FBH L)(u:FBI L)(j:FA6 L)(d:FAZ):FA7 L:=by
 rw[HP FM.fnE sc_Desk_say_by a4 a3 G]
 rw[BI1 l x zs]
 .obtain⟨p,l,x,zs,ns,rss,ss,cs,ps,rfl,hD,hG,I,hA,k⟩:=h;rw[eT hz 900000]
  rw[FKX e3 e4 e5];rw[AC n1 hG.k.n1 O hG.k.n7];have Y:=hG.k.cl;rw[BU (A3 (ATI
 (CMN u (APE 178276924) JJ)
 B6)
 (A3 (ATI
 (CMN j C24 (iW AH7 (a8g K aE AJK J2)))
 B6)
 (A3 (ATI
 (FH (mY G.mono (BN (AKV (Y8 z (APE 178277708) rfl (AAG LT B7B))))))
 B6)
 (A3 (ATI
 (CMN g C24 B7B)
 B6)
 (CA 3 sc_Desk_say_by.nd (Y8 v C24 rfl (A8K LT LT A47 B7B))
 (A3 (ATI
 (FH (a6G (a6G E6X B4) E6X))
 B6)
 (SE (a6E d e (APE 178275356) DY) (BT6 3))))))))]
  rw[FIP hA hA hV hV J]
  rotate_left
  .exact IE (D6 ⟨_,rfl,p,dx,_,rfl,e1,rfl,_,rfl,p,IX,ns,rss,ss,cs,ps,zs,rfl,hD,D4 l I,hV,λo h=>DV7 h⟩)
  .refine IE (XQ (D6 ⟨_,rfl,p,dx,_,rfl,e1,rfl,_,rfl,l,_,_,_,rfl,rfl,AC2,atc,_,rfl,1,rfl,l,_,rfl,AC2,DIB,BH q N⟩))
   .rw[List.length_map,List.length_cons,F76,HT.sIx_nat]at h;rw[DG 0x282f0390d846f7ea6d CB]
   rw[XR ZN N];rw[List.map_cons,a2f];exact⟨p,ABP,ns,rss,ss,cs,ps,xs,m,rfl,DOY,DS3,hV,J,λo h=>(k o (XN (GZ rfl m xs h))).same s1⟩
  have I:VU l [DO UI]:=I;have k:∀o,BHB->BPE L:=λo h=>k o (.inl (D4 m h));rcases hA with⟨rfl,J,R⟩|⟨rfl,J⟩|⟨rfl,J,R⟩|⟨rfl,J,R⟩
  .rw[FQ (IE (XQ (XQ AP1))) ⟨_,rfl,p,C,dx,_,_,rfl,e1,U.cl,U.n2,rfl,_,rfl,p,C,dx,_,_,rfl,e1,U.cl,U.n4,rfl,_,rfl,l,_,_,_,rfl,rfl,AC2,atc,r,c,rss,cs,m,_,rfl,rfl,c8v hG e3 e4 e5 e7,?_,λq' t pp zs y ws F W k' H1 s1 N ht hI a1 a2 a6 a5 hW Z=>?_,λH1 s1 S=>BGH (B7N C95)⟩]
   rw[FDP Y (BVA (m+1) 2001 c1f J) O]
   have M:CML y:=⟨F,W,k',hW,Z,a1,a2⟩;rw[CNL Y];refine⟨q',_,0,KH,rfl,rfl,B7G,rfl,t,zs,y,ns.length,rfl,ht,hI,B,n1,O,ASI⟩;exact k (.ok (vts y)) (B7N F84) H2 tQ
  .refine IE (XQ (XQ (XQ AP1)));exact⟨_,rfl,p,dx,_,rfl,e1,rfl,_,rfl,l,_,_,_,rfl,rfl,AC2,atc,p,ns,rss,ss,cs,ps,m,rfl,hD,hG,J,λo S=>DV7 S⟩
  all_goals
   rw[FQ (IE (XQ (XQ (XQ A2M)))) ⟨_,rfl,p,C,dx,_,_,rfl,e1,U.cl,U.n2,rfl,_,rfl,p,C,dx,_,_,rfl,e1,U.cl,U.n3,rfl,_,rfl,p,C,dx,_,_,rfl,e1,U.cl,U.n1,rfl,n,_,rfl,DLC,_,rfl,l,_,_,_,rfl,rfl,AC2,atc,r,s',us,rss,ns.length,m,ss,_,_,rfl,B9Q,rfl,e3,e4,e5,hG.r3,n1,O,J,hG.k.sl,hG.k.sb,e6,R,λq' t b pp zs ys y H1 s1 N ht hI hb a0 M=>?_,EI H1 s1 S⟩]
  rotate_left
  .exact BGH (DC (AAT C95))
  rotate_left
  .exact BGH (EFL C95)
  .rw[CNL a0s];rw[AC D (CKU 1) X (CKU 0)];rw[CF (IE AP1)];refine⟨_,rfl,q',_,0,KH,rfl,rfl,B7G,rfl,t,zs,_,ns.length,rfl,ht,hI,D,n1,O,ASI⟩;rw[AC l1 (b4O D O) l0 (b4O X O)];have l3:AK0 " | "=3:=by decide
   refine⟨_,_,rfl,rfl,by show _+DTW<=_;exact lq 0xab054c2e0e9d56ca5d1c48771175f7a8e5221d10a2af hz l1 l3,_,rfl,q',_,1,GV,rfl,rfl,C5E N,rfl,b,ys,_,ns.length,rfl,UW hb,a0.same s2,X,n1,O,λH3 s3=>⟨_,_,rfl,rfl,?_,?_⟩⟩
   .rw[B7];show _+DTW+_<=_;exact lq 0x488403fd65cbf8da565e6a3ea64ff6f091dd37cc83d8a364e5221d10a2b0 hz l1 l0 l3
   .exact k ANJ (DC (AAT F84)) H3 (CHF s3)
  .rw[CNL a0s];have D:=CKU 1;rw[CF (IE A2M)];refine⟨_,rfl,p,dx,_,rfl,C3T,rfl,_,rfl,q',_,0,KH,rfl,rfl,B7G,rfl,p,t,zs,_,ns,rss,ss,cs,ps,rfl,DOY,hG,ht,hI,D,BS bb H2 hB s2⟩;exact k ANJ (EFL (DC (nA y M (QX bb hB) rfl))) H2 tQ
def c6L(zs:qI):PR (inV .non (zs.map V.int)):=by
 rw[FY inV List.any_eq_false];intro v a;rw[cX z AA3];intro h;cases h
def AskP.ls{x:Str}{m:Nat}(h:CJY):B8X/\A8X/\BC2/\AQH:=by
 rw[A1Y key (GR Ls4 EC3)]
 have a:B8X/\m<=2000:=by
  rcases h with⟨rfl,h,_⟩|⟨rfl,h⟩|⟨rfl,h,_⟩|⟨rfl,h,_⟩
  .rw[AQ AYN h]
  .rw[AQ (A6H BDG) (dZ 0x66f4c71853938b4ce5)]
  .rw[AQ (A6H AYN) h]
  .rw[AQ BDG h]
 rw[AU QR a.2 (key x QR)]
def c6K{os:AK}(h:ECP):AY (inV .non (os.map ovI)):=by
 unfold inV;exact List.any_eq_true.mpr (QX .non (wT none h))
def c6S(l:AK):DRZ ovI:=by
 rw[B1H a];rw[cX o AA3];cases o<;>rfl
def RdW.wg{w:Str}{o:EJ}(h:CJM):F24:=by
 rcases h with⟨x,_,rfl,a,h1⟩|⟨_,b⟩
 .rw[EC (X0 ⟨a,iI h1⟩) ANZ];rw[KR (AG W9 z)]
 .obtain⟨_,h2,h3⟩:=b.wok;rw[AQ (iZ 0xaad1731a4a125) h3]
structure RdS(ws:AA)(os:AK):Prop where
 len:ws.length=os.length
 at_:∀(i:Nat) (w:Str) (o:EJ),CC ws w->CC os o->CJM
def RdS.wg{a:AA}{os:AK}(h:RdS a os){w:Str}(hw:w∈a):F24:=by
 rw[DI i hi e List.getElem_of_mem hw];exact(h.at_ i w (os[i]'(OV h.len hi)) (GT UY e) (List.getElem?_eq_getElem _)).wg
noncomputable def Said(ns:AA)(rss:LLI)(ss:qI)(cs:AK)(ps:qI)(x:Str)(os:AK)(a:vF):Prop:=(ECP/\MY a)∨∃zs o,D92/\CFS/\a=BK c8Z o
structure LinP(ns:AA)(rss:LLI)(ss:qI)(cs:AK)(x:Str)(ws:AA)(os:AK):Prop where
 xl:BC2
 x32:AQH
 n9:ws.length<=10
 rd:EO0
 ok:F2T CJZ
noncomputable def Fs(CL:qE)(H:Hp)(Q:VK)(E:XK):SJ vF
 |AO t=>A31 t
 |none=>C3Y CL
def AskQ.ln{x:Str}{zs:qI}(h:CJZ):d1C x zs ns.length:=by
 rw[FIP h h a a b]
 .rw[CGG h.ls];exact XN (JZ h1 _ (iZ 0x2c6767d627efbdf0abb6a5))
 rw[GX (DZ a.xl)]
 .exact lT (oA UI xs rfl a.xl (AO8 0xe7fce5060a1d7c36f65))
inductive spSay(C CL:qE)(vs:A0)(H:Hp)(Q:VK)(E:XK):Prop
 |mk (p:qE) (x:Str) (ws:AA) (os:AK) (ns:AA) (rss:LLI) (ss:qI) (cs:AK) (ps:qI) (_:DPS) (_:kB) (_:A3W) (_:EXZ) (_:∀a,CLB->Fs CL H Q E a):spSay C CL vs H Q E
def sc_Desk_say:DA ["self","line","words","numbers"] D3G a2B:={}
def c9o{tT:Tok}{CN I CL:qE}(FM:ACU "say" "Desk.say" a2B "line")(U:XZ)(T:AV)(l:VL)(u:E34)(d:BHV)(j:F35)(b:FA7 I)(hN:ClsN K CN I)(e:sD "NoAnswer" CN)(g:sD "TooMany" I)(OL:BYY "NoLine" CL):EZK (spSay C CL):=by
 rw[HP FM.fnE sc_Desk_say a3 a2 Y]
 rw[BI1 x ws os]
 .rw[FMA];rw[iO a1]
  obtain⟨dx,n',r,s',c,q,us,e1,e2,_⟩:=hD.ex;rw[AC a0 hL.n9 R hL.rd.len];have G:GR A5H EC3:=λy D=>by
   rw[QI (List.mem_cons.mp D) D]
   .rw[AQ hL.xl hL.x32]
   .exact hL.rd.wg D
  have M:iS A5H<=_:=M7 (c:=32) (B:=60) λy D=>ANL G D;rw[List.length_cons]at M;have Z:PySem.Txt.split DMG bk=A5H:=UT a2r λa ha=>(G a ha).2;rw[BU (A3 (A45 (pH a7A T.b_isinstance (A2U (c9X (v:=.ty "str") rfl T.b_str c3U rfl)))
 aP
 B6)
 (CA 2 sc_Desk_say.nd (EFP 1)
 (eM (mV 3 sc_Desk_say.nd (N:=["word"]) (src:=[none]) (AC1 (a3m K aE AJK J2))
 DPE) pT (B00 d Y.mono 178889228 (A2K (BBZ u)))
 (A3 (CMR a1z (BD6 L6 A0K) a0K (B00 j Y.mono 178887660 (jaC AAQ (DV 3 (BN A47))))
 (B5U OL)
 B6)
 (A5 (c9N (c6q hN (c6n b l (A4Y Y.mono 178895500) DY (iW AAQ (AY9 tO))) rfl e rfl g DHA DHA)))))))]
  rw[FQ ⟨_,rfl,_,_,_,true,rfl,aI,rfl,_,rfl,A2M⟩ ⟨_,rfl,rfl,_,bk,rfl,rfl,AH,AD,EDV⟩];rw[Z]at *;rw[XR B48 S];rw[MK f1 H p1 B48 p1 B48];rw[AE2 (eZ p1 B48) f1];rw[CF ⟨_,rfl,1,rfl,p1,_,rfl,DP f1,EBB p2 W p2⟩];rw[B20 a2f];rw[BDB A85 W];rw[MK f2 H1 p2 A85 p2 A85];rw[oC H1 p2 A85 H2 s2 f2];rw[ER (wM a1X AYS os (λo=>ovI o) (IL (lq 0x236350deb1fd6571f17d6e a1 a0)) (IL R) (A2V f2) rfl (λi v o J Q3 hv O s3 k3=>?_)) J n s3 X]
  .rw[A3Q hv y D hv];exact ZV y o (hL.rd.at_ i y o D O) k3
  have m:=s3.upd (o:=AME) X;rw[MK F J n AME n AME];show(yO _) _ (upd J n AME);rw[oC J n AME H4 m F];rw[vS m s2.trans m g1 m f1];have m:=s1.trans m;rw[CF (UR n _ rfl (X3 F) rfl (c6S _) _ rfl ?_)];rw[F0R];rcases hL.ok with h|⟨zs,rfl,hQ⟩
  .rw[AB (c6K h) (D6 (D6 ⟨AB7,k none (uB h) _ m⟩))]
  rw[A0J F (CQ H4 n DI2) F List.map_map]
  rw[BPJ ((lE zs.map some ovI)=zs.map V.int),c6L];refine C1 ⟨_,rfl,p1,_,_,VH,rfl,rfl,DP g1,atc,_,rfl,_,rfl,p,C,dx,_,_,rfl,AI2 m,U.cl,U.n1,rfl,n',_,rfl,QM (C0N m),x,n,zs,ns.length,C6V,F,hQ.ln,λH5 s5=>DJ A2M⟩;have s6:=m.trans s5;rw[UV ⟨_,rfl,p,dx,_,rfl,AI2 s6,rfl,_,rfl,p1,_,_,VH,rfl,rfl,DP (iG g1),atc,_,rfl,n,_,rfl,BDI (iG F)⟩ L s6.upd (RG zs.map) hq];refine⟨p,q,x,zs,ns,rss,ss,cs,ps,rfl,hD.same L,hG,A2,hQ,BH o ho⟩;have k:ALU c8Z o:=k (BK c8Z o) (.inr (QF zs o ho rfl));cases o with
  |ok t=>exact A2N (k H' (L.trans s'))
  |na=>exact A2N (D4 CN (B7N FA9))
  |tm=>exact A2N (D4 I (DC (DZ FA9)))
inductive spKInit(C:qE)(vs:A0)(H:Hp)(Q:VK)(y_3:XK):Prop
 |mk (p dx:qE) (L:FB) (d:Dr) (_:t9 EHZ) (_:CBT) (_:vO) (_:CJQ) (_:CAQ) (_:CII L) (_:ACN) (_:d.rows.length<=6) (_:∀(H':Hp),A5Y DkAt d.names d.rows d.sides d.capsL d.pricesL->(A1T H')->AGR):oY spKInit
def sc_Desk___init__:DA (A5Q "text" "system") (WC "text") T0:={}
def c0c(M:ACU "__init__" "Desk.__init__" T0 "text")(U:XZ)(e:F8O):rK "__init__" 11 (WC "text") spKInit:=by
 rw[HP M.fnJ sc_Desk___init__ N B O]
 rw[gZ p dx L d]
 .obtain⟨p,dx,L,d,rfl,hp,h0,hw,h9,m,h7,h2,k⟩:=h;rw[iO R]
  rw[BU (CA 2 sc_Desk___init__.nd (F0 e O.mono IV)
 (BC9
 (BC9
 (BC9
 (BC9
 (B8E AH7))))))]
  rw[XU (UR L d rfl h0 hw h9 m h7 (BS v H1 m s1))];obtain⟨a,n,r,t,c,q,us,rfl,e1,e2,D,l,F,G,I⟩:=m.ex;have j:=AOU;have ne:∀{b:qE}{xs:A0},E8B b->rQ:=λh z=>by rw[z,j]at h;cases h
  have st:∀{H2:Hp}{o:HO},(BFR (xF H2))->BFR (IH H2 p o b u):=λh b u y g=>GI g (h b u y g)
  have k0:BFR CUH:=XD h _ h;have na:=ne e1;rw[CW0 e1 j U.n1 AH k1 (D8L n) k0];rw[BHL k1 U.n2 1 k2 (kM BMD) k1];rw[BHL k2 U.n3 2 k3 (BMI "sides" KH BMD) k2];rw[BHL k3 U.n4 3 J (kM D1R) k3];rw[BHL J U.n5 4 k5 (BP9 "prices" q D1R) J];refine LZ ⟨dx,n,r,t,c,q,us,A2,AJ k5 e2 (ne e2),AJ k5 D (ne D),⟨l.1,λi v h=>let ⟨x,h1,b,h2,h3⟩:=l.2 i v h;⟨x,h1,b,h2,AJ k5 h3 (ne h3)⟩⟩,AE l.1 h2,AJ k5 F (ne F),OV d1g (AJ k5 G (ne G)),AJ k5 I (ne I)⟩ λb o y g=>AJ k5 (HR y) g
#where
#where
section
variable {x:Str}
def Ask.one{ns:AA}{rss:LLI}{ss:qI}{cs:AK}{ps:qI}{x:Str}{m:Nat}{o o':Out}(h:BHB)(g:CUM ps x m o'):ADB:=by
 have d:∀{y z:Str},(x=y)->(x=z)->ZS (y=z)->False:=λe1 e2 n=>by rw[<-e1,<-e2]at n;simp at n
 rcases h with⟨e,h⟩|⟨e,h⟩|⟨e,h⟩|⟨e,h⟩<;>rcases g with⟨e',g⟩|⟨e',g⟩|⟨e',g⟩|⟨e',g⟩
 rw[EUW]
 rw[aY]
 rw[aY]
 rw[aY]
 rw[aY]
 .exact h.one g
 rw[aY]
 rw[aY]
 rw[aY]
 rw[aY]
 rw[EUW]
 rw[aY]
 rw[aY]
 rw[aY]
 rw[aY]
 rw[DBI (p.one q)]
def Ask.ls{ns:AA}{rss:LLI}{ss:qI}{cs:AK}{ps:qI}{m:Nat}{o:Out}(h:BHB):B8X:=by
 rcases h with⟨rfl,_⟩|⟨rfl,_⟩|⟨rfl,_⟩|⟨rfl,_⟩
 .exact .head _
 .exact A6H BDG
 .exact A6H AYN
 .exact BDG
def WyO.one{ns:AA}{rss:LLI}{xs:qI}{o o':Out}(h:E8V)(g:BUH xs o'):ADB:=by
 rcases DK with⟨b,rfl⟩|⟨b,c,rfl⟩|⟨b,c,j,d,rfl⟩<;>rcases g.2 with⟨a,rfl⟩|⟨a,e,rfl⟩|⟨a,e,i,f,rfl⟩
 .rfl
 rw[wU]
 rw[wU]
 rw[wU]
 .rfl
 .omega
 rw[wU]
 .omega
 .rw[Goes.one d f]
def LyO.one{ns:AA}{rss:LLI}{xs:qI}{m:Nat}{o o':Out}(h:CFV)(g:D0U o'):ADB:=by
 rcases nF with⟨b,rfl⟩|⟨b,c,rfl⟩|⟨b,t,c,rfl⟩<;>rcases g.2.2 with⟨a,rfl⟩|⟨a,d,rfl⟩|⟨a,t',d,rfl⟩
 .rfl
 rw[wU]
 rw[wU]
 rw[wU]
 .rfl
 rw[HL c d.not]
 rw[wU]
 rw[HL d c.not]
 .rw[c.one d]
def AskA.one{ns:AA}{rss:LLI}{ss:qI}{cs:AK}{ps:qI}{x:Str}{zs:qI}{o o':Out}(h:CFS)(g:D0H o'):ADB:=by
 rw[A1Y hw (rW∉Ls4/\yG∉Ls4/\rW≠yG)]
 rcases h with⟨m,e,h⟩|⟨e,h⟩|⟨e,m,xs,e2,h⟩<;>rcases g with⟨b,e',g⟩|⟨e',g⟩|⟨e',b,c,a,g⟩
 .rw[e]at e';injection e' with e1
  rw[ESZ]
  exact h.one g
 rw[oR e' h.ls hw.1]
 rw[oR e' h.ls DF8]
 rw[oR e g.ls hw.1]
 .exact h.one g
 rw[nS e.symm.trans e' DEG]
 rw[oR e g.ls DF8]
 rw[nS e'.symm.trans e DEG]
 .rw[e2]at a;rw[AHD a e3]
  rw[ESZ]
  rw[fF e3 h.one g]
def Said.one{ns:AA}{rss:LLI}{ss:qI}{cs:AK}{ps:qI}{x:Str}{os:AK}{a c:vF}(h:CLB)(g:AG0 Said ps x os c):a=c:=by
 have d:∀zs:qI,none∉BBQ:=λzs f=>by
  obtain⟨z,_,e⟩:=List.mem_map.mp f;rw[CI]
 rw[FKR zs o rfl h o' e g]
 .rfl
 .rw[e]at h;rw[DT h (d _)]
 rw[HL g (d _)]
 .obtain rfl:zs=b:=(bJ List.map_inj_right e C1G).mp e;rw[DHX]
def RdS.zs{zs:qI}(h:v4 zs DW3):RdS (zs.map D7) BBQ:=by
 rw[CP2 (DJT List.length_map)];rw[List.getElem?_map]at hw a;rw[AWT z b hw];rw[AW b a a];rw[IM (MA h z b)];rw[A9U (ACO z h1 h2)]
def RdS.cons{b:AA}{os:AK}{y:Str}{u:EJ}(h:RdS b os)(r:RdW y u):RdS A2G (u::os):=by
 rw[CP2 (WQ ((·+1)) h.len)];cases i with
 |zero=>cases hw;cases a;exact r
 |succ i=>rw[EUL]
def RdS.app{A C:AA}{B D:AK}(h:RdS A B)(g:RdS C D):RdS (A++C) (B++D):=by
 rw[CP2 (ELI h.len g.len)];have b:=h.len;rw[BM (CWK A.length)]
 .rw[List.getElem?_append_left z]at hw;rw[JP List.getElem?_append_left]at a;rw[EUL]
 .rw[List.getElem?_append_right z]at hw;rw[JP List.getElem?_append_right,<-b]at a;exact g.at_ _ w o hw a
noncomputable def Ws6:AA:=[A7D,BO2,BO3,BO1,rW,yG]
noncomputable def WdM(x:Str)(m:Nat):Prop:=(DKI/\m<=150)∨(EN2)∨((DKJ∨DKK)/\m<=150)
noncomputable def LnD(n:Nat)(x:Str)(zs:qI):Prop:=COL EE9 (uQ/\DIM/\v4 zs BDU) (zs=CG7/\C53/\C3L/\v4 xs BDU)
def LnD.b{n:Nat}{x:Str}{zs:qI}(h:BH0):DF z zs DW3/\zs.length<=CW:=by
 unfold topN;rcases h with⟨m,rfl,h⟩|⟨_,h1,h2⟩|⟨_,m,xs,rfl,h1,h2,b⟩
 .have hm:C53:=by rcases h with⟨_,h⟩|⟨_,h⟩|⟨_,h⟩<;>omega
  rw[EC (ZX z) (y9 (1<=_))];rw[KO uJ]
 .rw[AQ (λz a=>BZK h2 a) AD]
 .rw[EC (ZX z) (SD List.length_cons)];rw[oW]
  .omega
  .rw[nJ b z a]
structure LnG(n:Nat)(x:Str)(ws:AA)(os:AK):Prop where
 xl:BC2
 x32:AQH
 n9:ws.length<=n+2
 rd:EO0
 ok:F2T BH0
def WdM.p{ns:AA}{rss:LLI}{ss:qI}{cs:AK}{m:Nat}(h:EE9):CJY:=by
 rcases h with⟨rfl,h⟩|⟨rfl,h⟩|⟨rfl|rfl,h⟩
 rw[GX CHD]
 .exact AAT h
 rw[JM (lT CHD)]
 rw[JM (XN CHD)]
def LnG.p{ns:AA}{rss:LLI}{ss:qI}{cs:AK}{ps:qI}{x:Str}{c:AA}{os:AK}(h:LnG ns.length x c os)(a:A3W):D44 x c os:=by
 have g:=a.k.n7;have b:∀{zs:qI},A0C zs.length->DF z zs BDU->DQJ:=λh1 h2=>⟨a.k.nm,h1,a.k.n1,g,a.r3,λz f=>by have:=h2 z f;rw[CB6]⟩;refine⟨h.xl,h.x32,VC h.n9,h.rd,eR (h.ok.imp id) q⟩;obtain⟨zs,e,h⟩:=q;rw[OU zs e];rcases h with⟨m,rfl,h⟩|⟨rfl,h1,h2⟩|⟨rfl,m,xs,rfl,h1,h2,d⟩
 rw[GX (D4 m h.p)]
 .exact AAT (A1O b)
 .exact XN (oA m xs rfl (b h2 d) AD)
def b2m(h:C4E):x∈Bd7/\BC2/\AQH/\AM8 .str E5O=(ERV):=by
 rw[A1Y k (GR Ws6 (y∈Bd7/\AM7/\BV0/\ESA E5O=(EG (y=wd "way") || EG (y=wd "lay"))))]
 exact k x h
def c2O{n k:Nat}{y:Str}{zs:qI}(g:C4E)(f:BH0)(e:DI8)(m:k<=DDW):∃x' a c,(ASK).take k++y::(ASK).drop k=x'::a/\LnG n x' a c:=by
 obtain⟨h,i,j,_⟩:=b2m g;rw[SK d f.b];obtain⟨o,p,l⟩:=e.wok;cases k with
 |zero =>
  refine⟨y,ASK,none::BBQ,rfl,AD,l,DWK List.length_map,A9T (RdS.zs d).cons (DZ DG9),ED List.mem_cons_self⟩
 |succ k =>
  refine⟨x,lE zs.take k D7++y::E13 D7,lE zs.take k some++none::E13 some,by rw[List.take_succ_cons,List.drop_succ_cons,List.map_take,List.map_drop];rfl,i,j,?_,?_,ED BUE⟩
  .rw[List.length_append,List.length_cons,List.length_map,List.length_map,List.length_take,List.length_drop];omega
  .exact(DVC (ANI d z b)).app (A9T (DVC (d z (List.mem_of_mem_drop b))).cons (DZ e))
section
variable {P:qG}{w:World}{K:qF}{mg:BF}{base:Heap}{C:qE}
def two_gr(c:Bool):atI [DO 150,BP 40] (QO c 1 0)=DS (QO c 40 150):=BZF c
def c3C{src:NQ}{σ caps:L2.St}{Q:VK}{H:Hp}{a b:qE}{n:Nat}{lo:Int}{te:TE}(R:C6C)(m:TB)(d:YC)(k:NW)
  (f:CPR)
  (hd:DC2 (ys.length=n)):A8A CBH:=by
 rw[SZ o]
 refine a6Y AD CNC COB (B5I D83) ?_ ?_
 .rintro i ys H' _ ⟨h1,h2,P',o'⟩;rw[DC0 (CHW _) (f _ H' _ P') l]
  .exact h2 y z
  rw[AOH l]
 rw[CQ9]
inductive spLine(vs:A0)(H:Hp)(Q:VK)(y_3:XK):Prop
 |mk (a b:qE) (n:Nat) (_:A00 (BP EV)) (_:NW) (_:aQ) (_:vU) (_:∀x ws os H',LnG n x ws os->QN->NF->A4S .str DMG):HY spLine
def sc__law_line:DA ["_law_pot_here","_law_width","_law_word","_law_great","_law_most","_law_words"] ["_law_pot_here","_law_width"] a1l:={}
def c5J(F:C79 "_law_line" a1l "_law_width")(T:AV)(d:AEL)(j:BHW):FA4:=by
 rw[BO sc__law_line d7 d4 p]
 rw[AEF a b n]
 .obtain⟨a,b,n,rfl,hP,n1,n7,k⟩:=h;rw[LH hz]
  rw[BU (CA 2 sc__law_line.nd (FFD (D7K E9H))
 (CA 3 sc__law_line.nd (EA5 (gO a1A B4))
 (CA 4 sc__law_line.nd (F0 j p.mono (YI (tI E4 (DV 3 (iW (B3V (A2K (B3S O9))) DYA)))))
 (gR 5 sc__law_line.nd E4 JJ
 (A3 (C3 (gO b1E B4)
 (oU 5 (BN (CHI nT)))
 B6)
 (A3 (C3 (BD6 aE (O8 (B72 B4)))
 (BKB U9 5 (BN (RU (BR2 "_law_j" (CHH IV)
 (BQY "_law_j")) (EK6 (F0 j p.mono (DV 1 (tI E4 (A8K A7 A7 (B3V BN0) UC))))))))
 B6)
 (A3 (CC0 DYA
 (BKB b7n 5 (iW (B3V (A2K (API (xM AO1)))) (FFD lB)))
 B6)
 (FH (wN AO1)))))))))]
  refine BBN 8 p1 a3;rw[XR (AV5 BZ3) a3];refine⟨a,b,p1,_,rfl,hP.same s1,A2,E5 hP a3,AKC 8,AKD 8,DQ r2 H2 b6 P2 f2⟩;obtain⟨x,rfl,hx⟩:∃x,r2=V.str x/\C4E:=by
   rw[A1Y hm (GR BZ3 (y∈Ws6))]
   rw[B0E y hy (show r2∈VZ (BZ3).map from b6)];rw[AU y e.symm (hm y hy)]
  have o2:=s1.off.trans f2;clear s1 f2 b6 a3;rw[FF];rw[EQ (A06 2) U Y];rw[eC X H2 B56 Y];rw[PJ a1 H2 U B56 U B56];generalize VI U B56=d5 at X a1;rw[AC a5 (P2.same X) c0 (o2.trans X.off)];refine AON _ (DC (UR U _ _ _ rfl rfl (DP a1) (two_gr _) ?_));clear X Y a1 P2 o2;rw[FF];obtain⟨G,b3,b2,a2⟩:fW G (B22 (EO decide (A9B x "rows")) (BG 40) 150=BMS/\G<=150/\(ALY->G<=40)):=by
   rw[VG ALY]
   .rw[BW 40 (XA (lL (by rw[AZ c decide_eq_true rfl]))) AH (D2 AH)]
   .rw[BW 150 (XA (BD (λz=>c (V.str.inj (of_decide_eq_true z))))) AH (λz=>absurd z c)]
  rw[b3];rw[FQ ⟨_,rfl,_,rfl,_,rfl,_,rfl,_,_,rfl,rfl,a,b,_,rfl,a5,by show OJ<C0J;omega,DU4 (C0J<=200),EE J d6 a9 I a6 a7⟩ (aX 9 a6 (λW c3 b0 b1 a0 a8=>nP (A06 3) pA a4))];rw[eC sA c3 [DO G,DO J,DO W] a4];refine⟨a,b,pA,_,rfl,a0.same sA,A2,E5 a0 a4,AKC 3,AKD 3,DQ r HB p PB fB⟩;have I:J<C0J:=I;obtain⟨L,rfl,M,c9⟩:fW m (yD r m/\C53/\(ALY->m<=40)):=by
   rw[DA7 p p]
   .rw[BW G e b2 a2]
   .rw[BW J.toNat (GT e (B45 J.toNat J)) AD (λz=>VC (a2 z))]
   .rw[BW W.toNat (GT e (B45 W.toNat W)) AD D2O]
  have oB:=(GK (CHZ c0.trans a7 a8) sA.off fB);clear c0 a7 a8 sA fB a5 a6 a0 a4 p a9 I b0 b1 b3 b2 a2;have c8:OJ<=A8J/\AIK A8J:=⟨AD,DU4 (A8J<=150)⟩;rw[CF (BBN 1 C O)];rw[PX sw HB B0J O];have l:IH HB C B0J C B0J:=A2;have Z:SG C:=E5 PB O;have fw:EN C:=a3d oB PB O;rw[AC PC (PB.same sw) t (oB.trans sw.off)];show(yO _) _ EXH;generalize EXH=HC at sw l PC t;clear sw PB oB O;rw[FF];rw[uZ (∃zs,CQ0 ASK (((uQ/\zs=[])∨(x≠rW/\zs=[A8J])))) ?f1]
  rotate_left
  .rw[ACZ];rw[VG uQ]
   .rw[AZ (dR (show A9B x "way" by rw[c])) C1 (F3F [] (uB c))]
   .rw[GG (decide_eq_false λz=>c (V.str.inj z)) D6 (eV C62 _ (a5g c8 (LC C _ _ rfl l (y9 (AG7 1)) (LY (TQ [A8J] A2 (U5 PC Z) (a3Q t fw) (BTQ c))))))]
  clear l PC t;rw[FF8 c2 hc];rw[uZ (∃zs,CQ0 ASK BH0) ?f2]
  rotate_left
  .refine BBN 2 pt d1;rw[eD st HC BY9 d1];rw[MK et HC pt (GN BY9) pt (AUT (D6X).map)];rw[dV l st l PC (PC.same st)];have t:=t.trans st.off;generalize YN HC pt BY9=HD at st et l PC t;refine⟨pt,_,rfl,QM et,rfl,FV,_,rfl,?_⟩;rw[F0R,(sK DRL).2];rw[VG (uQ∨BMZ)]
   .rw[GG (show A0P (EG uQ) D2T by simpa using c) D6 (AT4 C62 _ AD AD ?_)];rw[BZO];refine BC c3C a a b b (caps:=[RQ]) (λu=>∃z,u=B30 z/\(BDU)) AD rfl PC (CF1 H6 P6) λH6 p6 ys hl d2 P6 f6 d0=>?_
    .refine BHJ 4 P6 (λr7 H7 d9 e0 P7 f7=>nP (A06 4) p8 b5);rw[eC s8 H7 [AGI,AW9,DO r7,DO 301] b5];refine⟨a,b,p8,_,rfl,P7.same s8,A2,E5 P7 b5,AKC 4,AKD 4,DQ r H9 p P9 f9⟩;obtain⟨z,rfl,b8,b9⟩:∃z,yD r z/\0<=z/\z<=301:=by
      rw[FGX]
      rw[BFS 0]
      rw[BFS 1]
      .rw[BW r7 e AD AD]
      rw[BFS 301]
     exact a5g ⟨b8,iI b9⟩ (AJ q (HE z b8 b9) P9 (oD f7.trans s8.off f9))
    rw[EZ zs rfl d3 R a5f d2];rw[List.length_map]at hl;rw[AC s7 (MU H6 (o:=DW (zs.map λz=>B30 z)) d0) c5 (ANE (AJ f6 Z l))];refine⟨C,p6,_,_,rfl,rfl,c5,A2,?_,LY (TQ (c2++zs) ?_ (EDG s7 Z) (a3Q (oD t.trans f6 s7.off) fw) ?_)⟩
    .rw[List.length_map,List.length_map,List.length_cons,List.length_map];rcases hc with⟨_,rfl⟩|⟨_,rfl⟩<;>simp<;>omega
    .rw[A2,List.map_append,<-List.cons_append,List.map_append,List.map_map];rfl
    .rw[EC8 hc c1 c1]
     .exact lT ⟨c1,hl,R⟩
     .exact XN (cN (c.resolve_left c1) L zs M hl R)
   .rw[GG (show A8S ERV by simpa using c) C1 (F3F c2 ?_)];rcases hc with⟨c1,_⟩|⟨_,rfl⟩
    rw[nS .inl c1 c]
    refine .inl (AOJ L);have b7:=hx;simp only[Ws6,List.mem_cons,List.not_mem_nil,or_false]at b7;rcases b7 with e|e|e|e|e|e
    rw[GX ⟨e,M⟩]
    .exact XN ⟨C1F,M⟩
    .exact XN ⟨.inr e,M⟩
    .exact lT ⟨e,c9 e⟩
    rw[nS .inl e c]
    rw[nS .inr e c]
  clear l PC t hc;rw[FF8 zs hD];obtain⟨R,d3⟩:=hD.b;obtain⟨x1,x2,x3,_⟩:=DRL;rw[uZ (∃x' D S,CQ0 BDY (LnG n x' D S)) ?f3]
  rotate_left
  .refine aX 4 PC (λr1 H1 _ _ P1 f1=>JZ rfl _ (C6D mJ))
   .rw[JK ew1 E89 ⟨_,rfl,OW ew1,_,rfl,_,rfl,C,_,rfl,X3 ew1,_,_,rfl,rfl,a,b,_,rfl,P1,?_,?_,λr2 H2 d8 c6 P2 f2=>BBN 4 p3 b4⟩]
    .rw[B3O List.length_map List.length_cons]
    .rw[AYI List.length_map List.length_map];exact Int.lt_of_le_of_lt (show EU DDW+1<=20 by omega) FV
    rw[PX s3 H2 (AV5 [wd "",BT8,wd "01",A7D]) b4];rw[F6J b4 (DQ r H4 p P4 f4)];obtain⟨y,rfl,hy⟩:∃y,r=V.str y/\DI8:=by
     rw[A1Y h7 (BT8∈Bd7/\A7D∈Bd7)]
     rw[FGX]
     .exact ES e (lT rfl)
     .exact ES e (ED h7.1)
     .exact ES e (XN rfl)
     .exact ES e (ED h7.2)
    rw[AC c4 (AJ f4 Z (nQ (AJ f2 Z ew1))) o4 (GK (CHZ t.trans f1 f2) s3.off f4)];rw[BZV List.length_cons List.length_map c6];rw[F60 kk];obtain⟨x',D,S,hE,c7⟩:=c2O (k:=kk) hx hD hy AD;refine⟨C,_,kk,_,rfl,rfl,c4,EVA,EVA,LY (LC x' D S ?_ (U5 P4 Z) (a3Q o4 fw) c7)⟩;rw[A2,<-hE];simp only[List.map_append,List.map_cons,List.map_take,List.map_drop]
   .exact LY ⟨x,_,BBQ,rfl,E89,P1,t.trans f1,x2,x3,A0V,RdS.zs R,DC (D4 zs hD)⟩
  clear l PC t;rintro σ HC ⟨x',D,S,rfl,l,PC,t,hL⟩;have e1:=hL.n9;have hB:GR BDY AM7:=λy hy=>by
   rw[QI (AN0 hy) hy]
   .exact hL.xl
   .exact(hL.rd.wg hy).1
  have hj:iS BDY<=_:=AYF 32 60 hB;rw[List.length_cons]at hj;exact⟨rfl,_,rfl,bk,C,BDY,60,rfl,rfl,DP l,hB,DWK A1R,AD,oQ k hL PC t⟩
noncomputable def osV:vF->V
 |AO t=>.str t
 |none=>.non
inductive spSd(C:qE)(vs:A0)(H:Hp)(Q:VK)(y_3:XK):Prop
 |mk (p:qE) (x:Str) (ws:AA) (os:AK) (ns:AA) (rss:LLI) (ss:qI) (cs:AK) (ps:qI) (_:DPS) (_:kB) (_:A3W) (_:EXZ) (_:B3B a CLB (A4S osV a)):oY spSd
def sc__law_said:DA ["_law_desk","_law_line_here","_law_answer"] ["_law_desk","_law_line_here"] a1j:={}
def c5G{j:qE}(F:ZM "_law_said" a1j "_law_desk" "_law_line_here")(e:VL)(g:EZK (spSay C j))(b:sD "NoLine" j)(d:CGP j):AEQ base "_law_said" 13 ["_law_desk","_law_line_here"] (spSd C):=by
 rw[BO sc__law_said o m u]
 rw[BI1 x ws os]
 .rw[FMA];obtain⟨dx,v,r,s',c,q,us,e1,_⟩:=hD.ex;rw[BU (CA 2 sc__law_said.nd L6
 (A3 (c2Y K (c6m (i:=2) g e (JP u.mono) sc__law_said.nd rfl (Or.inl rfl) DY IV) rfl b d (D2 ((B7W 2 sc__law_said.nd L6))))
 ARU))]
  refine⟨_,rfl,p,dx,_,rfl,e1,rfl,_,rfl,p,x,ws,os,ns,rss,ss,cs,ps,rfl,hD,hG,hL,BH a n⟩;cases a with
  |some t=>exact A2N (DJ (AJ k n s'))
  |none=>exact A2N (AON j (λp' l=>DJ (k none _ n (s'.upd l))))
#where
#where
section
variable {H:Hp}{us:A0}
def DkAt.pot{C:qE}{H H':Hp}{p a b:qE}{ns:AA}{rss:LLI}{ss:qI}{cs:AK}{ps:qI}(h:kB)(hp:SG p)(P:NW)(o:NF):EJO:=by
 rw[COQ d i j e f g];exact⟨dx,n,r,t,c,q,us,AJ o hp e1,BFD e2 e2,BFD d d,Its.pot i P o,j,AJ o (J9 P e) e,BFD f f,BFD g g⟩
def SysAt.put{H:Hp}{v:V}{ns:AA}{rss:LLI}{ss:qI}{cs:AK}{ps:qI}{l:qE}{xs:A0}{o:HO}(h:SysAt H v ns rss ss cs ps)(a:YB):SysAt DMH v ns rss ss cs ps:=by
 rw[FL3 x];have k:∀{y:qE}{zs:A0},VU y zs->upd H l o y=BK .tup zs:=λq=>EJT QJ
 exact⟨x,n,r,t,c,p,us,e,k e1,k e2,k b,d.put a,k f,k g,k i⟩
def DkAt.put{C:qE}{H:Hp}{p:qE}{ns:AA}{rss:LLI}{ss:qI}{cs:AK}{ps:qI}{l:qE}{xs:A0}{o:HO}(h:kB)(a:YB):BJR (DkAt C DMH p ns):=by
 rw[COQ b e f g i j];have k:∀{y:qE}{u:HO},ID y u->(u≠B2E)->IH H l o y u:=λq d=>EJT d
 exact⟨dx,n,r,t,c,q,us,k e1 QJ,k e2 QJ,k b QJ,e.put a,f,k g QJ,k i QJ,k j QJ⟩
structure Sy where
 ns:AA
 rss:LLI
 ss:qI
 cs:AK
 ps:qI
variable {S:Sy}{Ss:ABL}
noncomputable def Sy.At(S:Sy)(H:Hp)(v:V):Prop:=SysAt H v S.ns S.rss S.ss S.cs S.ps
noncomputable def Sy.Dk(S:Sy)(C:qE)(H:Hp)(p:qE):Prop:=CRA S.ns S.rss S.ss S.cs S.ps
noncomputable def Sy.G(S:Sy):Prop:=FDG Sg5
noncomputable def Sy.T(S:Sy):Str:=ptW (F7E a3E S.ps)
noncomputable def Ea(R:CGS)(us:A0)(Ss:ABL):Prop:=us.length=Ss.length/\∀(i:Nat) (v:V) (S:Sy),A51 us->CC Ss S->CEI
def Ea.imp{R a:CGS}(h:BWV R)(f:∀S v,CEI->a S v):Ea a us Ss:=A5U (EU9 (f S v (DK i v S e1 e2)))
def Ea.at{R:CGS}(h:BWV R){k:Nat}(e:CM2):∃v,lQ (atI us LW)/\CEI:=by
 have a:k<us.length:=by rw[CB];exact A3K
 rw[AU us[k] (K0 (List.getElem?_eq_getElem a)) (DK k _ S sV e)]
inductive DkV(C:qE)(H:Hp)(S:Sy)(v:V):Prop
 |mk (p:_) (_:BA6) (_:CJ1):F7Y
def DkV.mono{C:qE}{H':Hp}{v:V}(h:F7Y)(f:∀p,CJ1->S.Dk C H' p):DkV C H' S v:=by
 rw[IJ p e d h p e (f p d)]
structure As1(H:Hp)(Ss:ABL)(v:V):Prop where
 ex:∃(t:qE) (k:Nat) (x:Str) (ws:AA) (os:AK) (S:Sy) (a:vF),rP t/\VU t (CTQ DEV)/\CM2/\LnG S.ns.length x ws os/\F7E Said S.ps x os a
def As1.tk{H':Hp}{v:V}(h:As1 H Ss v)(k:E21 EHH):D9X:=by
 obtain⟨t,i,x,b,os,S,a,e,h1,h2⟩:=h.ex;exact⟨t,i,x,b,os,S,a,e,DUL,h2⟩
structure St5(C:qE)(H:Hp)(a b l lt ld:qE)(us ds:A0)(Ss:ABL):Prop where
 P:NW
 g:∀S∈Ss,S.G
 n2:Ss.length=2
 L:TY l us
 ql:C66
 u:F3V H
 T:TY lt A9G
 qt:DLX
 D:TY ld ds
 qd:DLY
 d:Ea (DkV C H) ds Ss
section
variable {C:qE}{H':Hp}{a b l lt ld pq:qE}{ds zs:A0}
def St5.same(h:CAK)(s:BL):BCI :=
 ⟨h.P.same s,h.g,h.n2,GQ h.L,h.ql,D4D h.u.imp s,GQ h.T,h.qt,GQ h.D,h.qd,CFL h.d.imp s⟩
def d1z{p:qE}(P:NW)(h:CJ1):SG p:=by
 obtain⟨dx,n,r,t,c,q,us,e1,_⟩:=DkAt.ex h;rw[CPS d P (XE e1 h1) (XE e1 h2)]
def St5.pot(h:CAK)(P:QN)(o:NF):BCI :=
 ⟨P,h.g,h.n2,AJ o h.ql h.L,h.ql,bJ h.u.imp q (SysAt.pot q h.P o),AJ o h.qt h.T,h.qt,AJ o h.qd h.D,h.qd,CZM h.d.imp (DkAt.pot r (d1z h.P r) h.P o)⟩
def St5.put{o:HO}(h:CAK)(e:TY pq zs)(q:DLZ)(c:pq≠l)(d:pq≠lt)(f:pq≠ld):AXR C (rH pq) :=
 ⟨U5 h.P q,h.g,h.n2,GI c.symm h.L,h.ql,bJ h.u.imp r (SysAt.put r e),GI d.symm h.T,h.qt,GI f.symm h.D,h.qd,bJ h.d.imp r (r.mono λ_ r=>DkAt.put r e)⟩
#where
section
variable {P:qG}{w:World}{K:qF}{mg:BF}{base:Heap}
def b5t{c x dx:qE}{R:BA0}{E:XK}(f:S.G)(n:C28)(g:DGQ)(h:BC3)(k:∀H',BL->S.Dk c H' x->R H'):spKInit c [AI x,.str S.T] DYX (D7G (R H2)) E:=by
 obtain⟨d,hd,l,m,q,r,s⟩:=c8q f.k;rw[fN hw i a7K f.k];have t:=f.k.n7;rw[CPC j h.symm n]
 rw[BBK u DYX g j ⟨x,dx,FDG a3E,d,rfl,A2,by unfold a3E;exact BZ List.cons_ne_nil,hw,~~~c1e i,hd,AE l t,AE m f.k.rl,λp a kp=>vK⟩];rw[l,m,q,r,s]at a;exact k p (CK8 u (A8 e n)) a
def b9K(a:vF):AY (c8w (osV a) DEV):=BZF a
noncomputable abbrev d2c(C a0 a b l lt ld pq:qE)(sh:Int)(us ds:A0)(Ss:ABL)(i:Nat)(σ:L2.St)(H':Hp):Prop:=∃(o7 o8 o9 o10:aJ) (ys:A0),σ=FJE/\BCI/\iQ pq ys/\AK6/\EH0
noncomputable abbrev d2b(C a0 a b l lt ld pq:qE)(sh:Int)(us ds:A0)(Ss:ABL)(ys:A0)(o7:aJ)(pr:qE)(zs:A0)(σ:L2.St)(H':Hp):Prop:=∃(o8 o9 o10:aJ),σ=FJE/\BCI/\iQ pr zs/\EH0
def c4q{c a:Sy}(h0:c.G)(h1:a.G)(e:a.ns.length=c.ns.length):Sy.G ⟨c.ns,a.rss,a.ss,a.cs,a.ps⟩ :=
 ⟨⟨h0.k.nm,h0.k.n1,h0.k.n7,h1.k.rl,λr b=>⟨EEB h1.k.rw,CCT h1.k.rw⟩,h1.k.sl,h1.k.sb,h1.k.cl.trans e,h1.k.cb,h1.k.pl.trans e,h1.k.pb⟩,λr b=>⟨EEB h1.r3,CCT h1.r3⟩⟩
def sc_law:DNG ["_law_script","_law_pot_here","_law_systems","_law_shared","_law_texts","_law_desks","_law_asked","_law_turn","_law_k","_law_line_here","_law_due"] a5L:={}
def c9r{CD:qE}{f:qE}{fd:FuncData}(F':Fun K "law" "law" a5L f fd)(T:AV)(O:F1N)(B:AEL)(d:F3E)(I:F3D)(Z:BT3 base "Desk" CD 11 (WC "text") (spKInit CD))(M:FA4)(C:AEQ base "_law_said" 13 ["_law_desk","_law_line_here"] (spSd CD)) :
  F53 (AHJ base CX0 14 f):=by
 refine F'.okJ sc_law (DQ vs H Q E h) (λg5 A g1 s H vs Q E U h=>?_)
 rw[TJ a ns]
 .obtain⟨a0,cs,rfl,hS,hl,kk⟩:=h;rw[iO hz]
  rw[BU (CA 1 sc_law.nd (AK2 O WH)
 (gR 2 sc_law.nd E4 (iW EJR EJR)
 (CA 3 sc_law.nd ELT
 (A3 (AEB (B3S a8e) (K3 EA8 EA8)
 (E9F (a3n (a8g K AAQ J2 AJK) (a8g K AAQ AJK J2)))
 B6)
 (A3 (C3 (B3S K3)
 (E9F AAQ)
 B6)
 (eM (EZF 4 "_law_system" (AJ6 2)
 (mL "_law_system")) pT (AK2 I WH)
 (eM (EZF 5 "_law_text" (AJ6 4)
 (mL "_law_text")) pT (ESM WH)
 (ADE 6 sc_law.nd
 (A3 (mX (CHH UC) 7 sc_law.nd
 (CA 8 sc_law.nd ELT
 (CA 9 sc_law.nd (AK2 M (A2U (D9Y (CIG aE))))
 (oU 6 (tI O8 (DV 8 (DV 9 (BN (ELS (ESM (BN (CIG C1E))))))))))))
 (A3 (K4 (AC1 (GC d1w 6 (c9S K (jv 6) (Y7 A7)))) (J3 K 3 (B5 (C2I 8) (AUS (C2I 9) (C2I 10))))
 (A5 (C3 (b1E (ELS (CIG ABZ)) (jv 10))
 jC
 B6)))
 jC))))))))))]
  refine tM _ rfl a0 cs hS (BJ 0x69c5bc7698434e96a5 hl) (λa b H1 _ _ P1 _=>?_);rw[CF (ZV a b P1 (λv0 c6 a3 d0 a9 c8 H2 f4 c3 d9 P2 _=>(ZV a b P2 (λY c7 a4 d8 b0 c9 H3 f6 c4 e0 P3 o3=>(nP (BB3 c0L) l hl)))))];have L:Sy.At ⟨c6,a3,d0,a9,c8⟩ H3 v0:=f4.pot P2 o3;have X:Sy.At ⟨c7,a4,d8,b0,c9⟩ H3 Y:=f6;have G0:Sy.G ⟨c6,a3,d0,a9,c8⟩:=F4W c3 c3.rw d9;have G1:Sy.G ⟨c7,a4,d8,b0,c9⟩:=F4W c4 c4.rw e0;generalize Sy.mk c6 a3 d0 a9 c8=S0 at L G0;generalize Sy.mk c7 a4 d8 b0 c9=R at X G1;clear f4 f6 c3 c4 d9 e0 o3 P1 P2;rw[eC s4 H3 A9A hl];rw[PJ D H3 l A9A l A9A];have ql:C66:=E5 P3 hl;rw[AC P4 (P3.same s4) L (SysAt.same L s4)];have X:=SysAt.same X s4;generalize GO H3 l A9A=H4 at s4 D P4 L X;clear s4 hl P3;rw[CF (aX 4 P4 (EE sh H5 _ _ P5 f5))];rw[AC D (AJ f5 ql D) L (SysAt.pot L P4 f5)];have X:=SysAt.pot X P4 f5;clear f5 P4;rw[FF];rw[FM0 ?f1]
  rotate_left
  .refine BMK (C6D (D2 (C1 (CPP Y))));obtain⟨t0,n0,r0,s0,c0,p0,g2,rfl,b1,b2,b3,b4,b5,b6,b7⟩:=SysAt.ex L;obtain⟨t1,n1,r1,s1,c1,p1,g3,rfl,d1,d2,d3,d4,d5,d6,d7⟩:=SysAt.ex X;refine⟨_,rfl,l,_,1,C0K,rfl,rfl,B7E,rfl,t1,_,0,AI n1,rfl,rfl,GE d1,rfl,n1,_,rfl,QM d2,_,rfl,l,_,0,C0L,rfl,rfl,B7E,rfl,t0,_,0,DE5,rfl,rfl,C1V,rfl,n0,_,rfl,DLD,rfl,_,rfl,BJ8 (D2 (CPP C0K))⟩;have e:R.ns.length=S0.ns.length:=by
    rw[A20 E6A List.length_map List.length_map];rw[rY b3G]
   refine FJI 0 C0L B7E t0 C1V (bP (¬(HT.sIx 5 0 none=0/\EOG 5=5))) (BH q1 f9);rw[eD u1 H5 D38 f9];rw[UV (FJI 1 C0K (DP (ANF u1)) t1 (bQ u1 d1) (bP (¬(EOG 0=0/\HT.sIx 5 5 none=5))) (BH q2 f0)) u2 u1.upd (GN DBG) f0];refine⟨q1,q2,D38,DBG,rfl,rfl,A9W (AM6 _ f0) A2,A2,AEA 5 0x697483a7a0a4b17d6d,BS p H6 G e6⟩;rw[AC G (u2.trans G) a5 (cP D)];refine UR l _ 1 1 rfl rfl a5 rfl (LY ⟨II,⟨S0.ns,R.rss,R.ss,R.cs,R.ps⟩,rfl,A2,U5 (P5.same G) ql,SysAt.put (SysAt.same L G) a5,?_,c4q G0 G1 e⟩);have k:∀{y:qE}{zs:A0},H6 y=BK .tup zs->B2L H6 l [AI t0,II] y=BK .tup zs:=λq=>GI (F6 q a5 QJ) q
   exact⟨p,n0,r1,s1,c1,p1,g3,rfl,k e6,ARA b2,ARA d3,(d4.same G).put a5,ARA d5,ARA d6,ARA d7⟩
  rw[FLT];rw[FM0 ?f2]
  rotate_left
  .refine IE (C6D (D2 (CPP Y)));exact⟨_,rfl,l,_,0,v0,rfl,rfl,B7E,rfl,_,rfl,l,_,1,1,rfl,rfl,D,rfl,LY ⟨v0,S0,rfl,A2,U5 P5 ql,EKF,EKF,G0⟩⟩
  rw[FLT];obtain⟨Ss,a1⟩:∃Ss,Ss=[S0,R]:=QD;obtain⟨us,a7⟩:∃us,us=A9A:=QD;rw[XJ hg S Ss S.G S hS (by
   rw[a1]at hS;rw[QI (AN0 hS) hS]
   .exact G0
   .rw[AB (DCS hS) G1])]
  have n2:Ss.length=2:=by rw[a1];rfl
  have hu:F3V H5:=⟨UH a7 a1,EU9 (by
   rw[a7]at e1;rw[a1]at e2
   match i,e1,e2 with
   |0,e1,e2=>rw[CI9];exact L
   |1,e1,e2=>rw[CI9];exact X
   |i+2,e1,_=>cases e1)⟩
  rw[<-a7]at D;clear L X G0 G1 a1 a7;have g0:us.length=2:=AAM hu n2;refine aH l D;rw[ER (wM a1X us Ss (λS=>DWA) (~~~c1g hz g0) hu.1 (A2V D) rfl (λi v S H6 Q6 F e5 G k6=>?_)) H6 lt G a2]
  .exact⟨_,rfl,v,S.ns,S.rss,S.ss,S.cs,S.ps,rfl,SysAt.same (hu.2 i v S F e5) G,(hg S (A68 e5)).k,k6⟩
  rw[AOB s7 G.upd A9G a2];rw[PJ et H6 lt A9G lt A9G];have qt:DLX:=E5 (P5.same G) a2;have nt:lt≠l:=λz=>by rw[S1 z (cP D) a2 a2]
  generalize GO H6 lt A9G=H7 at s7 et⊢;rw[vS P7 P5.same s7 D s7 D];have hu:=E6S s7;clear G s7 a2 P5;rw[CF (aH lt et)];refine R8 (xs:=A9G) (IL (c1g hz n2)) (OM ys (ANR H7/\Ea (DkV CD H') ys (Ss.take i))) (D4 rB (λi v S e _=>A9N)) (NM ys (ECL (AG CB et))) ?_ ?_
  .rintro i v ys H8 F ⟨s8,h8⟩;rw[A3Q F S hS F];rw[B95];rw[VE FBC];refine F7D (MA hg S hS) λH9 s9 hD=>HJ (s8.trans s9);have h8:=CFL h8.imp s9;rw[B65 hS];rw[EC (BWO h8.1) (DQ j v S' e1 e2)];rw[BM (Nat.lt_or_ge j ys.length)]
   .rw[List.getElem?_append_left z]at e1;rw[A6B List.getElem?_append_left h8.1 z]at e2;exact h8.2 j v S' e1 e2
   .rw[List.getElem?_append_right z]at e1;rw[A6B List.getElem?_append_right h8.1 z,<-h8.1]at e2;generalize j-ys.length=m at e1 e2;cases m with
    |zero=>rw[CI9];rw[NH p hD]
    |succ m=>cases e1
  rintro ds H8 ⟨s8,hd⟩ ld a6;rw[C7M hd];rw[AOB s9 s8.upd ds a6];rw[PJ ed H8 ld ds ld ds];have qd:DLY:=E5 (P7.same s8) a6;have hd:=CFL hd.imp (AO5 H8 (DW ds) a6);generalize GO H8 ld ds=H9 at s9 ed hd⊢;have S9:AXR CD H9:=⟨P7.same s9,hg,n2,ANF s9,ql,E6S s9,AG s9 et,qt,ed,qd,hd⟩;clear s8 s9 a6 P7 D et ed hu hd;rw[FF];rw[aR pq J];rw[CNG q1 l S9.L]
  rw[CNG q2 lt S9.T]
  rw[CNG q3 ld S9.D]
  have qq:DLZ:=E5 S9.P J;have a8:=wD S9.same H9 OO J;rw[CF ⟨12,rfl,AH,AH,?_⟩];rw[CJU (n:=12) (FJT d2c) ⟨none,none,none,none,[],rfl,a8,A2,GH,λv F=>nomatch F⟩]
  .clear S9 a8 J;rintro i σ H1 hi ⟨o7,o8,o9,f7,ys,rfl,St,eq,c5,W⟩;have hi:i<12:=hi;rw[CF (aX 2 St.P (EE r2 H2 g6 f8 P2 f2))];rw[F60 k];have hk:k<Ss.length:= AR 0x7c377f7fff682985aca6 n2 f8
   obtain⟨S,eS⟩:∃S,CM2:=(EM (KA hk));rw[AC W (AEK (AJ f2 E5Q e)) eq (AJ f2 qq eq)];rw[AC St (St.pot P2 f2) hG E9J];clear f2 P2;rw[DI v ev F St.u.at eS];obtain⟨t0,n0,r0,s0,c0,p0,g2,rfl,b1,b2,_⟩:=SysAt.ex F;rw[CF ⟨_,rfl,_,rfl,_,rfl,l,_,_,C0L,rfl,rfl,DP St.L,ev,t0,_,0,DE5,rfl,rfl,C1V,rfl,n0,_,rfl,DLD,a,b,S.ns.length,C6V,St.P,hG.k.n1,hG.k.n7,λx ws os H3 hL P3 f3=>?_⟩];rw[AC W (AEK (B77 E5Q e)) eq (B77 qq eq)];have St:=St.pot P3 f3;clear f3 P3 b1 b2 F ev;rw[CF (tM _ rfl (OW eq) _ _ rfl ?_)];refine⟨_,rfl,_,rfl,lt,_,_,DWA,rfl,rfl,DP St.T,E4O eS,FBC⟩;refine EB (F7D hG) H4 s4 hD;rw[AC W (AEK (ABQ e)) eq (ABQ eq)];have St:=St.same s4;clear s4;rw[UV ⟨_,rfl,p,x,ws,os,S.ns,S.rss,S.ss,S.cs,S.ps,rfl,hD,hG,E3T,λan H5 b8 s5=>nP (AEA 3 0x696e11a51062b17d6d) t ht⟩ G s5.upd (GN B5H) ht];rw[eN e6 H5 t B5H t B5H];rw[B6I H5 t B5H H6 G e6];rw[AC W (AEK (cP e)) eq (cP eq)];have St:=St.same G;clear s5 G ht hD;refine⟨pq,ys,_,rfl,rfl,eq,AD,_,_,_,_,DOH,rfl,St.put eq qq q1 q2 q3,A2,EVB c5,BH u hu⟩;have tk:∀c xs,H6 c=BK .tup xs->B2L H6 pq DOH c=BK .tup xs:=λc xs e=>GI (F6 e eq QJ) e
   rw[BM (A9L hu)]
   .exact(W u z).tk tk
   .rw[ZF];exact⟨t,k,x,ws,os,S,an,rfl,AG tk e6,eS,hL,b8⟩
  clear S9 a8 J;rintro σ H1 ⟨o7,o8,o9,f7,ys,rfl,St,eq,c5,W⟩;refine⟨_,rfl,_,rfl,_,rfl,rfl,pq,ys,rfl,DP eq,BH pv e9⟩;rw[eC s2 H1 ys.reverse e9];rw[UV ⟨pq,pv,_,_,rfl,rfl,UW eq,A2,AJT List.length_reverse 0x1fecfc2ed0b8451a774399a9f17d6e hz c5,EBB pr e8 pr⟩ s3 s2.upd (DW A99) e8];rw[PJ e3 EMZ pr A99 pr A99];generalize GO EMZ pr A99=H3 at s3 e3;rw[AC W (AEK (nQ e)) St (St.same s3)];clear s2 s3 e9 e8 eq;refine VF O5 pr A99 (D2 (FJT d2b ys o7 pr A99)) (AH8 _ St e3 W) (λi σ H2 _ h=>?_) ?_ ?_
  .rw[B6K e];exact SqL.of e
  .clear St e3 W;rintro i v σ H4 F ⟨o8,o9,f7,rfl,St,e4,W⟩;have F:DKU:=by
    rw[mQ (B6O List.mem_append.mp F)]
    rw[NT]
    .exact List.mem_reverse.mp z
   obtain⟨t,k,x,ws,os,S,an,rfl,et,eS,hL,b8⟩:=(W v F).ex;have hG:=E9J;obtain⟨u,ed,p,rfl,hD⟩:=St.d.at eS;refine FMC t et _;rw[CSR];refine⟨_,rfl,_,rfl,ld,_,_,II,rfl,rfl,DP St.D,ed,_,rfl,p,x,ws,os,S.ns,S.rss,S.ss,S.cs,S.ps,rfl,hD,hG,E3T,λg4 H5 e7 s5=>sW⟩;rw[e7.one b8];refine C55 (b9K _);rw[AZ CU6 C1 (AH8 _ (St.same s5) C88 (AEK (iG e)))]
  .rintro σ H4 _;exact kk _
#where
#where
universe K53
namespace L2
open PySem PySem.Spec PyProof.Rows
open PySem.W
variable {K:qF}{h:Heap}{mg:BF}{x qn m:Str}{st:Stmt}{C:qE}
structure FG(K:qF)(x:Str)(st:Stmt):Prop where
 ex:FLD (CNB/\ERL/\E2K/\BAM)
structure MG(K:qF)(C:qE)(m qn:Str)(st:Stmt):Prop where
 ex:FLD (F2C/\DOM/\ERM/\E2L/\BAM)
def FG.fa(g:BB x st)(X:B7L)(G:B40){ps:AA}
  (f:BSK e d (CP0 ENV e d):=by intro _ _ _ _ _ _ _ b;first | rw[CGI (c9D b)] | (rw[AL8 (c9C b)];rfl) | rw[ECR (c9B b)] | (obtain⟨_,_,_,_,rfl⟩:=d1r b;rfl) | (obtain⟨_,_,_,_,_,rfl⟩:=d1M b;rfl)):ATE:=let ⟨_,_,_,_,_,_,_,_,_,_,a,l,c,k⟩:=g.ex;d1y X G a l c k f
def MG.ma(g:MG K C m qn st){ps:AA}
  (f:FCW:=by intro _ _ _ _ _ _ _ e;first | rw[CGI (c9D e)] | (rw[AL8 (c9C e)];rfl) | rw[ECR (c9B e)]):E3A:=let ⟨_,_,_,_,_,_,_,_,_,_,a,i,l,c,k⟩:=g.ex;d1o a i l c k f
universe L2
namespace K53
open PySem PySem.Spec PyProof.Rows L2
open PySem.W
noncomputable def nI(K:qF)(x:Str)(f:qE):Prop:=CNB
def all_mk{l:PySem.W.OpenLaw}{w:World}{K:qF}{h:Heap}{mg:BF}{fa:qE}(X:B7L)(G:B40)(s4:sD "law" fa)
 (g1:BB "free" b2T)
 (g2:BB "within" a5H)
 (g3:BB "row_sum" a3I)
 (g4:BB "sums" b2P)
 (g5:BB "is_answer" a1h)
 (g6:BB "pull_of" a3J)
 (g7:BB "falls" a8Z)
 (g8:BB "below" a9a)
 (g9:BB "plus" b2R)
 (n1:BB "minus" a8X)
 (n2:BB "times" a8T)
 (n3:BB "size" b2Q)
 (n4:BB "nought" a5K)
 (m8:BB "unit" b2O)
 (n5:BB "least_of" a2y)
 (n6:BB "above_any" a1i)
 (n7:BB "first_steps" Z6)
 (n8:BB "raised" a5I)
 (n9:BB "steps" a8U)
 (o0:BB "is_barred" a1g)
 (o1:BB "next_level" a0y)
 (o2:BB "least" a8Y)
 (o3:BB "together" a2t)
 (o4:BB "often" a8W)
 (o5:BB "laid" b2S)
 (o6:BB "narrowed" a2x)
 (o7:BB "by_rows" a3M)
 (o8:BB "cost" b2U)
 (o9:BB "cheapest" a2z)
 (p0:BB "is_name" a3K)
 (p1:BB "is_written" a0z)
 (p2:BB "read_figures" V6)
 (p3:BB "read_number" Z5)
 (p4:BB "parted" a5J)
 (p5:BB "read_term" a1f)
 (p6:BB "read_terms" a0w)
 (p7:BB "read_sum" a2w)
 (p8:BB "take_number" Z1)
 (p9:BB "take_all" a2u)
 (q0:BB "read_system" Z4)
 (q1:BB "show_vector" Z2)
 (q2:BB "show_term" a1e)
 (q3:BB "show_terms" a0v)
 (q4:BB "show_row" a2v)
 (q5:BB "show_numbers" V5)
 (q6:BB "show_system" Z3)
 (q7:BB "sided" a8V)
 (q8:BB "sided_caps" a0t)
 (q9:BB "ending" a5N)
 (r0:BB "beyond" a5O)
 (r1:BB "next_place" a0x)
 (r2:BB "way" b8R)
 (r3:BB "is_line" a3L)
 (r4:BB "filled" a5M)
 (r5:BB "show_vectors" V4)
 (r6:BB "show_times" a0u)
 (r7:BB "_law_pot" a2A)
 (r8:BB "_law_next" a1k)
 (r9:BB "_law_of" a3N)
 (s0:BB "_law_names" a0B)
 (s1:BB "_law_small" a0A)
 (s2:BB "_law_line" a1l)
 (s3:BB "_law_said" a1j)
 (a64:vD "law" f64) (s6:FnL K f64 "law" "law" a5L o64 d64 s64 v64 x64 p64 n64 c64 t64) (m7:BQR c64 "law") (s5:pY keepIn (AI f64))
  (z1:NV "ValueError") (z2:NV "abs") (z3:NV "all") (z4:NV "any") (z5:NV "enumerate") (z6:NV "int") (z7:NV "isinstance") (z8:NV "len") (z9:NV "list") (s7:NV "max") (s8:NV "min") (s9:NV "range") (t0:NV "set") (t1:NV "sorted") (t2:NV "str") (t3:NV "sum") (t4:NV "tuple") (t5:NV "zip")
  {f:qE}(e4:vD "TooMany" f) {d:qE}(c3:vD "NoAnswer" d) {A:qE}(h6:vD "NoLine" A) {a:qE}(h5:vD "Finder" a) {b:qE}(k2:vD "Draft" b) {c:qE}(l5:vD "Desk" c) {j8:Tok}(e5:ASU "FIGURES" (AE3 "0123456789" j8)) {j9:Tok}(e6:ASU "LETTERS" (AE3 "abcdefghijklmnopqrstuvwxyz" j9)) {m6:Tok}(m4:ASU "TOP" (YO 1000000000000 m6)) {J:Tok}(u:ASU "GREATEST_MOST" (YO 2000 J)) {a1:Tok}(D:ASU "GREATEST_WAY" (YO 300 a1)) {f9 g0:Str}{q:qE}{e9 g e2:AN}{f2 e7:Bool}{h0:AA}{c7:sU}{f1:IN}{f3 f4 f5 f6 f7:TR}(lx_TooMany:zI f (C0E (AHE f9 g0 f q e9 g f2 h0 e2 e7 c7 f1) f3 f4 f5 f6 f7)) (O:CID g) (N:DKH q) (M:C6E q) (e8:A07 g.contains) {d8 e0:Str}{k:qE}{c6 i c0:AN}{c9 c4:Bool}{e1:AA}{b4:sU}{c8:IN}{d1 d2 d3 d4 d5:TR}(x:zI d (C0E (AHE d8 e0 d k c6 i c9 e1 c0 c4 b4 c8) d1 d2 d3 d4 d5)) (e3:CID i) (d9:DKH k) (d0:C6E k) (c5:A07 i.contains) {j1 j5:Str}{C:qE}{h9 r h1:AN}{i2 h7:Bool}{j7:AA}{f0:sU}{i0:IN}{i4 i5 i6 i7 i8:TR}(a4:zI A (C0E (AHE j1 j5 A C h9 r i2 j7 h1 h7 f0 i0) i4 i5 i6 i7 i8)) (k0:CID r) (j2:AX6 PySem.W.nsOkIn) (i3:C6E C) (h8:A07 r.contains) (m5:PR (RH (AMO (Value.ref f) g) d)) {a3:qE}{oL:Obj}{nL:Nat}{u1 u2 u3 u4:Tok}(k3:vD "LISTS" a3) (k6:zI a3 oL) (cl_LISTS:(oL.cls,oL.data)=(C9B,Data.seq #[AE3 "least" u1,AE3 "beyond" u2,AE3 "cheapest" u3,AE3 "rows" u4] nL)) (j3:CIB a) (i1:C4U a) (j4:C4V a) (j6:CIZ CM) (j0:C4W a) (i9:B34 CM) (b3:ACY "rows") (b1:ACY "caps") (Z:ACY "begun") (b2:ACY "here") (a0:ACY "found") (I:ACY "walked") (k8:CIB b) (k4:C4U b) (k9:C4V b) (l0:CIZ GV) (k7:C4W b) (k5:B34 GV) (a9:APP "names") (b9:APP "rows") (b0:APP "sides") (b8:APP "caps") (Y:APP "prices") (m0:CIB c) (l6:C4U c) (m1:C4V c) (m2:CIZ ZC) (l9:C4W c) (l7:B34 ZC) (b6:APQ "names") (d7:APQ "rows") (b7:APQ "sides") (d6:APQ "caps") (a8:APQ "prices") (m_Finder___init__:A33 "__init__" "Finder.__init__" N9) (l8:A33 "step" "Finder.step" a7o) (j:A33 "step_within" "Finder.step_within" K1) (l1:A33 "level" "Finder.level" a5P) (a7:A33 "told" "Finder.told" Z7) (W:A33 "paper" "Finder.paper" V7) (U:A33 "ended" "Finder.ended" V8) (y:APN "__init__" "Draft.__init__" Q8) (b5:APN "take" "Draft.take" a0C) (o:APN "take_names" "Draft.take_names" M9) (z:APN "take_sum" "Draft.take_sum" Q5) (a6:APN "whole" "Draft.whole" Z8) (E:A34 "__init__" "Desk.__init__" T0) (f8:A34 "say" "Desk.say" a2B) (a5:A34 "say_by" "Desk.say_by" Z9) (F:A34 "say_rows" "Desk.say_rows" S8) (m:A34 "say_cheapest" "Desk.say_cheapest" L7) (S:A34 "say_way" "Desk.say_way" V9) (R:A34 "say_lay" "Desk.say_lay" W3) :
  ∃fd:FuncData,(BYQ v [v] "_law_script" v)/\BYK C8X (F53 (D9S K base CX0 14 fa)):=by
 have e:=s4.symm.trans (yT a64);rw[CI];have T:AV:=⟨NU z1,NU z2,NU z3,NU z4,NU z5,NU z6,NU z7,NU z8,NU z9,NU s7,NU s8,NU s9,NU t0,NU t1,NU t2,NU t3,NU t4,NU t5⟩;rw[FK (fnOf "law" "law" (S3 a5L) (F8 a5L) (A4 a5L) .none v64 x64 p64 n64 c64 t64) (λs v=>.of_eq rfl) (EI base XB GB)];rw[BE2 p e4 L c3];rw[BE2 c1 h6 k1 h5];rw[BE2 l2 k2 m3 l5];rw[BE2 h3 e5 h4 e6];rw[AC c2 (yT m4) B (yT u)];have Q:=yT D;have a2:Cls K a:=⟨j3,i1,j4,j6⟩;have n:Cls K b:=⟨k8,k4,k9,l0⟩;have t:Cls K c:=⟨m0,l6,m1,m2⟩;rw[AC FL (a6K (st:=a5L) s6 m7 s5) RS (kC b3b g3.fa)];rw[AC SU (oX c5E g4.fa RS) IA (oX a9j g5.fa SU)];rw[AC FA (PM c0e g7.fa (jX b3c g6.fa) SU) BE (kC c0h g8.fa)];rw[AC ST (PM b9U n9.fa FA (b6S (n8.fa X G))) NX (PM a7v o1.fa ST (oX a9i o0.fa BE))];have FS:=FFK a6h n7.fa T (jX b5r m8.fa) (jX b6Q g2.fa);have UF:FiTx K a:=⟨a2,b3,b1,Z,b2,a0,I⟩;rw[AC MI ((B1R c0d (mg:=mg) m_Finder___init__.ma UF).make k1 j0 i9) MS (b9T j.ma UF T NX FS IA)];rw[AC ME (CJX c0f U.ma) MT (CJX c5D a7.ma)];rw[AC MP (CJX b9X W.ma) LE (PM c0b o2.fa UF a2 MI MS ME MT MP FFF)];rw[AC OC (a9e XB L x e3 d9 d0) OT FFF];rw[AC OL (a9e XB c1 a4 k0 j2 i3) l3 (yT k3)];have l4:∀H,AI9 a3 B8O:=λH=>DC ⟨oL,_,nL,k6,AM4 cl_LISTS,DLR cl_LISTS,(by show CK 4;rw[BII]),.cons (UP u1) (.cons (UP u2) (.cons (UP u3) (.cons (UP u4) .nil)))⟩;have RF:=oX a4T p2.fa (B1R a7w (OB p1.fa) T h3);have UD:DrTx K b:=⟨n,a9,b9,b0,b8,Y⟩;rw[AC RN (oX a6g p3.fa RF) RM (PM b1d p7.fa c2 (PM a7u p6.fa (PM a9h p5.fa c2 RN) (jX b6T p4.fa)))];rw[AC m9 ((B1R c0g (mg:=mg) y.ma UD).make l2 k7 k5) n0 (b9S b5.ma UD T n (PM a6c p8.fa c2 RN) (a7q o.ma UD T (oX b3d p0.fa h4)) (b0Z z.ma UD T RM))];rw[AC RY (PM a6f q0.fa UD n m9 (PM b1a p9.fa n n0) (b9Q a6.ma UD T)) SS (PM a6e q6.fa (CO2 b1b q4.fa a7t q3.fa (kC a9g q2.fa)) (jX a4R q5.fa))];rw[AC NP (kC c5I r8.fa) OF (oX d1l r9.fa NP)];rw[AC SM (b9V (OB s1.fa) T NP OF (PM b9Z s0.fa NP OF)) NO (FFK b6U n4.fa)];rw[AC PL (kC c5H g9.fa) TI (kC b9R n2.fa)];rw[AC TG (b0Y (OB o3.fa) T NO TI PL) FR (CRG c5L (mg:=mg) (OB g1.fa))];rw[AC LO (CO2 b1f n5.fa a7x n6.fa BE) NR (PM b1e o6.fa RS FR TG LO LE)];rw[AC BR (b3f (OB o7.fa) T FR FS NR) BY (b6X (OB r0.fa) T (jX b9W q7.fa) (oX a7r q8.fa FR) (jX b6W q9.fa) LE)];rw[AC CH (CO2 b1g o9.fa c5M o8.fa RS) SV (kC a6d q1.fa)];rw[AC FI (kC b6V r4.fa) VS (PM a4Q r5.fa FI SV)];rw[AC MN (kC c0a n1.fa) UN (kC b5r m8.fa)];rw[AC WY (PM c9n r2.fa IA NO UN PL (PM c9q r1.fa IA FA) OC) LD (c5K (OB o5.fa) T (jX b9Y o4.fa) MN TI)];have UK:DrTx K c:=⟨t,b6,d7,b7,d6,a8⟩;rw[AC SW (b2Z S.ma UK T Q IA (jX c5F n3.fa) WY FI OT) SL (b3a R.ma UK T IA FR LE LD (oX a7s r6.fa SV) FI OC)];rw[AC SR (b1c (CN:=d) F.ma UK T BR) SC (a4S m.ma UK T CH SV)];have SB:=b6R a5.ma UK T t VS LE BY SR SW SL SC;have CN:ClsN K d f:=⟨b6b x c5,_,_,_,_,_,_,_,_,_,_,_,_,_,_,_,_,_,lx_TooMany,e8,m5⟩;rw[AC SY (c9o f8.ma UK T t c2 RN (b3e (OB r3.fa) T l3 l4 B) SB CN L p OL) KI ((c0c (mg:=mg) E.ma UK RY).make m3 l9 l7)];exact c9r FL T (jX c9p r7.fa) NP SM SS KI (PM c5J s2.fa NP OF) (c5G (OB s3.fa) t SY c1 (b6b a4 h8))
universe K53
#where
structure PySem.W.Fast where(tw4624535392256294528 tw12735308986396567413 tw12282865889625093998 tw11845152219391641705 tw8577091667155524496 tw15137690249843189415 tw11388948597833199180 tw13864738446348343146 tw16612371764504510890 tw14651362368284524031 tw10157878189270245186 tw9471176783306388650 tw3799606971846331172 tw1720183585189868942 tw15943402554101162065 tw13217572129771135459 tw4330356488652535869 tw4348739502813914863 tw11159911615690989597 tw6502165898813426844 tw2620230495474936500 tw16012741113079921969 tw13899616122426266592 tw11813844098794238818 tw12769888165324361291 tw9355038077120192283 tw14057968653811744438 tw287964186231437410 tw1046625714265115891 tw14242989613917963129 tw11670383927802665420 tw6849282645036145837 tw15053141968198600779 tw6212756720673922249 tw1176721445535300118 tw16977907256870023409 tw6759284143654516592 tw1199816646321920485 tw346149572529452885 tw14548683124827446597 tw12308235591759423031 tw13438602640809105862 tw15230928627587493387 tw15269781051449935693 tw7073153214077617380 tw747181729770809896 tw9757949922822230162 tw220873114933820716 tw17707283642578019334 tw7819213898252342157 tw14803895634152643758 tw11626660800901903198 tw3701675175825157869 tw9477337711374496519 tw10263891573461521341 tw1886634712144719705 tw17529003846802363970 tw9882670764594585439 tw837973695194039988 tw4642817016618363446 tw3347147732875131212 tw16579029398845530503 tw8380642728174231510 tw6110900487036233855 tw11455935633727157161 tw17254749333090202110 tw14752142759426925821 tw7670619946644437248 tw9021716753866897608 tw2289735924450769924 tw3827528137557589692 tw14440082402021444853 tw5282076538603661424 tw13986117046703354991 tw17976981544781567692 tw10222786986811390447 tw3496540826178457975 tw10439358465250852049 tw12588410106814765494 tw13299749866450645699 tw2098691343706610859 tw17524033498814487293 tw14142135627758213186 tw13623363594082515653 tw2737659495809052764 tw7524914057781438076 tw2507060621776415720 tw11769646818520754850 tw5847572133234518775 tw8171822721659305303 tw3407850671701327977 tw14965309344347296842 tw14894858520542510388 tw2407032562475893324 tw15857254690672707453 tw11676211601459719008 tw13162672418294742576 tw12094349727654517887 tw18082927705334332727 tw787509114505047299 tw3902656049985147993 tw9339065139361893288 tw15244466062573606559 tw7308203529984593922 tw16702950443491552345 tw15445511547001638635 tw16622180601945509921 tw7486096512007725376 tw13812657261138101103 tw15114449839235979598 tw12845207820605428123 tw7209988950944623179 tw11165809863674239329 tw1822910155643495540 tw13108274892293719717 tw1809400663904791621 tw3706437670604429312 tw12851749862052958485 tw3340031210261529048 tw9579222532303046375 tw10549812241982581470 tw13906971289287801540 tw15600778228344614321 tw5921682305583591271 tw2038775507227325556 tw1776427665186645582 tw15094265147942665285 tw11928341488782680229 tw4284710811875907250 tw9322509247809138410 tw9677262341740380990 tw83854287151980540 tw7717751899092740925 tw12690291683146987477 tw6984750340210414654 tw13582193202377251135 tw6029286548285174718 tw9007923798700704900 tw17134282532439371408 tw5509048376933395346 tw1872454788377389342 tw17260678745042120335 tw6210936157689980594 tw6901675609335268847 tw6014259885767955835 tw16405458121342583278 tw8476031910249680807 tw15867602055968113305 tw3007926609383228098 tw9639211108825285432 tw10201073641075763968 tw18132255734688032303 tw6550244700573352436 tw2593850968290893037 tw16631499320516554803 tw13328252171000237939 tw7007344844767246941 tw16968852368116342269 tw17102129723734304411 tw14343936859261176262 tw8997387224683054965 tw12802151764602834368 tw13161274114801123216 tw6582820038248772702 tw10303075092350266073 tw6157492479871193937 tw14622734044946577132 tw18374576762042450639 tw9990316315759786667 tw16263290974133225901 tw8645592087769968867 tw256608847569823637 tw12826022391600736247 tw14094897240898217394 tw6073168670383755023 tw17909845620253920079 tw4864983312994275623 tw12251907443742888992 tw17928605702238497136 tw15014001746076278077 tw5711227738754705706 tw15859738759524570937 tw11324374145416222720 tw12490610755521121252 tw12531964326373119257 tw2637845731266882279 tw5970692192549816532 tw17979707860634139429 tw6065910659300182048 tw12558357047782567751 tw6361429759008909365 tw6082140453777212117 tw602463028642393988 tw10888256285495823929 tw16523282392278474262 tw5962151707731455648 tw604008442601549396 tw5000354551598519951 tw2961327759272798202 tw8628067500904091950 tw13500661512877828894 tw2642425280808970785 tw6906048852808993923 tw5670168821283649292 tw9706374090899421152 tw11822345949329895421 tw5074306299169674438 tw2344481117438873946 tw10993682893336269937 tw10184858342984955227 tw15418347670004001640 tw13769785772539838176 tw507880209774157660 tw1353250213421829301 tw2530151606003483500 tw10945275237552934892 tw14552493465919809799 tw12332125246322589550 tw17899257639239227091 tw13981847804636552948 tw6484475380260892885 tw9939541585434016567 tw15971129058364240591 tw16047136923400963842 tw7148587566351528529 tw3588987298618250181 tw9215927534945312440 tw14888252542656941371 tw11546770562699881324 tw17389340364481123024 tw13977285157426785143 tw9163925661022854782 tw2894091359197475096 tw9683416852708740032 tw8195380895147705174 tw16646310568240636905 tw6313552836492738948 tw1965911380230476704 tw7144765004276619253 tw1148791038471309427 tw9649044711463922843 tw12500227129543043549 tw11052374560589431378 tw7899333706933354743 tw4103327711529411953 tw3992688067322871345 tw9917297184939918944 tw8909192021108987801 tw6034678079717654388 tw11289720449563648311 tw15732944559428122877 tw185062042597845514 tw1647030822151929744 tw620255857986121797 tw4746366388509214005 tw7989469915033841427 tw12968738086455388539 tw13290867681642900711 tw12857200448081895118 tw6876807596085655288 tw1170399193842865383 tw13236703088569620438 tw14337530391896507418 tw2582779641021204819 tw2668786573614905322 tw8181436002316244344 tw8538990509951006611 tw16282472346561568998 tw6551880725313454631 tw4176509743857231601 tw2491140110441368613 tw3754964609443647672 tw13788477008605739902 tw6298999341560426220 tw17993819868590439386 tw1833238368242539106 tw7864986975591282149 tw5023668055497013975 tw1736953177656616815 tw11297304868621082846 tw17109544739843165654 tw9092234898844694343 tw1584676890365649187 tw2833814152349278313 tw12166207298741292764 tw12275112603682270721 tw11374904753609243490 tw9410033515956301555 tw17108900058218981946 tw5698011482217482664 tw5186143885289903493 tw742266655014928819 tw12529089717603309680 tw13270217952887171577 tw1312766743240361848 tw1674739821680119065 tw15444776969088761961 tw7247717134746644011 tw16734546546859772577 tw3617361618447008673 tw10211076367900803683 tw12006707808973219843 tw3454361121261346754 tw11993934693721203206 tw13595797065740757484 tw9161975783640925810 tw7701407878482396896 tw11660124619126867422 tw8734848315752331383 tw2358093599842528235 tw11551778588449751384 tw12922477160416417799 tw17874662597400491676 tw18084492377575847907 tw16337858088308492087 tw17009698000566755769 tw14279221920850557356 tw8180712899814079663 tw13587753318444568715 tw3473158087350236512 tw3745569495428020401 tw13756747810659569378 tw8152340073662191272 tw10791366668186625139 tw1070235731768695713 tw8065786255191422437 tw8844341647091178351 tw7413361650293385613 tw10775998304555597889 tw12149113594258518763 tw17247122773873222097 tw11160677253016140346 tw1011962962452815285 tw10788582731661725209 tw14104039309257087009 tw14154124335991129566 tw13438557450676480203 tw10781114169277250372 tw10308498743055405398 tw8807381756349669930 tw8496751411544196443 tw821824829734435295 tw4808300482778254484 tw4498166732846306018 tw15041751553439866146 tw8510463237044252211 tw13277615193799379995 tw5279390448596222150 tw2315427371851083306 tw1887757901011613747 tw9167349360363770320 tw13847048471120275496 tw5089542596673182314 tw13677516877874619997 tw9590014047984573405 tw13858226852421149626 tw1954558503688669040 tw9157088446631108217 tw11341893747453409584 tw15490292742616686187 tw3996620684179301952 tw14661263111287503269 tw1523745479949752866 tw16765127473974545301 tw14824784619914264223 tw1489046091878334093 tw17243410562140518516 tw2188472547544205529 tw1535671561049041624 tw16763821789794138266 tw6033715643268484596 tw17613260322022401537 tw12611872898380923437 tw4166010963806367572 tw9331587531043976132 tw10329808789771418652 tw1838030978753289561 tw9706622086686871685 tw15582378502607489190 tw15951946380241688741 tw13913999150197654375 tw10656488697229833486 tw4071600190143719374 tw2468143866924314772 tw12551085720206267798 tw10589354854411334821 tw882233245195178667 tw3764768075577890692 tw1298197393250522240 tw3560276903448847525 tw18301875857400462804 tw9742324202849641972 tw14075027539621355012 tw10241623002892070663 tw7961418849553923843 tw1707487846418096533 tw6710355052994044892 tw3363739176252755663 tw5395514545182177618 tw10611808109735389633 tw4382529210054466037 tw11576856993036886401 tw9628312029344293237 tw5945358355225987391 tw5301816036658917758 tw12132495043702814537 tw4489690000141099439 tw6586338484813125704 tw12378320943945887432 tw17419278861936094741 tw6819244298481462828 tw12285840113515116154 tw3455246232997298067 tw16195096604925970798 tw18388364877415894483 tw16602968932774266363 tw4989146446557643171 tw17009126448656919336 tw17522183574262653102 tw6228714944424433025 tw5339984745117405113 tw12648733039312665165 tw13419027952820253422 tw14249176518724151985 tw11012356970803444546 tw1673989584945953902 tw9816082797194447793 tw13490073270385332123 tw2022659239902763566 tw11019916439432975141 tw4298481392176033244 tw5155272106893384968 tw9126751034645137137 tw7532070786800539497 tw18192415909265197871 tw2240135296144338791 tw521016541597145454 tw8038675191121093336 tw8504150807267094018 tw7786654744659275272 tw9066801239047027208 tw9055456423893818113 tw16272106364074214647 tw6383187541027868904 tw11846686636536190766 tw12717588841173903672 tw10742690598140664056 tw9320870589746006706 tw16804632808224085199 tw11110667414636045693 tw7444147533403453137 tw15766983547432499096 tw8102391370201047797 tw6133492961765963222 tw3627268550648869988 tw8314137239843255105 tw10343603715676132794 tw5921954196602084504 tw9603012379585898379 tw3657309535266626334 tw11821245570230480633 tw14496720677415185943 tw15951486912189169257 tw2536936406181704953 tw6202850270202068073 tw4146541614730223947 tw9985104392118288490 tw16731397625357625136 tw1092676804220110132 tw8103825840247856944 tw14352499116023500490 tw3184864555694523531 tw3558043052189216338 tw4830125834008326616 tw167489264466227372 tw2732529110478850541 tw7397995290374885614 tw9944003389709702356 tw579298235836210482 tw8663312183294100817 tw7512781074648371375 tw1470645240795213575 tw17787982979023218517 tw17047284815249822485 tw16220444496762004702 tw8987952964954236762 tw7079704633819381728 tw4910191960854216630 tw14613882294556504151 tw2075789984786566945 tw8200920924696857787 tw2524670599730723323 tw3433003402671216233 tw6564231003956448494 tw14687572373270439805 tw9936443373534683779 tw3459809121005820278 tw8225513015435057541 tw17406599292511611872 tw10101188967846748993 tw14747565948992511540 tw17695952780123644357 tw7358105999604594622 tw7608592915696101501 tw17303765355353118147 tw3365283498805257204 tw8145560709728697875 tw7049524431365099575 tw11598609525560024861 tw18061679389612405325 tw4591247457352884646 tw8549266299759797922 tw6587172688414718961 tw7436489061235173858 tw16490115791181469525 tw9187083863521735636 tw408964988837286856 tw8424631106113123654 tw10811102120618776493 tw6596300709215413721 tw8532468447697667794 tw1159097074768820434 tw17645430096249282182 tw15086096618483244201 tw13492283401729564963 tw5548316219507303718 tw6437817784058347298 tw407585606703893767 tw7593145525877422498 tw11179139539304063646 tw7082459276301564163 tw9327422758770379587 tw10831430077355737408 tw9733329497884204003 tw15670899389471175753 tw10896017897588632612 tw7981151865127852392 tw12221677494969413430 tw931155472785755619 tw5520879215134359488 tw11679834549055796966 tw2692164177788705034 tw17963820459746480147 tw9486251253725334473 tw16170846589643011898 tw10135751567921952680 tw16829296545371607136 tw10184697761763454225 tw1522104778102057873 tw14932567281713658976 tw4993505208946592838 tw2117236774026414009 tw5567036648285575048 tw10220751575561008501 tw2063739035279827254 tw11282553501018285009 tw14974423235298144202 tw17916121383413116790 tw17456309191869733193 tw7665454713450507867 tw7843270147314990636 tw5174351075329418661 tw2273933570695605166 tw10241973169535577672 tw8964397940119552666 tw10028467829452256359 tw17173099711118402457 tw1720929351395670178 tw16966573193640543384 tw14686480559607415299 tw1523867135690998885 tw17509123968866565776 tw3226465128758596832 tw9679594416264042499 tw11749281893099545692 tw11070831144997933461 tw10768104640954236928 tw7541930427726841292 tw4330811745374337093 tw6508806452220556817 tw6733854889963623489 tw15065627051561900204 tw7456856909037838960 tw16169782098030468781 tw9419996406082003286 tw12921579598967472178 tw8757862944577854965 tw7137875061822336725 tw4821366716324691306 tw15109283065840509705 tw5339225733474746390 tw15376627349825719561 tw11067169428313862083 tw17209517212564178925 tw3884201852059592811:True)
end
open PySem PySem.W PyProof.Rows
set_option maxRecDepth 100000 in
set_option maxHeartbeats 0 in
theorem PySem.Challenge.cw_leastlays_k53_whole_two_desks_holds : PySem.Challenge.rw_leastlays_k53_whole_two_desks.Holds := by
 w_on;o_law;k_head;(case hw=>w_witness2)
 k_fill
 refine L2.law_walk (l:=PySem.Challenge.rw_leastlays_k53_whole_two_desks) 14 rfl rfl ⟨rfl,by decide,by decide⟩ (λw h Y=>PySem.W.kIn_of Y) ?F
 case F =>
  intro w mg fa h KX G hmg
  refine' K53.all_mk KX G hmg ?g1 ?g2 ?g3 ?g4 ?g5 ?g6 ?g7 ?g8 ?g9 ?g10 ?g11 ?g12 ?g13 ?g14 ?g15 ?g16 ?g17 ?g18 ?g19 ?g20 ?g21 ?g22 ?g23 ?g24 ?g25 ?g26 ?g27 ?g28 ?g29 ?g30 ?g31 ?g32 ?g33 ?g34 ?g35 ?g36 ?g37 ?g38 ?g39 ?g40 ?g41 ?g42 ?g43 ?g44 ?g45 ?g46 ?g47 ?g48 ?g49 ?g50 ?g51 ?g52 ?g53 ?g54 ?g55 ?g56 ?g57 ?g58 ?g59 ?g60 ?g61 ?g62 ?g63 ?a64 ?l64 ?c_64 ?k64 ?z1 ?z2 ?z3 ?z4 ?z5 ?z6 ?z7 ?z8 ?z9 ?z10 ?z11 ?z12 ?z13 ?z14 ?z15 ?z16 ?z17 ?z18 ?aD_TooMany ?aD_NoAnswer ?aD_NoLine ?aD_Finder ?aD_Draft ?aD_Desk ?aS_FIGURES ?aS_LETTERS ?aS_TOP ?aS_GREATEST_MOST ?aS_GREATEST_WAY ?lx_TooMany ?tx_TooMany ?ok_TooMany ?in_TooMany ?be_TooMany ?lx_NoAnswer ?tx_NoAnswer ?ok_NoAnswer ?in_NoAnswer ?be_NoAnswer ?lx_NoLine ?tx_NoLine ?ok_NoLine ?in_NoLine ?be_NoLine ?no_TN ?aD_LISTS ?lk_LISTS ?cl_LISTS ?pg_Finder ?hd_Finder ?po_Finder ?sa_Finder ?mk_Finder ?kc_Finder ?n_Finder_rows ?n_Finder_caps ?n_Finder_begun ?n_Finder_here ?n_Finder_found ?n_Finder_walked ?pg_Draft ?hd_Draft ?po_Draft ?sa_Draft ?mk_Draft ?kc_Draft ?n_Draft_names ?n_Draft_rows ?n_Draft_sides ?n_Draft_caps ?n_Draft_prices ?pg_Desk ?hd_Desk ?po_Desk ?sa_Desk ?mk_Desk ?kc_Desk ?n_Desk_names ?n_Desk_rows ?n_Desk_sides ?n_Desk_caps ?n_Desk_prices ?m_Finder___init__ ?m_Finder_step ?m_Finder_step_within ?m_Finder_level ?m_Finder_told ?m_Finder_paper ?m_Finder_ended ?m_Draft___init__ ?m_Draft_take ?m_Draft_take_names ?m_Draft_take_sum ?m_Draft_whole ?m_Desk___init__ ?m_Desk_say ?m_Desk_say_by ?m_Desk_say_rows ?m_Desk_say_cheapest ?m_Desk_say_way ?m_Desk_say_lay
  (case a64|l64|c_64|k64|z1|z2|z3|z4|z5|z6|z7|z8|z9|z10|z11|z12|z13|z14|z15|z16|z17|z18|aD_TooMany|aD_NoAnswer|aD_NoLine|aD_Finder|aD_Draft|aD_Desk|aS_FIGURES|aS_LETTERS|aS_TOP|aS_GREATEST_MOST|aS_GREATEST_WAY|pg_Finder|hd_Finder|po_Finder|sa_Finder|mk_Finder|kc_Finder|n_Finder_rows|n_Finder_caps|n_Finder_begun|n_Finder_here|n_Finder_found|n_Finder_walked|pg_Draft|hd_Draft|po_Draft|sa_Draft|mk_Draft|kc_Draft|n_Draft_names|n_Draft_rows|n_Draft_sides|n_Draft_caps|n_Draft_prices|pg_Desk|hd_Desk|po_Desk|sa_Desk|mk_Desk|kc_Desk|n_Desk_names|n_Desk_rows|n_Desk_sides|n_Desk_caps|n_Desk_prices=>(try unfold L2.FnL);(try unfold K53.nI);k_is)
  (case g1|g2|g3|g4|g5|g6|g7|g8|g9|g10|g11|g12|g13|g14|g15|g16|g17|g18|g19|g20|g21|g22|g23|g24|g25|g26|g27|g28|g29|g30|g31|g32|g33|g34|g35|g36|g37|g38|g39|g40|g41|g42|g43|g44|g45|g46|g47|g48|g49|g50|g51|g52|g53|g54|g55|g56|g57|g58|g59|g60|g61|g62|g63=>exact⟨⟨_,_,_,_,_,_,_,_,_,_,by k_is,by(try unfold L2.FnL);(try unfold K53.nI);k_is,by k_is,by k_is⟩⟩)
  (case m_Finder___init__|m_Finder_step|m_Finder_step_within|m_Finder_level|m_Finder_told|m_Finder_paper|m_Finder_ended|m_Draft___init__|m_Draft_take|m_Draft_take_names|m_Draft_take_sum|m_Draft_whole|m_Desk___init__|m_Desk_say|m_Desk_say_by|m_Desk_say_rows|m_Desk_say_cheapest|m_Desk_say_way|m_Desk_say_lay=>exact⟨⟨_,_,_,_,_,_,_,_,_,_,by k_is,by k_is,by(try unfold L2.FnL);(try unfold K53.nI);k_is,by k_is,by k_is⟩⟩)
  (case lx_TooMany|tx_TooMany|ok_TooMany|in_TooMany|be_TooMany|lx_NoAnswer|tx_NoAnswer|ok_NoAnswer|in_NoAnswer|be_NoAnswer|lx_NoLine|tx_NoLine|ok_NoLine|in_NoLine|be_NoLine|no_TN|aD_LISTS|lk_LISTS=>first|k_is|kernel_rfl|rfl)
  (case cl_LISTS=>first|exact rfl | (with_unfolding_all exact rfl) | (refine Prod.ext ?_ ?_<;>rfl))
#print axioms PySem.Challenge.cw_leastlays_k53_whole_two_desks_holds
