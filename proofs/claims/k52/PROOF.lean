import PyProof.Rows.All
import Wide.All
import OpenK.AllK
import Wide.FinOn
import Lean
import PyProof.EqAt
import PyProof.EqKinds
import PyProof.TupleCall
import PyProof.ZipIter
import PyProof.ExcArgsOwn
import PyProof.ExcAttrAll.ValueError
import KE.KSortTup
import PySem.SetTable
import PyProof.SetNew
import PyProof.TupleKey
import PyProof.DictRoadsH
import PyProof.DictKinds
import PyProof.IsRules
import PyProof.Rows.SetFrom
import PyProof.WalksMore
import KE.KDictSum
import PyProof.Rows.CallKwBuiltin
import PyProof.MinMaxWalk
import KE.KDictOf
import PyProof.AttrMissHeap
import PyProof.AutoSeq1
import PyProof.TupleOfSeq
import PyProof.ListRange
import KE.KRevIter
import PyProof.MeetsStr
import PyProof.MeetsStr2
import PyProof.StrLawsJoin
import PyProof.StrLawsChain
import PyProof.Rows.StrItems
import KE.KIntText
import PyProof.Rows.ReprOcc
import PyProof.StrWalks
import PyProof.CallType
import PyProof.StrOps
import PyProof.StrLawsIn
import PyProof.StrBlock2
import PyProof.FString2
import PyProof.SetKind
import PyProof.ExcInit
import PyProof.ExcClass3
import PyProof.InstStore
import PyProof.InstStoreFacts
import OpenK.KCls
import PyProof.StrBlockH
import PyProof.StrBlock
import PyProof.SliceStr2
import PySem.Challenge.RW_leastlays_k52_desk_lines_refused
set_option compiler.extract_closed false
set_option bootstrap.genMatcherCode false
set_option genSizeOf false
set_option Elab.async false
set_option linter.all false
set_option maxRecDepth 2000000
set_option maxHeartbeats 4000000
def zX(r:Lean.Name->Array Lean.Syntax->Option (Lean.Syntax×Nat))(s:Lean.Syntax):Lean.Syntax:=s.rewriteBottomUp fun s=>match s with
 |.ident _ _ n _=>match r n .empty with|some (x,_)=>x|_=>s
 |.node _ q c=>if q==`Lean.Parser.Term.app then
   let n:Array Lean.Syntax->Lean.Syntax:=.node .none `null
   let a:=c[1]!.getArgs
   let (h,k):=match c[0]! with|.ident _ _ i _=>(match r i a with|some (_,0)=>(c[0]!,0)|some x=>x|_=>(c[0]!,0))|h=>(h,0)
   let a:=a.extract k a.size
   if a.isEmpty then h else if h.isOfKind q then h.setArg 1 (n (h[1].getArgs++a)) else(s.setArg 0 h).setArg 1 (n a)
  else if q==`Lean.Parser.Tactic.tacticSeq1Indented then s.setArg 0 (.node .none `null (c[0]!.getArgs.flatMap fun e=>if e.isOfKind `Lean.Parser.Tactic.rwSeq then let b:=e[2][1][0][1];if b.isOfKind `Lean.Parser.Term.byTactic then b[1][0][0].getArgs else .singleton e else .singleton e))
  else if q==`Lean.Parser.Term.paren && (c[1]!.isOfKind `Lean.Parser.Term.typeAscription || c[1]!.isOfKind `Lean.Parser.Term.anonymousCtor) then c[1]! else s
 |_=>s
def zR(T:Lean.NameMap Nat)(m:Lean.NameMap (Lean.Syntax×Nat))(s:Lean.Syntax):Lean.Syntax:=s|>zX fun n a=>match m.find? n with
 |some (b,0)=>some (b,0)
 |some (b,k)=>if a.size<k then none else some (zX (fun n _=>(T.find? n).bind fun i=>a[i]?.map fun x=>(if x.isOfKind `Lean.Parser.Term.paren then x[1] else x,0)) b,k)
 |_=>none
def zY(T:Lean.NameMap Nat)(K:List Lean.Name)(b:Array Lean.Syntax):Lean.NameMap (Lean.Syntax×Nat):=Id.run do
 let C:=Lean.NameSet.ofList (K.take b.size)
 let mut m:Lean.NameMap (Lean.Syntax×Nat):={}
 let mut w:List (Lean.Name×Lean.Syntax×Nat×List Lean.Name):=[]
 for (n,x) in K.zip (b.toList.map fun x=>if x.isOfKind `Lean.Parser.Term.paren then x[1] else x) do
  let mut k:=0
  let mut u:=[]
  for s in x.topDown do if s.isIdent then
   if T.contains s.getId then k:=k+1
   if C.contains s.getId then u:=s.getId::u
  w:=(n,x,k,u)::w
 for _ in [0:99] do
  let (y,z):=w.partition fun(_,_,_,u)=>u.all m.contains
  let o:=m
  for (n,x,k,_) in y do m:=m.insert n (zR T o x,k)
  w:=z
 return m
def zK(k:List Lean.Name):List Lean.Name:=
 let B:="0123456789ABCDEFGHIJKLMNOPQRSTUVWXYZ".toList
 let w:="ABCDEFGHIJKLMNOPQRSTUVWXYZabcdefghijklmnopqrstuvwxyz".toList.flatMap fun a=>B.map fun b=>[a,b]
 let q:=Lean.NameSet.ofList k
 ((w++w.flatMap fun a=>B.map fun b=>a++[b]).map fun c=>Lean.Name.mkSimple (.ofList c)).filter fun n=>!q.contains n
local macro_rules|`(mutual $c* end)=>do
 let d:=c[0]!.raw[1][1]
 unless c[0]!.raw.isOfKind `Lean.Parser.Command.check do Lean.Macro.throwUnsupported
 let k:=d[0].getArgs.toList.map (·.getId)
 let T:Lean.NameMap Nat:=(k.zip (List.range 9)).foldl (fun m(n,i)=>m.insert n i) {}
 let m:=zY T (zK k) d[3][1].getSepArgs
 let mut o:Array Lean.Syntax:=.empty
 for x in c.extract 1 c.size do
  let i:Lean.Ident:=⟨x.raw[1][0]⟩
  if x.raw.isOfKind `Lean.Parser.Command.where then o:=o.push (<-`(command|end)) else if x.raw.isOfKind `Lean.Parser.Command.universe then o:=o.push (<-`(command|end $i:ident)) else o:=o.push ((zR T m x).rewriteBottomUp (·.setInfo .none))
 return Lean.mkNullNode o
mutual
#check λzA zB zC zD zE zF zG zH zI A0 A1 A2 A3 A4 A5 A6 A7 A8 A9 AP B0 B1 B2 B3 B4 B5 B6 B7 B8 B9 BE BR BY C0 C1 C2 C3 C4 C5 C6 C7 C8 C9 CE CH CK CL CN CR CT CX D0 D1 D2 D3 D4 D5 D6 D7 D8 D9 E0 E1 E2 E3 E4 E5 E6 E7 E8 E9 EP F0 F1 F2 F3 F4 F5 F6 F7 F8 F9 FA FG FI FL FM FR FS G0 G1 G2 G3 G4 G5 G6 G7 G8 G9 GB H0 H1 H2 H3 H4 H5 H6 H7 H8 H9 HO HT I0 I1 I2 I3 I4 I5 I6 I7 I8 I9 IA IK IT J0 J1 J2 J3 J4 J5 J6 J7 J8 J9 JA JB JE JF JG JI JO JS JT JW JX K0 K1 K2 K3 K4 K5 K6 K7 K8 K9 KD KE KF KI KT KV KX L0 L2 L3 L4 L5 L6 L7 L8 L9 LE LO M0 M1 M2 M3 M4 M5 M6 M7 M8 M9 ME MG MI MP MS MT N0 N1 N2 N3 N4 N5 N6 N7 N8 N9 NA NC NL NN NO NP NR NS NT NX NY NZ O0 O1 O2 O3 O4 O5 O6 O7 O8 O9 OF OL P0 P1 P2 P3 P4 P5 P6 P7 P8 P9 PA PB PC PE PG PI PL PO PR PS PT PW Q0 Q1 Q2 Q3 Q4 Q5 Q6 Q7 Q8 Q9 R0 R1 R2 R3 R4 R5 R6 R7 R8 R9 RF RL RM RN RR RS RY S0 S2 S3 S4 S5 S6 S7 S8 S9 SB SC SM SP SR SS ST SU SV SW SY T0 T1 T3 T4 T5 T7 T8 T9 TA TE TF TG TI TK TM TO TP TS TT TX U0 U1 U2 U4 U5 U6 U7 U8 U9 UD UF UK V0 V1 V2 V3 V4 V5 V6 V7 V8 V9 VK VS VV W3 W4 W5 W6 W7 W8 W9 WY X0 X2 X4 X5 X6 X7 X8 X9 XB XK XP Y0 Y1 Y2 Y3 Y4 Y5 Y6 Y7 Y8 Y9 Z0 Z1 Z2 Z3 Z4 Z5 Z6 Z7 Z8 Z9 a0 a1 a2 a3 a4 a5 a6 a7 a8 a9 b0 b1 b2 b3 b4 b5 b6 b7 b8 b9 c0 c1 c2 c3 c4 c5 c6 c7 c8 c9 cV d0 d1 d2 d3 d4 d5 d6 d7 d8 d9 dK dT e0 e1 e2 e3 e4 e5 e6 e7 e8 e9 eA eK eL eP f0 f1 f2 f3 f4 f5 f6 f7 f8 f9 fI g0 g1 g2 g3 g4 g5 g6 g7 g8 g9 gI gS gV h0 h1 h2 h3 h4 h5 h6 h7 h8 h9 hA hB hC hD hF hG hI hK hL hM hN hO hP hR hS hT hU hW i0 i1 i2 i3 i4 i5 i6 i7 i8 i9 j0 j1 j2 j3 j4 j5 j6 j7 j8 j9 k0 k1 k2 k3 k4 k5 k6 k7 k8 k9 kV l0 l1 l2 l3 l4 l5 l6 l7 l8 l9 m0 m1 m2 m3 m4 m5 m6 m7 m8 m9 mA mN n0 n1 n2 n3 n4 n5 n6 n7 n8 n9 nI nL o0 o1 o2 o3 o4 o5 o6 o7 o8 o9 oI oL p0 p1 p2 p3 p4 p5 p6 p7 p8 p9 q0 q1 q2 q3 q4 q5 q6 q7 q8 q9 qA qB qC qD qE qF qG qH qI qJ qK qL qM qN qO qP qQ r0 r1 r2 r3 r4 r5 r6 r7 r8 r9 rI rU s0 s1 s2 s3 s4 s5 s6 s7 s8 s9 sH t0 t1 t2 t3 t4 t5 t6 t7 t8 t9 tA tB tC tT u0 u1 u2 u3 u4 u5 u6 u7 u8 u9 v0 v1 v2 v3 v4 v5 v6 v7 v8 v9 w0 w1 w2 w3 w4 w5 w6 w7 w8 w9 wL wS x0 x1 x2 x3 x4 x5 x6 x7 x8 x9 xI xR y0 y1 y2 y3 y4 y5 y6 y7 y8 y9 z0 z1 z2 z3 z4 z5 z6 z7 z8 z9 CX0 CXE CXN CXT=>[qA V,qA Str,@lq zA,(by have zA:=zB;have zC:=zD),(by rw[zA];exact zB),(by omega),(by decide),zA _ _ zB,qA qB,(by rw[AE zA zB]),.ref zA,(by simp),zA _ _ zB zC,gB s,BD4 Int,X.K=K,i+1,λzA zB=>?_,Tx mg,some zA,AK a,(by rw[zA]at zB;cases zC),(by exact⟨zA,zB,zC⟩),(by exact⟨zA,zB⟩),Str->LS,if_neg zA,top zA,FG K zA zB,.int zA,zA (zB:=zC) (zD:=zE) zF zG,KO H',(zA:Int),(by refine wpAny_bind zA),(by rw[zA];exact zB zC),(by rw[OP]),(by refine DX ((zA)) ?_),(by simpa using zA),qA Expr,Nat.le_refl _,(by rw[IH F.okJ zA zB zC]),.lst zA,~~~lq zA zB,~~~lq zA zB zC,A1 (lK zA zB zC),some (zA zB),zA zB=some zC,zA _ _,k+1,(by rw[lL zA z]),n+1,zA<=sizeLine,DX rfl zA,APM a,CIC MQ es,JE X zA zB,decide zA,(by cases e),(by rw[bT]),OO zA i zB,((∀zA∈zB,zC)),(by by_cases zA:zB=zC),p.1,(by rw[DZ];refine zA),.inl zA,h.1,q.2,YO qE Obj,YQ qB,tK Int,λzA zB zC zD=>?_,(by rw[zA,zB];exact zC),if_pos zA,⟨zA,rfl,zB⟩,.inr zA,qA α,FnScope zA zB (A2 zC),Str.ofString zA,CI b tb,wpAny zA zB zC zD zE zF,(by refine zA;rw[zB]),BH n,λzA zB zC zD zE=>?_,(by subst e),λzA zB zC zD zE zF=>?_,zA (jv zB) zC,V.int zA,(by refine⟨zA,zB⟩),(by refine⟨zA,zB,zC⟩),BDA Str,⟨_,zA,zB⟩,PE X zA zB,(by dsimp only[B1]),AK C,q.1,(by obtain⟨zA,zB,zC,zD⟩:=zE zF),(by exact lq zA zB),BH (QM zA),(by refine zA (DD zB zC zD zE)),qA qE,X.calm=true,OT FW zA,FV H zA,zA zB=true,h.2,qD Int,qD qE,(by exact⟨zA,zB,zC,zD,zE⟩),AAX MQ,jaC zA jaN,⟨_,zA⟩,(by obtain⟨zA,zB,zC⟩:=zD zE),AK p,jv 0,⟨rfl,zA⟩,(by rw[<-zA];exact zB),(by unfold zA;rw[zB]),BV .ref zA,W1 zA zB .lst zC,zA->zB->Prop,SqL.of zA,A3 (A9 zA),(by rw[zA]at zB;exact zC),λzA zB zC=>?_,(by exact⟨zA,zB,zC,zD⟩),(by rw[zA,zB];exact zC zD),(by .exact .inr zA),(zA).length,BV .int zA,(zA zB).map,AK b,if_pos rfl,zA zB=none,AAN model,.tup zA,⟨zA,zB,zC,rfl,zD⟩,DX zA rfl,λ_=>zA,(by rw[CS e zA zB]),(by refine zA;refine zB),(by .exact .inl zA),(by rw[BL (FE zA)]),BD9 pos es,A2A x,DS jaC zA zB,(by have zA:=zB (o:=zC) zD),(zA zB).length,Q zA H',(by refine zA ?_),(by obtain⟨zA,rfl,zB⟩:=zC),s.heap.objs.size+1,∀(zA:zB) (zC:zD),zE->zF,(by rw[lO zA zB List.mem_map.mp zC]),SqT.of zA,(zA).map,zA<=1000,thn zA λzB zC zD=>?_,AK l,λb zA e=>zB,zA  vs H Q E,zA≠[],⟨zA,?_⟩,(by rw[DU zA (AS zB zC)]),qA Env,(by have zA:zB:=by rw[AE zC zD]),bW X.A.units 60,A1X Same.refl zA,AH s zA,(by rw[BJ zA zB zC]),AH s1 zA,(by exact absurd zA zB),tL D6 0,.inl rfl,lS c,(by rw[AW zA e e]),(by obtain⟨zA,zB⟩:=zC;rw[AY zD zE]),hI.1,(by .exact absurd zA zB),zA vs H Q y_3,λvs H Q E=>GX zA,_::_,W0 zA b,bN zA V.str,zA=false,b≠zA,x.1,(List.getElem?_eq_some_iff.mp zA).1,Nat.zero_le _,(by exact⟨zA,zB,zC,zD,zE,zF⟩),LR x a,x::xs,(by obtain⟨zA,rfl⟩:=zB),(by refine zA zB (DP vs H Q E h) (CI8 zC zD ?_)),zA (.ref zB),FunAt K mg zA zB zC,(by rw[GJ zA (HE zB) zC zD]),(by rw[IG t zA]),(by simp[zA]),p.2,(zA zB).trans zC,AK t,(by rw[DU zA ?_]),(by have zA:L1 zB zC zD zE zF:=A0),(by have zA:upd zB zC (BQ zD) zE=BV .lst zF:=A0),qA Stmt,lI σ zA zB,(zA (by omega)),BW zA x zB,⟨_,zA,zB,zC,zD,zE⟩,List.mem_cons_of_mem _ zA,jv 1,OO zA j zB,⟨zA,[]⟩,Gl X zA,λb o zA zB=>zC,AJ (A5 zA) zB,zA->Prop,i<n,if_neg e,(by .exact zA zB z),QO Int,A3 C4,∀x∈zA,zB,(by refine zA zB ?_),(by rw[OR zA ?_]),gC 1,Heap.get?_push_size _ rfl,(by rw[DE zA zB zC]),2 ^ k,[a],(by kernel_rfl),YQ Nat,A1Z Key,A1Z κ,Same H zA,Heap.get?_push_of_some _ zA,{s with heap:=zA},FC zA qC,⟨_,zA,zB,zC⟩,zA X G,λzA=>?_,zA=none,(by exact lq zA zB zC),upd zA zB zC zD=some zE,HV s.heap.get?,(zA zB zC).length,(by rw[lM Q h]),(by refine C1 zA),(by have:=zA;omega),AJ List.length_map zA,∀v∈zA,zB,EJ b,RelV y u,FV mg zA,PySem.W.mg_none_of X G zA,Nms ns,CII mainGlobals zA,.type zA,lH eval zA,zA=.ref zB,qD qB,n-1,(zA)=true,zA (AK zB) zC,(by rw[tN _ zA _]),W1 zA zB .tup zC,ES (GR zA),(by rw[zA]),(by exact .inl zA),(by obtain⟨zA,zB,zC⟩:=zD;rw[AX zE zF zG]),(by rw[EC its zA zB zC zD zE]),DM _ zA zB _ _ s,UB bk zA,AK c,(by show zA;omega),Q zA s,zA zB (List.mem_of_getElem? zC),JK x,y::ys,PotAt H a b,e::es,((Str.ofString zA)),A8 zA (IX zB) rfl zC,(if_neg (by rw[zA])),(by rw[zA];omega),List.getElem?_eq_getElem zA,zA j 0,AM zA _ zB,FV X.mg zA,EJ p,zA b o e,GK zA zB<=zC,(by rw[zA,zB]),-1,(by rw[BI ?_]),(by rw[tM zA 100000]),(by intro qK s σ H x y v u Q I zA zB h),⟨zA,rfl⟩,BD i,gC 2,ZB bS,(by exact wpAny_pure zA),(by have zA:zB:=by simpa using zC),ABH zA h zB,j+1,(by .exact z),1<=n,KY A.handled,RelV v u,AB1 us,qA (qJ),zA (KU zB) T zC zD,gK qN.endLine qM.line,(by rw[AQ4 (by first|assumption|wp_step)]),zA[zB]?=some zC,(by decide +kernel),zA qK zB σ zC,(by refine wpAny_bind (zA zB)),zA zB=false,DM zA A zB Q E s,Vals zA zB,Its H zA zB,zA mask zB zC,BW zA a zB,zA zB σ H,ES rfl,BH 0,KO H1,(by show CC zA;omega),(by rintro rfl),⟨o,zA,zB⟩,jv 2,x.2,λi zA e=>zB,(by rw[zA];simp),(by rw[EX zA zB]),CW (lU _ (FD zA)),cA SqL.of zA,(by obtain⟨zA,zB,rfl⟩:=zC),(by rw[AX zA rfl zB]),(by rw[ZE xs zA zB]),zA λo e=>zB,(by obtain⟨h1,h2⟩:=zA),HV h.get?,∃zA:Nat,zB,A1Z Str,zA<=100,if_pos e,uA a,tK Nat,((x++MR zA)),AQ3 BDY,(zA:Nat),jaC zA (jaC zB zC),Nat->zA,QN zA zB jaN,vs=[zA,zB],AK s.heap.objs.size,vs=[zA],YR St,⟨_,zA,zB,zC,zD⟩,(by have zA:=zB;rw[zC]at zD),BH i,zA∉bS,(by exact .inr zA),a.1,AAZ .int zA,⟨zA,rfl,zB,zC⟩,(by obtain⟨zA,zB,zC,zD,zE⟩:=h),(by have zA:zB=zC:=by simpa using zD),APT lN,CIJ 3,(by rw[IM c]),APV zA o,BDH h n,λ_ _ zA zB=>zC,C0 B8 (BDB 3 L),(by obtain⟨zA,e⟩:=zB),IJ zA zB [zC],(by refine zA;rw[DZ]),qA Nat,(by have:=zA;rw[A2M zB]),GT xs.length,(by rw[tM zA 3000]),BD9 qM es,(by rw[AD zA (zB zC) zD (zE zF)]),(by .obtain⟨zA,zB,rfl,_⟩:=h;rfl),BD5 model,0<=x,upd H zA zB,(by rw[MW zA]),(by rw[zA,zB];rfl),KS rfl zA zB,(by refine wpAny_pure zA),AU v,WC σ (ZA zA zB zC),(zA zB).mp,(by rw[AW e zA zB]),BH 1,A3 (A9 (zA zB)),AQ6 o.cls,zA<=mask,(by obtain⟨zA,zB,zC,zD⟩:=h),zA (caps:=zB) zC zD zE,λb u zA zB=>zC,(by obtain⟨zA,zB,zC,zD,zE,zF,zG⟩:=h),CQ v zA zB,(by cases h),(by unfold zA;split),K.In h,.str x,Cls K C,AB1 vs,PB N p,AQM h,(by rw[zA];decide),gD zA V.int,zA K zB=true,I.tok _,Str.join zA zB,(zA).toNat,IT H zA zB,(zA).length,bO zA zB [zC] zD,KQ h',FD A0,WB zA _,((if zA then zB else zC)),wpAny_mono zA zB λzC zD zE=>zF,DM SD X.A zA zB X.xe s,[e],(by exact False.elim zA),KP e,tO Str.ofString zA,OpR X (compareOp zA) zB,EZ p,BW h.get? zA zB,if zA=true then zB else zC,List.mem_singleton.mp z,λb zA q=>zB,BW H' zA zB,BH m,FB H2 zA zB,DJ zA [zB] zC,(by refine zA;rw[GJ zB zC zD zE]),BDP H',zA σ H1 λzB H2=>zC,(zA zB zC).trans,BX List.length_filter_le,AAV qE,AB4 p,(by rw[GN u zA zB];cases zC),BF zA K K a zB (xs:=zC) zD,(by unfold zA at h),mF zA zB rfl zC zD,OQ zA s1 H1,.int _,~~~lq zA,(by rw[CS zA b zB]),YR Bool,FE a0h,DY a ta,JT X (BDL zA) (R7 (tS zB)),⟨Y5 zA c.h d.h⟩,BW zA zB o,upd zA zB (zC zD),BW H zA zB,zA zB (jv zC),A20 zA _ zB,λzA H Q=>zB,zA (~~~zB),BV .builtin zA,gC 0,YP zA .lst zB,hsh prog w r,[AK zA],qA Key,zA A26 (tJ zB),(by refine E2 zA),AU x,bQ SqT.of zA,C6 src σ,BDD sp,(by obtain⟨zA,zB⟩:=zC zD),AK x,W2 p zA,(zA zB).mpr,jv 3,J7 K zA,(by refine DX rfl zA),2 ^ 63,gJ I.hok.fresh,(by subst this),IJ zA zB [zC,zD],(by rw[AW zA h h]),f.2,b.1,AM zA (BM zB) zC,(by rw[ED zA this]),YV xs.map,tQ "",y.1,OX h.get? zA,AB8 KB,decide_eq_true zA,g.1,⟨zA,zB,rfl⟩,(by rw[tM zA 1000]),(MV (by decide)),AAV Int,(by by_cases c:zA),(by obtain⟨u,zA,zB⟩:=zC),⟨zA,H2,zB,zC,zD⟩,(by exact lq zA),.str _,(by have:=zA;rw[ZO zB zC]),if_neg a,if_pos a,h.2.1,GT n,A1Z WJ,KR Bool,DrTx K C,(by cases a;exact zA (A2B AL)),x∈xs,(by rw[UQ a]),zA x y H Q,CI o to,CI e te,Array (qD qB),(by .exact(d e e' BK).elim),qA (zA×zB),H zA=BV zB zC,Array zA,FC zA Hp,bO zA zB [zC,zD] zE,wd zA :: zB,BW zA b zB,bN zA V.int,kk key p zA,Value.ref zA,zA V.str,["self",zA],zA σ H λzB H1=>zC,Off zA H H',.str (zA zB),∀b∈zA,zB,(by intro qK s σ H zA zB Q I zC h),∀y∈zA,zB,zA σ H zB,Wk rss cs zA zB zC zD,mg zA=BV .ref zB,(zA zB).symm,AM zA zB (AM zC zD zE),EZ a,[AV],FO (zA++zB),(by rw[KZ zA zB this]),IZ rfl zA rfl zB ?_,AAY D7 (N:=[zA,zB]) (src:=[none,zC]) zD,zA _ _ _ _ _ _,HY p,y::r,A28 tk,zA b o e zB,(by rw[zA];rfl),zA.2.2.1,⟨_,rfl,zA,zB,zC,zD,zE,zF,zG,zH,zI⟩,(by rw[IL s1 H zA zB]),bY xs,(zA (by simp)),.bl b,attributeBase o zA X.env APR=APR,⟨zA,kw⟩,GI 0 KB,MX hi,AB2 xs,z.1,(by obtain⟨zA,q⟩:=zB),λH' s=>GR (HF zA),RelV x v,(by obtain⟨zA,e,zB⟩:=zC),List.mem_append_left _ zA,CC xs.length,(zA zB).mp zC,(by rw[ET zA rfl zB zC zD]),TZ xs.map,g.2,_+1,q _ A2W,RelV x u,ABY zA EP,st.2,st.1,(by by_cases a:zA),nI K zA zB,qD Bool,if_neg h,2 ^ 64,BS zA a,ns.length<=7,SqT K H a xs,x<=topN,(by rw[uK zA g tk os s]),CIQ CJ2,(by rcases zA with q|q),zA K xs H Q,∀vs H Q E,WP->CJ3,.lst (zA zB),AAM Ok zA zB zC zD,zA K zB zC=some zD,.inr (zA zB),LQ e,[a,b],(by with_unfolding_all rfl),YP zA .tup zB,V.str zA,zA+zB<cLine,zA V.int,CP zA x,IY zA c,.inl (zA zB),(List.replicate zA zB).zC,FB H zA zB,(zA zB zC zD).map,λi zA H'=>zB,AK f,(by show zA;decide),(by rcases zA with rfl|zB),tR zA .tup zB,(by rw[zA,zB]at zC;cases zD),zA (·.1),zA ⟨zB,zC,zD⟩,(zA,zB)::r,MethAt K C zA zB zC zD,ns.length+1,zA λzB=>CJ zC,W2 a zA,W1 H zA zB zC,Q zA s',~~~zA zB hi,A1Y "tuple" (.seq zA),OQ zA s H,.bl _,(by have:=zA;rw[gU zB]),ABC s' zA,DS B5 2 A4,(zA (by rw[AE zB zC])),LP "tuple",(by rw[lM D h]),AS v zA,OS decide zA,A27 gN,AK g,zA prog w zB zC,(by refine zA (zB ?_)),(List.mem_filter.mp zA).1,JY zA SE,lR ?_,NoAttr K C zA,(L7 zA zB (by rw[gT])),AQA % CIS,(by rw[zA];rw[CS zB zC zD]),if zA=zB then zC else zD,(by obtain⟨zA,h⟩:=zB),F6 X zA zB,n::ns,[x],⟨σ,zA,zB,zC⟩,(by obtain⟨zA,_,rfl⟩:=zB),absurd zA zB,AH zA (AH zB zC),YQ GenState,A1 (lK zA zB (C8 zC)),KV qL vs,sdS rss ss,(by rw[zA];rw[WL zB]),~~~a1l,MU zA hr.mono zB,mP (WK zA zB),CIK zA .type zB,(by rw[BDQ wpAny_loadPart_at zA zB]),uT (BG/\zA),AM k HK e,UN zA zB _ _ x x,(by refine zA;obtain⟨zB,zC,zD,zE,zF⟩:=zG),qD V,(by rw[ET zA zB zC r.get zD]),x::a,YR It,0<N,y::AR1,n<=7,bY X.N,(by rw[HA IC zA zB]),QS EU,(by intro qK s σ H x vs v zA Q I zB zC h),A2C X.A,SI zA (AS zB zC),a::l,uL nne zA,SqL K H a xs,uQ l,AQG (CD zA),(by rw[IG t' a];exact zA (A2B AL)),(by rw[vH b]),(by exact ES e),zA xs H Q,(by exact Heap.lt_size e),PA X MQ t,BES nt,(by intro _;rfl),UE y ys,(by have zA:upd zB zC (FX zD) zE=BV .tup zF:=A0),zA C vs H Q y_3,M5 f mB (zA::st) rs,X2 n EV A4,λ_ _ _ _ zA=>zB,IW H zA,GI zA jaN,.tup (zA zB),CIA s zA zB,∀H',BG->zA,OQ zA s H _ I h,zA::caps,zA (Nat.le_refl _),(zA==zB)=true,tJ (BD8 0 zA),YS zA 1 zB zC zD,s.toks+1,AU 0,zA b o zB e,zA K zB zC=true,A24 zA (AS zB zC),(by intro z;cases z),(by rw[zA]at this),λz=>lN,(by rw[BI (zA zB zC ?_)]),B6 zA (B6 zB zC),(zA zB).upd zC,GR (AH zA zB),x=wd zA,ES (FD zA),LU (zA && zB),cB zA zB flatten,List.mem_append_right _ zA,~~~zA a,AQ2 k,BDO N8,AS b zA,FQ List.range zA,A2G b,BDI Nat.lt_of_lt_of_le zA zB,AH zA _,tY fs,zA∈t.place,AK d,A8 zA (WD zB zC) rfl zD,⟨o,zA⟩,zA=some v,AK L,AK ra,PT X zA zB,(by refine .inr zA),(zA zB zC zD).length,FD (AH zA zB),E5 x,YZ "words",QQ EU zA,AQN-i,zA x c e,(by rw[AW zA z z]),∀t∈zA,zB,(by unfold zA;rw[BI zB]),⟨zA,zB,rfl,zC,zD⟩,(by rw[List.size_toArray,<-zA]),AK it,AH fin zA,(by rw[BI zA];rw[BI zB]),AB4 b,SG List.length_map,i=j,⟨_,rfl,p,C,dx,_,rfl,zA,U.cl,zB,zC,?_⟩,if zA then _ else zB,(let ⟨zA,zB,zC⟩:=zD;⟨zE,zF,zG⟩),(zA zB).mpr zC,BE2 s'.gens,M3 zA (A1W B3 zB zC),f.1,(by rw[zA,zB]at zC;exact zD),(by obtain⟨i,zA⟩:=zB),(zA v zB).1,(show zA=zB by omega),~~~lq zA zB zC zD,BH k,(by have zA:zB=zC:=by simp),JY xs zA,GW u zA,YZ "line",ABN n,A8 b (IX zA) rfl zB,(by obtain⟨x,H1,zA,zB,q1⟩:=zC),CJ7 xs.map,X.prog=P,X.w=w,YO qI qE,PR N (kl key) zA Q,d.1,(by obtain⟨e,zA,zB⟩:=zC),(zA zB).trans,CC ys.length,(by have zA:zB=zC:=by rw[<-j];rfl),j<n,j<xs.length,KR Unit,KR Result,(by rw[IL zA zB (FX zC) zD]),(by rw[KA wpAny_pure]),d.names.length<=7,zA zB σ H Q,Sem Bool,CIK zA .builtin zB,CIN [],CIN L,AC6 s',zA (KU zB) T,hQ ARP ARO,Cls X.K C,ACQ (JY Ls4 (ZF (BDG zA) CJV)),BF5 (FAt C H p ra),DrAt C H p ar as ac ap d,DJ N ps st,zA zB X.env,Inv X qK zA zB zC,zA K rfl zB zC,A1W B4 zA zB,(by rcases zA with zB|z),(by intro qK s σ H zA I zB),(nomatch z),(by rw[ET zA zB rfl zC zD]),pos t.mask zA zB,lJ zA zB (ER zC),IZ rfl rfl _ rfl zA,⟨#[zA]⟩,zA zB zC=false,⟨rfl,zA,zB⟩,W2 zA (gD zB zC),(by rw[FF zA this zB]),((show zA from zB)),GI 0 (ER zA),Int×zA,c / 28,(zA).trans zB,AAR PySem.W.findIn zA zB,(zA zB).filter,⟨_,rfl,zA,zB,zC,zD,zE⟩,Same.refl H,DS zA zB A6,C3 (U5 zA),A25 MethOk zA zB zC (zD C),zA ns rss ss cs,absurd zA (zB zC),zA zB (some zC),F6 X (.builtin zA) zB,lQ C5 T.b_tuple zA,⟨zA,zB,zC,zD,rfl,zE,zF,zG⟩,D.nx σ zA,A5 (A7 zA zB),zA<s.heap.objs.size,(by by_cases zA:i<zB),⟨zA,H1,zB,zC,zD⟩,zA (.type zB) zC,KP q,xs=[zA],AK q,(zA,[]),λz=>zA (zB z),APQ p,lP x N,{cls:=zA,dict:=zB,data:=zC,slots:=zD},(zA zB zC).map,frs X.stack,bX xs.map,∀b o,zA->HV zB,(by simp only[List.mem_cons,List.not_mem_nil,or_false]at zA),congrArg zA zB,BX List.length_take_le,.dK [],zA (wpAny_pure zB),CI (zA zB zC pos) zD,L++M,[BD zA],KP (KP zA),uD zA v zB,AQ1 zA C,ABK JD,wpAny_call_entry zA zB zC zD (zE _),a1u AB5 AB5,EP X qK σ Q zA zB,A1Y "dict" (.dict #[]),⟨zA,zB,rfl,zC⟩,Q zA UI,~~~zA zB a,CP rss zA,x::l,frs outer,JJ [zA,zB],GI 1 (ER zA),(by refine⟨zA,_,rfl,gR UJ zB zC⟩),(by refine call_meets zA zB zC (BX zD) zE zF),(by rw[zA,List.take_length]at zB),OT SD zA,(zA t zB).1,C1 ?_,QU zA rfl zB zC,uG PM,tW #[] 0,(uP).env,(A7 zA zB).symm,(by rintro zA H' ⟨s,rfl⟩ p hp),∀c∈zA,zB,(by rw[List.length_map,zA]),(by obtain⟨c,zA,zB⟩:=zC),absurd (zA zB) zC,gC 3,(by rw[GM wpAny_pure]),ZD fp zA,DT zA=V.int zB,J3 qL k,(by .obtain⟨zA,zB,zC,zD,rfl,_⟩:=h;rfl),Itz K k1 k2 a b,zA.2.2.2,(by cases zA;cases zB),(by unfold zA at zB;split at zC),b=true,(by have zA:zB:=by rw[zC,zD];rfl),AS p zA,List.getElem?_eq_getElem a,Heap.lt_size e,(by rw[BJ zA wpAny_pure zB]),CD ?_,FH i zA zB,(by rw[DQ];exact zA),BDN CJK,BDN CJL,BEG zA OZ,(by rw[zA,zB,zC]),(by rw[LF zA]),AH zA e1,(zA,AK zB),GI zA (ER zB),BD n,Str.join zA zB=zC,HE H,E3 n,(by refine DX rfl ?_),FZ e,LU (zA || zB),AAV qB,(by rw[zA];exact IB zB),x=.str zA,s.heap.objs.size+2,APT A2I,mC (CJC zA) zB,AQC .bl zA,[e,f],BEZ n,(by rw[CJM zA];rw[ARI zB zC zD]),(by subst a;exact zA),⟨o,zA,zB,zC⟩,AH m zA,AH zA e2,(by have zA:zB:=by omega),zA (zB (o:=BQ zC) zD),BD j,if_pos h,x::ZT,GT us.length,QO Bool,EW ?_,KR Fin,(zA t zB).2,AAX UP,GY L,tQ "0",(by exact CD h),qA (LLI),A2Q us,CI o td,mY EU,EK L8 x,BE1 Sg5,c::cs,AC2 h,DJ [zA,zB] [zC,zD] zE,gY zA zB (gY zC zD a1B),A.units+1<cLine,Its H' zA zB,AR0 te,YQ (lZ α),V->AA->A2F,AQY K9 zA BE7,mL zA Nat.lt_irrefl _,DY b tb,TabOk t es,BF4 (DkAt C H p ns),Y2 CX X E,CKG zA (KU zB) T,(by first|rw[MA rfl]|rw[QY rfl]|assumption),Bl n a b zA zB zC,ABS FnOk X.base CX k f fd ps sp,.of_wp λprog w A R s h=>zA,zA (zB:=zC) zD rfl zE,gA _ ((zA)),List zA,WA zA K zB,(by have zA:CC (QM zB):=by rw[BD6]),(by show DM _ zA zB _ _ zC),V.str (zA zB),([]:zA),[wd zA],H' zA=BV zB zC,tOp zA ta tb,∀b o,zA->zB->zC,Q EU zA,seqObj "list" zA zB,AAQ zA MQ pos,.ins C dx zA,zA (.type zB),W0 h.get? zA,tU zA zB (HV zC),[zA,"one"],GU (gG zA) zB s1 zC,A1Y zA (.fields zB),A2 st,F4 K zA A6,(zA).lookup,(by show CC zA;exact zB zC),W0 zA c,(by obtain⟨zA,zB,d,zC,zD⟩:=zE),zA (~~~lq zB),zA K zB (ER zC),zA zB zC (some zD),zA I.hok e,CIH AQ0,WG zA xs,LR v zA,F9 st,cE ys zA,tZ zA "BaseException"=true,EL i zA e,AU 1,HW (GS zA),DY (zA zB zC pos) zD,QN zA zB (QP zC zD),zA++nbs t n d,BW s.heap.get? zA zB,(zA (by decide)),λzA zB e=>?_,LV zA e zB,lR (C1 zA),OpR X (binaryOp zA) zB,(by rw[HI (CIM zA) Bool.false_ne_true]),mask+1,JC b,zA (wpAny_pure ?_),FY zA H I zB,OQ zA s1 H1 _ zB q1,show zA from rfl,M0 ns x,CIV ah,V.ref zA,AS x zA,YR AA,λ_ _ zA=>zB,JL zA e (gP zB zC),ABG (BDT zA),(by rw[ABV ex AQ8 zA]),zA b o e n zB zC,⟨_,rfl,_,rfl,zA,zB,rfl,zC,zD⟩,zA=decide zB,JH zA x,(by have:=zA;rw[A33]),GL mZ,JC a,tVar i,gL [zA],(by rw[MV (by simp)]),CJ0 Nat.ne_of_lt,(by rw[List.length_append]),(by rw[BI (A2R zA zB)]),2 ^ b,AAV NameKind,X.mg zA=BV .ref zB,QQ AV zA,uJ s.heap.get?,c AR,A1V zA base zB zC zD zE zF,A30 zA zB zC AL,(by rw[zA];rw[LD BEV]),BE4 xs,AQH zA r s' zB,AAY D7 (N:=[zA]) (src:=[none]) zB,rI zA λi j=>BD zB,mI (O4 zA (K7 zB)),(by obtain⟨f,fd,h1,h2,zA⟩:=zB),tJ (M9 K 2 (BE5 (BD8 0 zA) (BD8 1 zB))),⟨_,rfl,_,rfl,zA,zB,zC,zD,rfl,zE,zF,?_⟩,⟨zA,zB,?_⟩,(by obtain⟨o,zA,zB,zC,zD⟩:=zE),~~~zA d,W2 l zA,GK zA V.str,AAZ .str zA,cA .inl zA,(List.mem_replicate.mp zA).2,b∉ch,r∈rss,vC if_pos,BET HJ,DM SD X.A zA zB X.xe zC,λb o _ zA zB e zC=>zD,(by generalize zA=H1 at s1 zB),a7N P w a xs,(by .obtain⟨zA,zB,zC,zD,zE,zF,zG,rfl,_⟩:=h;rfl),decide_eq_false zA,(by simp[zA,zB]),(by rw[A2V zA zB zC]),(by unfold zA;refine zB),z ▸ zA,(by generalize upd zA zB zC=zD at zE zF),f.heap.objs.size+1,AM zA (L6 zB zC) zD,OO vs zA zB,jv 5,BX Off.refl,(by rw[BI zA];replace zB:zC:=zD),(Array.getElem?_eq_some_iff.mp zA).1,MU zA D.mono zB,lT HT.lexLt zA zB,ZD zA (b∈zB),WI p2,GI 1 WF,te zA H1 zB,(by rw[cJ List.getElem?_map zA zB zC]),a::iD,uU bm.contains,BE1 V2,A2S (APX zA) (tCB zB t),Int.lt_of_le_of_lt zA BK,G6 qP,AR6 FW zA,A3I (ZA zA zB zC),ZI x C,CK0 ys,(by with_reducible rw[JZ wpAny_loadPart_at zA]),w1++bk++x,λi h h' st zA=>zB,⟨_,rfl,a,b,zA,rfl,zB,AG,BK,zC⟩,wpAny_pure zA,⟨dx,zA,zB,zC⟩,MtM X zA zB,(by exact SqL.of zA),(by exact wpAny_bind zA),AH s' zA,BH j,BX List.cons_ne_nil,(List.zipWith zA zB zC).zD,K0 e,K1 e,of_decide_eq_true e,YQ DictEntry,YQ ((qJ)),EJ a,EJ s.heap.objs.size,BM a,BM h,A1 C4,Q (.bl zA) zB,QO vS,BT zA c zB,HH R,tR zA .lst zB,LR x l,AB2 vs,PH 1,(by rw[MV (by decide)]),Ris xs,Bds xs,MG K f zA zB zC,MG K b zA zB zC,A2Q xs,zA x vs H Q,hE CY zA,AQE 33 zA,AQE 86 zA,DY o to,DY o td,(by cases r;rfl),α->V,X.A.units+1<cLine,A39 ns.length,AR5 n zA,vV ACY,BEL κ,UV C BFG,ARN vs,BER Int,t::ABE,Wg (wd zA),ADF X.A,ACO H' s'.heap,ASN (BFH zA),BFT [],BFU h,CK7 zs.length,cT W6 c,CK9 items,BFX zA i zB,(b,o),(by rw[AD zA (AQQ zB) zC (AQQ zD)]),mQ _ rfl zA zB zC zD zE,thn (gG zA) λv s1 (mV x zB zC q1)=>zD,CKS X zA,(by exact(show False from zA).elim),CL2 ds,YO TE TE,EK a7Q scope,OU dvs ds,CIC UP [],SetTable.below xs j,(by rw[cH BFO a]),YP a .dT qL,(by .obtain⟨zA,zB,zC,zD,zE,zF,rfl,_⟩:=h;rfl),(by refine wpAny_passesOwn hp (GU zA zB zC zD)),C9 scope X.env.scope=true,CompW src g zA te σ Q zB H1,(by rw[DZ];refine a0w (a0v B rfl (ys:=BDG zA) zB (CKZ zC) (ACZ (zD+zE)) (DD p O u B));have l:=l.trans u.off;clear u),∀(a:qB) (f:qE) (A:Around) (outer:HB) (s:qC) (H:Hp) (vs:AA) (Q:VK) (E:XK),BFJ zA uF zB,zA P w K mg,tI zA i zB zC (Or.inl rfl),(zA zB).upd,{cls:=LP zA,data:=zB},YO zA V,zA _ _ _ zB zC,⟨zA,zB,d,zC,zD⟩,GS (zA (zB zC)),LP "set",CW ⟨zA,zB⟩,A1V zA base C zB zC zD zE,gA _ D0,{s with toks:=zA},gE h' zA,YU zA u,AAU zA (AAT "__debug__"),D9 I q zA,Room k zA,zA X (zB zC zD pos) zE,ObjOk zA zB H zC zD zE,FC Hp VK,zA::rest,["self"],(by cases z),zA=BV some zB,APN h t,upd zA p zB,(by rw[lW zA this]),A1V zA base zB zC zD (zE zF),((show zA from zB)),GS (zA λq=>zB),bU a zA,zA (wpAny_bind zB),CI (tX zA) zB,HW (zA).map,KQ (AB7 zA),(by rw[<-zA];exact zB zC),Same.refl _,zA++[v],GL .non,X.held p,λzA zB=>absurd zC zD,uB zA zB h'.get?,(by rw[AW zA q q]),(by simpa using this),W2 b zA,upd H1 zA zB,(by rw[LW (zA>>=_)]),bZ X.env.cells.lookup,zA C H' p zB,xs.length=zA,x.2.1,gE zA tk,CI (CIU zA) (tS zB),BW K.lookup zA zB,HV H,id D,DD b o zA zB,.r zA zB x y,λD σ H=>zA,W0 zA a,LP "list",ER A4,GK zA V.int,zA.2.2.2.1,DG rfl zA,[([],zA)],(by refine⟨zA,zB,zC,?_⟩),AAZ .bl zA,tQ "way",gL [zA,zB],lP WH N,BDU topN,SqK zA K zB zC (zD V.int),a1E prog w zA zB zC zD,[CIO,wd "5"],Binds K fd ps [],zA->Bool,(by rw[AE (A5 zA) zB]),wd "cap",jaC zA (QP zB zC),Q (.bool zA) zB,MZ zA _,APQ pos,env::outer,M0 ns y,uV v,BE6 bk zA zB,CIW d.heap.objs.size,BED call zA zB,CQ b fp zA,show zA=zB from zC,BW zA s.heap.objs.size zB,s1.heap.objs.size+1,(by rw[tM hz zA]),BT zA h1 zB,decide_eq_false λz=>zA,YV cs.map,sIx n zA zB,ABM (PD<zA),(by rw[mU hi zA]),ACB nD,ACC AL,AQW a (zA (BE9 C s H ex) zB zC),⟨zA,zB,rfl,GR zC,rfl,zD,zE,rfl,zF,zG,rfl,rfl,?_⟩,(by obtain⟨zA,zB,c,zC⟩:=zD),(by unfold zA;rw[zB];rfl),Vals (zA zB) zC,Q QR zA,AS zA j,(by rw[BI (zA zB zC zD ?_)]),tn i zA,EJ l,F3 P w,FY zA rfl zB zC,FH zA s1 zB,(by have:=zA zB zC;omega),UL a3c,gP k zA,List.length_map ..,2*M,ABF vs,zA xs ys,bP PySem.W.findIn zA zB (WE zC),BEE bk zA,c % 28,BEN cs.getD,a0W p q,[z,TI,TO,g,j],zA<=10000,(nomatch e),zA∉t.place,~~~a1n,Nat.le_trans zA zB,(by refine wpAny_call zA),AJ List.append_nil zA,CC qL.length,model P w,DH ⟨zA,zB,zC,zD⟩,λx hx=>zA,A24 zA rfl,SF a zA,⟨_,rfl,zA,zB,zC,zD,rfl,zE,zF,zG,zH,zI⟩,A7 e zA,BDC V.bl zA,uD zA u zB,mO zA (zB K),(by rw[BDQ wpAny_isSubtype_exc zA zB]),h x List.mem_cons_self,A2X ys,A2S (APX zA) (AS9 zB),AQT O.kle zA zB,R (AS2 zA) zB,BE8 a,c i ys H,F4 K zA (jv zB),AD4 ys,(rows i).2,vN (bk.length=1),uB A3E ZS zA,∀v,v∈zA↔zB,(by show Sub _ zA/\_;rw[zB];rw[DU Sub.one zC]),(by rw[zA];exact zB),(by unfold zA;simp),⟨zA,AS zB zC⟩,(by simpa[zA]using this),(show zA by omega),IsPair zA zB zC zD,r.heap.objs.size+1,decide_eq_true rfl,LP T,LP "int",zA x hx,List.mem_singleton.mp a,decide_eq_false h,gB s',i<xs.size,HW l.map,.k n,IY zA a,bQ .inr zA,tK LqR,FZ g,(by rw[IL zA zB (BQ zC) zD]),(by rw[IM zA];rw[IG t' zB]),zA rfl zB WF,wpAny_pure ?_,v::vs,QX p,(by rw[NJ hz]),nA [],hY a2u,Value.int i t,2 ^ (BZ),R (.ok (II .ret zA)) zB,E3 x.toNat,SqT X.K H zA zB,U8 ys j,x≠"__name__",AU k::ks,Meets (zA zB) (λ_ R s=>zC),λi v x zA zB zC zD zE q=>?_,xI a C none,DD zA H1 s1 zB,∀i,zA<=i->zB->zC,KT H qL xs,(by rw[BFS i hi zA]),(by obtain⟨z,its,n,r,zA,e⟩:=zB),kv.1,(by exact this),(by cases zA;rw[IM zB]),(by obtain⟨a,zA⟩:=zB),⟨q,zA⟩,(by unfold zA zB;rw[BFR zC]),(by generalize zA=H2 at zB zC zD),zA (List.getElem?_eq_getElem zB),(zA).trans,qA β,(by exact wpAny_execs_nil zA),fuel+1,iV+1,.inr rfl,GI 2 zA,AJ zA List.mem_cons_self,AM zA qr zB,qD Expr,qD Str,OO xs zA zB,decide_eq_true e,gC 4,h.2.2,IX if_pos,YQ α,(by rw[GJ zA zB (BQ zC) zD]),sdC n,x::r,FE G0,BA q,CXN P w,(zA y zB).1,p::r,QO QT,QO ADT,(by .rw[AE UX zA]),SoP key p zA,APM o,y::b,zA=pure (),bZ qQ.lookup,gJ List.getElem?_append_right,FiTx K C,QS AV,gL (BDM zA),AB2 ys,Gl zA x,ZF zA (ARV zB),.str y,mD FT zA,CI (BDL zA) (tS zB),DD b u zA zB,(by rw[ZZ (HW zA) zB]),AQG (EW zA),10 ^ 100,(by rw[nK zA];rw[cH zB rfl]),AC4 a,(by rw[IG t' a];exact zA (A2B zB)),iU GV,R (.ok (CKC zA)) zB,ACK a2y zA,AR4 j,ARA qL.length,(by show zA<=_;rw[KZ zB zC zD]),BEK .str zA zB,ACU b,AD0 RG,ART s.heap,BEU s.heap,(by rw[IM r];rfl),CJI Loc,W i m σ H,K.In s.heap,zA b o q,ADR s.heap,ASV k,BG3 vs,q::qs,(by rw[CS zA j i]),EK L8 y,(by rw[cJ c zA q q]),t.led=ABR,QN A4 A4 zA,.cons r t,thn (vM zA zB) zC,vI=KH,BGQ∨ARX X.env.scope.names.lookup,none∈os,(by try dsimp only[B1,List.set]),t.place.getD i 0+1,(by rw[AE Heap.size_push (BG4 zA)]),gA _ (UL zA).h,a2P ns zs,QQ ASE EU,(by rw[AD h1 (zA zB zC) h2 zD]),(by rw[ADX zA zB us rss zC]),lV b k.map kV,⟨_,rfl,_,rfl,zA,zB,zC,zD⟩,A2J owner[j]? q,J3 qL k=none,ARD zA (Obj.isFreed_of_fields (Obj.data_mapFields zB _)),(by .obtain⟨zA,zB,zC,rfl,_⟩:=h;rfl),key _ ⟨zA,zB,?_,?_,AG⟩,T9 N src X.N scope=true,IJ x st ps,gM "_law_next" "_law_pot_here" "_law_many" a3j,(by obtain⟨σ2,H2,b,a⟩:=a;rw[FJ σ2 H2 CKR a]),A1V zA base zB zC zD zE,zA prog w,lH starEach zA,zA zB (zC zD X.env),.Call zA zB [] zC,bP zA zB zC none,BD7 zA qual,(zA : Str),HX ((zA==zB)),YO Str zA,(s.heap.push zA).zB,JA X zA t,(zA zB zC zD (by show BX C9=true;rfl) APL APL),Q (zA zB) H,.Attribute o zA zB,OV zA rss,OU zA us,A22 zA Str.join bk,FV H' zA,KW e,s.toks+zA,s.heap.push zA,lJ D5 T.b_len zA,HOk P w zA zB,FV H1 zA,V.str (Str.join bk zA),{zA with heap:=zB},excClassObj zA zB zC zD,u::r,CP zA v,rI0 λi j=>zA,λi zA H' _ zB=>zC,G8 (v:=zA) rfl zB zC,DK "__next__",F7 K zA A6,cC p zA,(show zA by decide),List.replicate zA 0,YT "of" ns,BQ [zA],λ_ _=>zA,CIL w.params.followText,APS zA X.K X.mg,List.replicate zA (wd "1"),ABD nm zA C N bs zB zC sn sub ab col dd k0 k1 k2 k3 k5 zD,(by subst zA;obtain rfl:zB:=zC),BQ [],.int zA 0,UO zA (AQ5 zB Q),BDK (AB0 zA qN),∀p,ND->tV zA,SqAt k zA l zB,(by simp at zA),zA s.heap zB,SF zA o,xs.map zA,IW H' zA,TyOf K H zA zB,zA zB (wpAny_pure ?_),Nat->Nat->zA,CIP EB,SetTable.below t.place zA,⟨mG,zA⟩,lJ zA T.b_isinstance zB,tW vs.toArray 0,A8 a (IX zA) rfl zB,[CIT],⟨zA,zB,zC,0⟩,WM∈zA,A1V FnOk,gA _ ((zA zB)),.int zA u,ZC Str.ofString zA,lT behindInMarks zA zB,APS HOk zA zB,.bool false,∀n∈N7,zA,sIx items.size 0 lo,Value.type zA,["self",zA,zB],LR y zA,SqL K H zA zB,∀b u,zA->zB->zC,bU zA us,i<=j,cG (GT zA),B5 zA A4,mR H,(zA) % 26,AAQ (APX zA) zB pos,AC0 (ABL zA),zA prog w zB,BDV dfl tn,(by intro X zA hw zB zC i qK s σ H E I zD st zE;subst zF hw zG),List.mem_cons.mp zA,⟨zA zB⟩,BV .str zA,(zA zB zC).extBut,t.2.2,cI q zA,zA j 0=MY zB,Room BZ zA,BDZ (zA zB f g zC) zD d,zA λσ2 H2=>tb (CJB zB zC) σ2 H2,(by exact PySem.W.kia_one zA I.kIn zB e gW h),ys.length=zA,(zA).toArray,(by with_reducible rw[GM zA]),(NE zA).1,.int zA t,wpAny_bind (zA ?_),uC "rows",Its zA vs rss,TupsAre zA vs rss,CQ y ys zA,qI×qE,((A31 (mT b) LA)),A2D zA .Assign [zB] zC zD,A2N Ok zA zB zC zD K,(by .obtain⟨zA,zB,zC,zD,zE,rfl,_⟩:=h;rfl),[AQK],(by cases zA),⟨zA,zB,e⟩,∀(zA:zB) (zC:Nat) (zD:zE),zF,(by obtain⟨zA,zB,zC,_⟩:=zD;obtain⟨zE,zF,p2,_⟩:=zG),(by obtain⟨⟨zA,zB,zC,zD⟩,zE,zF,zG,zH⟩:=id zI),AK I,AS y zA,~~~zA h1,YP zA .own zB,OQ zA zB H2,A1 (G5 zA),lP zA m,gF (GL (ZC zA zB)),xs.map λx=>zA,FC Hp ((zA)),.dT [],A2L H1 zA,AQ7 objs.size,(zA++zB).toArray,mJ zA 1 A2H zB,o.cls=.type zA,List.getElem?_eq_none (~~~S6 zA),NS a b H zA,CK1 zA (AQF a zB),AAQ (AB0 zA qN) zB qM,AAP backTo pos starEach zA,mC (zA b (Nat.ne_of_lt (iE e zB))) zC,∀(qK:DA) (s:qC) (σ:St) (H:Hp) (zA:zB),zC,(by rcases zA with zB|⟨o',zC⟩),{d with zA:=zB},h.objs.size+1,AH zA lk,wd "=",A1 (J0 K EV zA),2 ^ 60,KP UR,HY X.env.locals,WC xs zA,xs.getD i 0,APZ "left",APZ "seed",APZ "many",λH' s=>⟨zA,zB⟩,CIH AQL,AQ1 zA D,i+j,A27 (AB6 CJO),C3 (zA zB A6),BF6 a4t,Z0 A4 zA,zA key p' zB,J4 l ρ,ASD V1 te zA,(by rcases zA with⟨zB,zC,rfl,zD⟩|⟨zE,zF,rfl,zG⟩),AS H1 s1,BU 4 sc__law_bad.nd (DS X4 4 zA),g+st*i,A2E P w h a zA,rawInt zA,(by rw[zA,zB];omega),(by exact .nil),~~~a2v,(by rintro⟨zA,zB,e⟩),z+1,AS z zA,wd "price",W2 zA (TZ zB),v.length=zA/\zB,xs.getD zA 0,(by rw[OR wpAny_holding zA]),DM FW A zA zB E s,IY zA .cell,DH (EW zA),tL G7 0,1<=m,zA b u e,frs l,GW xs zA,gH SK,plainId_quiet zA _,FY (AK zA) _ zB zC,AB8 WF,AQF p zA,N-d,n<10 ^ zA,uR a,AQP PySem.W.keepIn,vF (vF zA),LX H p zA,Itt K a,AQS p n,J4 zA ρ=i,zA h1 h2,(by rw[ET zA zB e List.mem_map.mp zC]),(by rw[AS1 zA rfl]),∀x c,A37->zA,(zA b zB e).stay,cP qL.any zA (zB=k),BFW its.toArray,(show zA<=_ by exact zB a zC),(W5 L.size zA zB).zC,∀ys H,zA zB ys H->zC,AQZ Lt ns.length,(by show(ABQ _) _ zA),uN xR p g dd,bN (R.map V.str).eraseIdx j,zA λσ2 H2=>Sub WO σ2/\zB σ2 H2 λb zC=>UW b (te σ2 zD λv zE=>zF) zG,A38 DrAt ar as ac ap zA,cD StP rss cs ys λ(QM j)=>DT j,wpAny_bind zA,[CJS],(by rw[FF zA zB zC]),(by rw[List.length_map]),(by rw[List.getD_eq_getElem?_getD,zA]at zB),⟨zA,zB,zC,rfl,zD,zE⟩,(by rename_i hk),((nomatch zA)),((RE)),BW (ASR zA zB) zC zD,AH t zA,(by refine .inl zA),BH xs.length,(by have:=zA;exact zB this),AU o,BD m,BX IsTp.new,(List.range zA).zB zC,AAN intKind,BM r,HY x,HY e,(by rw[CA (BFM zA)]),JY zA (BDU zB),FZ KC,WB F.len zA,1<=d.names.length,YW i,LX H1 zA zB,f x y,N5 zA A6,Y7 zA A6,spl l,WI pt,mH zA 0,ZN zA bk,ABQ False,(by rw[WW (C1 zA)]),(by rw[dD];refine zA zB zC),AQT O.blt zA zB,nP wpAny_pure zA,(by refine ZP zA (hJ zB)),λv z=>A2I,BEY os.map,ADV zA zB value zC,EK xs.all L8,(by cases(lX AQ8 d)),A1 (zA A26 (tJ zB)),CLI CLA,CLJ 0,(by rw[AW zA e1 e1]),DictAt zA p dd,rem H2 p,EW (vD j v),λi H zA H'=>zB,uM Y9 A4 zA,Nat.ne_of_lt (Heap.lt_size e),fr owner zA=true,codeAny zA A zB zC s,mI (a2x zA (a0K zB)),LO (b.take i),wpAny_setField_rec zA AL λzB zC zD=>?_,vT _ False,CJ9 true false,CJ9 false true,lQ a3I T.b_all (WK zA zB),ASZ zA zB (N:=[zC,zD]) (src:=[none,zE]) zF,∀{b:qE}{o:zA},zB->zC->zD,YY (GS BFC)++[BF8],AT5 t/\t.length<=2,ACG++CJR++BDX (cD a0G A42 ns caps),zA=ns.length,(by rw[BD6]),(by rw[BI8]),∀(zA:Nat) (zB:zC),zD,∀(zA:zB) (zC:Nat),zD,(by obtain⟨d,zA,zB⟩:=zC),(by obtain⟨zA,zB⟩:=zC;obtain⟨zD,zE⟩:=zF),(by injection h with zA zB),if zA then BHE zB else zC,(show zA by rw[ED zB zC]),show zA from rfl,(by generalize VB zA zB=zC at zD zE zF),a1X _ zA,BV zA _,AH k zA,AH zA g,BH its.toArray.size,.ok _,Nat.le_succ _,(by have:=zA;rw[AW zB this this]),AS m zA,AU u,AJ zA (lq zB zC zD),Same zA H',~~~a3V zA,(by have zA:qL.length=zB:=zC),(by .exact BFN),List.mem_map.mp a,HV h'.get?,decide_eq_false e,λz=>?_,i<xs.length,CW (EW zA),DY (AEN zA zB) zC,DD zA H2 zB zC,BM d,FB H1 zA zB,HE H',HE H2,BD4 Expr,BD4 V,DJ zA (YZ zB) zC,BA h1,CXE P w,upd zA a zB,tK ((LLI)),JC z,JC e,List.mem_cons.mp z,OQ zA zB H2 _ zC zD,QO O.α,BS zA h,KR LS,(by rw[tM zA 300000]),IJ zA zB (uC zC),DF c,DF d,KW _,WB Heap.get?_update_ne zA,.v i,if_neg λz=>zA,(MV (by simpa using e)),HH hp,GA none,(by rw[HI rfl zA]),its[i],ZB l,λvs H Q E=>nV zA,IB e,MY r.getD,NB x,λH' s'=>zA,.a x y,.s x y,uA x,LO l,PH 2,lZ Nat,Q v H,λH' s=>BHH zA,Heap.SameBut.update ..,q _ WZ,mD cF zA,mD iI zA,uG EV,SH List.length_append zA,Stp d zA zB,uJ h'.get?,AQ3 RO,.bool true,cL List.mem_flatMap.mpr zA zB zC,ABF its,PX hl,cN zA zB zC (YZ zD),cN zA zB zC A2H,ZR a1z,MG K d zA zB zC,.m n y,cQ iG,AQC .str zA,AQE 59 zA,k<xs.length,uY .BoolOp zA zB zC,ABZ m,aD name,vG .Add zA,vG .Mult zA,(by rw[uK zA g t os s]),CIQ CMG,(by exact DX List.mem_cons_self zA),vK wpAny_pure,AC9 Bool,iK e,Itl K a,dM v,BE8 d,A3C .Mult zA,vR b,YQ (lZ qB),CJ1 qL,V->V->A2F,s'.os=s1.os,vZ (CJ zA) zB,ARH ATW zA,oV zA k,BEU h,Sm ys,dx≠x,a≠b,AD9 zA h.h,ARZ ys,k zA AL _ zB,BF1 AS5,CJI Vis,A4D jF,ADJ cO,zA X (zB X.K),DS zA 0 JD,(by rw[CA (List.mem_append.mp z)]),BF9 a,ADQ H',ACN op b,ACD J1 (lY (ABI zA zB rfl)),ACD J2 (lY (ABI zA zB rfl)),CJW vP zA zB,CJW AD6 zA zB,BFI k1,AA->A2F,PPs X pos zA zB zC,Bel r ys,(by wp_walk using wpAny_loadPart' a),T4 ns cs,ATR i,Y3 h₀ h,(by rw[GC CU k]),SqL K H p xs,YX GO::us,ATV 1,ATX CKL,(by rw[MC r pl zA I.list zB]),CI (ABZ zA) (BG9 "list" zB),(by rw[AU3 e2]),CL4 PySem.F.plainAttrs_list zA zB zC,CL5 κ,CI i ty,.int a t,(by rw[WQ j zA List.mem_iff_getElem?.mp zB]),StP rss cs ys,iO a tA,BHX A6,BI9 c,zA K vs H Q y_3,Nms d.names,YO WJ BI2,CLR zA zB hz,gI n x,λi h st zA f=>zB,CM1 o,ASO (e::rest) env,BF I.write x zA e zB zC zD,(by rcases h with h|h),(by intro _ _;rfl),CMI (W 0 m σ H) zA,CMJ zA (zB K c),t++BH0,(by unfold SetTable.runEnd;split<;>omega),zA (KU zB) T zC,X.env.frame=some X.env.locals,α->β->zA,DY l tl,A1 (CKK B4 zA zB zC),.t y n,(by rw[LW (zA>>=GA _)]),absurd rfl h,UE x xs,((∀c o,zA->zB)),C3 (Q8 (WV zA)),YX A4G::b,DM FW A zA zB NoX zC,A2J (PySem.W.nsIn K mainGlobals zA) zB,cL List.mem_map.mpr zA zB rfl,(by rw[SO h h]),ObjOk P w zA zB zC zD,Tk H H',ACT "rows" "caps",entryFor table zA=some zB,CK2 E3 n,AT3 R0 T.b_range zA,mK AskA ps x zs o,CKE X.stack s1.heap,(by obtain⟨f,fd,zA,zB,zC,zD⟩:=O.ex),It1 K k a,BIE H' s'.heap,W4 (i b _ (λ_ w=>ADZ w) z),∃u∈L,AS6,tgl row.length qP c,h.Ns1 dx mA,wpAny_field b zA (x:=zB) rfl,.ins C dx r,IsEnum zA e it zB a,k H (Same.refl H),a1o zA λl h=>zB,BGA 32 20 (ys:=zA) λy zB=>zC,(by refine⟨false,zA,_,rfl,UJ,zB,?_⟩),j zA (λfs z=>lN),(by simp only[List.mem_cons,List.not_mem_nil,or_false,not_or]at zA),(by .rw[XA zA];rw[BJ zB .inl ⟨zC,rfl,BK,AG,AG⟩]),typeOf (.builtin id)=tZ pure "method_descriptor",(by obtain⟨vs,e0,N,M,D⟩:=zA),zA (us:=us) (Nat.succ.inj h),⟨_,rfl,zA,_,rfl,zB,rfl,_,rfl,zC⟩,λqK s σ H zA I zB=>zC,upd H' p (xR p C dd),([1,3,5,7,9,11]:qI),opI λzA zB _ _ _ _ _ a q=>zC,∀(qK:DA) (s:qC) (σ:St) (H:Hp) (zA:zB) (zC:zD) (Q:zE),AN->zF->zG,(by rcases g with⟨qL,k,e,zA,l⟩|⟨qL,k,b,e,zB,zC,l⟩),(by obtain⟨nm,zA,zB,bs,sn,sub,ab,col,dd,k0,k1,k2,k3,k5,lk⟩:=M.cls),(by rfl),CI zA ta,A21 zA g zB os,envOfC qual scope zA f cd,CIF A23 (.set #[] 0 (.fresh 0 0 zA)),.Name x zA,LQ o,zA X.prog X.w zB zC,λ_ z=>zA,bN (zA).map V.bl,((MR zA++zB)),qA Keyword,.Name zA p,APP a,bQ Str.ofString zA,CIE CXE,zA zB vs H Q E,pk b l t zA,C0 zA B8,(by repeat (any_goals (rw[zA]))),zA X qK σ zB,LR zA C,AAW APY zA,BDF a,["rows",zA,zB],SetTable.bits h,A1Y "list" zA,gF (Q (zA zB) H'),APO zA::outer,F5 (top zA) zB,I.hok zA _ zB,bQ .inl zA,codeAny_mono zA λzB zC zD=>?_,KS zA rfl rfl,zA K zB (.type zC)=some zD,DT 0,CIE CXN,AB9 H zA,SetTable.runEnd mask i,E1 zA (AK zB) (E1 zC (AK zD) zE),U3 zA cF,PySem.W.mg_of X G zA,ABA p,(E9 t.mask zA zB).j,zA (YW zB) (YW zC),zA=.fields zB,AK S,∀zA C s H ex,zB,U1 mask i pt zA,⟨zA zB c.h d.h zC⟩,HW (FQ zA zB),DY e zA,x::st,tL zA 1,II pyNext zA,APN zA tk,NF E3 zA zB,DM zA A zB Q E A2K,∃t,u=zA,Ans rss v,start N vs,zA<sizeLine,[ZL],⟨CY,zA⟩,Heap.get?_update_self _ zA zB,Same H1 zA,BQ ys,Wg x,∀b u,zA->zB,(by rw[lO zA zB Option.map_eq_some_iff.mp zC]),APO a.heap.objs.size,A29 h'.get?,zA ns zs x,A2D zA .BoolOp zB zC zD,AQU o.data zA,CIZ (FO MQ),BEC MQ,(by have zA:JH zB zC[j]:=by simp at zD⊢),(YX zA::zB).contains,a4d w t zA,DRaw zA d es ep,∀H1 p,PF->AQR->tV zA,y.length<=zA,(zA (by rw[EX zB zC])),IY zA .local,t.2.1,Z4 ns zA,AAW zA push,(by rw[gX wpAny_seqItems zA zB]),.ok (.ret zA),CQ r rss zA,YS zA zB "rows" "one" zC,uE "list_iterator" BEI,CJA F,lJ W9 T.b_zip zA,zA zB qK s σ H _ I h,tCB (zA K) t,zA ns rss ss cs zB zC,(C6 src σ).set,(by rw[KA (wpAny_field zA rfl (x:=zB) rfl)]),CompW src (B1 0) zA zB σ Q zC H,AK nt,(by have:=congrArg zA zB),i<=xs.length,AB0 m qN,nB e zA,y=.int zA,putK qL k zA,AAR findIn EA zA,Its H' zs zA,∀v H',BG->zA->GL v,backTo pos (starEach zA zB),∃t,zA zB zC t/\t {nx:=λ_ H'=>A2Y,rt:=Q} AR9 H,(by rw[zA,zB,zC];rfl),(zA zB).get?,X.A.units+1,AJ e zA,SqT K H zA zB,(AQX zA).1,R6 st,EI (II zA zB),OW SetTable.leap zA zB,AAY (A1W U6 zA zB) zC zD zE,xs[i],A25 MethOkE zA zB zC zD,lX (AR7 zA) zB,zA rfl zB (ER zC),uI zA zB hz,CQ x zA ARG,A2J zA[i]? zB,AQI KC,zA prog w s.heap zB zC,OY c i,λ_ _ q=>zA,A2P (mE xs.zip ns) ACA,Nat.ne_of_lt zA,s.heap.objs.size+zA,W.length<=zA,v.length=zA,[GV],⟨zA,KG zB zC zD⟩,["rows",zA,zB,zC,zD],(by rw[<-Array.length_toList,zA,zB]),List.replicate zA zB,AH zA e,AU 2,W0 zA p,CP σ zA,LQ a,EE (1+zA),x=.int zA,bX ns.map,∀b o,HV zA->zB,ZJ Option.some.inj zA,C3 (DS K2 zA A4),A34 u,∀r∈rss,zA,NZ cs,BF7 zA zB false,CJP (YX zA),(K3 ns cs).zA,upd zA zB (.ins C dx zC),(by injection e with e1 zA),(ap zA AL).1,Lst a v,(ap zA AL).2,M5 f mB st (zA::rs),(by unfold pyNext;rw[OR wpAny_attempt zA]),zA zB qK s1 σ,seqObj "tuple" vs.toArray 0,(E9 mask p n).zA,λi zA H' _ _ h=>zB,a3P X qK H b,X.s₀.heap.objs.size<=zA,(by rw[Heap.size_push]),AK m,BH NH,~~~a3U zA,Value.ref a,CP zA y,(t.put zA).1,typeIs_int zA zB t,I.pin p zA,OX H1 zA,bZ (BG5 zA zB zC),L=[],gQ PySem.W.plainGet zA zB,E2 ?_,k _ (gZ zA zB zC),SN zA v,zA y c e,(by show MD _ (zA>>=_)),AC5 ca,.int i t,iJ zA hr.mono zB zC,(by dsimp only[B1,ovI]),M7 D.ok,v=.str zA,YT "=" B,BadR zA a b zB zC,zA zB (List.replicate zC 0),X5 k l,ZG t Q,CJU f,fs++zs,rss.map λr=>zA,(zA prog w).zB,lT fr owner zA,CKN us.toArray,starEach MQ zA=(false,BF2 zB)::starEach es zC,.Name y w,rss.getD i [],lJ C5 T.b_tuple zA,a0W q p,(by rintro i x ys zA hx ⟨zB,zC⟩),FY QR _ (I.laid (t':=zA) zB (UY zC mX) BO zD) zE,(nomatch h),(by simp;exact zA zB zC),(by simp at zA;omega),⟨o.slots,zA⟩,if zA then UC (zB+zC) else zD,zA ++ bk,(zA).get?,b.objs.size+1,Q zA A2K,AU dx,wd "sum",jv 4,FD c,HE H1,2 ^ 62,Sum.inr n,zA X e t,tL F8 zA,j<ys.length,FP m,FP j,U3 PySem.W.keepIn zA,ys.length<=i,(by rw[LC];refine zA zB),PK h1 zA,gR (FD zA) zB zC,mH N5 zA,BDM "other",codeAny_builtin zA ?_,BadT n y,Sem qB,WS (tY zA),mS e zA,(n,k),ABN ns.length,FP zA::gH zB,(by rw[cY zA List.length_map]),AC7 AV zA,∀m,m<n->zA,nU zA i,a i ys H,∀σ H,zA->zB,T5 ns zs y,ARS AR,Code.quiet_builtin _ BK,zA σ H1 Q,E7 iA,CQ t ts zA,[iN,BD j],cM k x,CKD Came,PI X tg l zA,BGC zA .ellipsis,n∉cK zA,~~~a1m c,.frz o u,((2*u+1)),DPut H a zA zB zC,⟨_,rfl,zA,zB,_,_,rfl,rfl,zC,zD,zE,zF,zG,zH,zI⟩,a0s xs lo hi,(by unfold topN at zA;omega),.str zA tk,CLK zA cls zB,ca x',∀x,zA=pure x,~~~a3A k,prices.map λx=>CLG,[BD n,AV],[DT 4,DT 7],MkX K C L zA,APU [true,false,false],APU [false,true,false],FH j h1 h2,DM SD X.A zA Q E s,E7 (Z4 ns zA),BF zA A zB s s (e:=e) zC,λ{x y} zA zB zC=>?_,cK qL.map=IK zA,hd ys H p,zA (base:=base) (P:=l.prog) (w:=w) zB zC zD,λ_ _ _ H _ I h=>zA,sIx items.size items.size hi-ACR,(zA i H/\AD1)∨(zB i H/\CLL zC zD zE (BH3 zF (ADH (BH2 σ) N N))),a0m (ARL zA) zB λl m h1 h2=>zC,(by rw[DV (λi m zA H=>m=zB-i/\zC/\zD) zE ?_];rintro i m zF H ⟨rfl,hi,p⟩),beq_iff_eq.mp zA,[CK5],this.2,⟨c,zA,zB⟩,(by rw[List.map_cons,zA]),(by obtain⟨zA,zB⟩:=zC;exact zD),⟨zA,BH1 zB⟩,(by obtain⟨_,o,zA,_⟩:=zB),(by generalize upd zA zB zC=zD at zE zF⊢),AK pp,(none:zA),AH s5 zA,Lsts H zA zB,CC vs.length,gB UI,HW L0.map,HW six.map,r.length=zA/\zB,(by rw[OR wpAny_tryCatch zA]),FE A4,BD5 F3,II CKV zA,DF h1,FP l,TZ j.map,TZ d.map,TZ d.sides.map,TZ BFK,FZ i,(by rw[lM R h]),YV CMB,YY ys.map,b∉ex,WC σ (ZG zA zB),eqV x y,GW o ?_,CQ x xs zA,ClsX K C zA,List.mem_singleton.mp q,.str w,gZ Same.refl zA zB,hH "way",UG zA+UG zB,iC n λi=>zA,hV zA its,zA xs q1,uX oF,AC5 E5,c∈fgs.cps.toList,ACF zA (ER zB),BEM k.map,BEM CMF,BF3 h.Ns,(by rw[ASF List.length zA]),ABI CJD zA OZ,ABI zA a OZ,ASK v,zs.map some,AST True.intro,AEM zA ea,SetTable.runEnd mask zA,OV zs qP,.ext λh=>zA,DY (tX nC) zA,CL6 ws.map,JA zA MQ t,BHO vs.toArray,BHQ CK8 zA,BHU e.length,CI (AD3 zA UP) (tCB zB t),CLZ J,AE9 (uM a0q zA zB),⟨_,rfl,_,rfl,zA,zB,zC,zD,rfl,zE,zF,zG,zH,zI⟩,ARU (AEF (bN zA f)),AE8 zA zB x y v u,BIA A4 A4,xs++ys,(by rw[List.contains_cons,zA,Bool.or_true]),(by subst zA;refine⟨BIB zB ?_⟩),zA (Str.join bk),decide zA=(zB==zC),Nat.le_add_right _ 2,(by rw[AW zA e2 e2]),gD caps.map ovI,λys H p=>zA,PR n lt zA zB,.cons rfl r,AQ9 "totals" "j",[DT x4,DT r5],[DT (1+i),x],BEX "names" "numbers",BEX "numbers" "width",(by obtain⟨z,hd,vs,c,dd⟩:=uO a4b),BGV (CMR A49 zA),(by cases(lX (BDF b) zA);obtain⟨z,hd,xs,c,dd⟩:=uO a4a),∃zs,os=zs.map some/\zA,BDZ (zA zB d f zC) b.h c,(by rw[iP ⟨zA,zB,λσ' H' p'=>zC,BH6⟩]),a3J mask i pt zA zB,[DT g,DT st,DT l],(by rw[DQ];rw[MA ⟨zA,ZG hd p⟩]),(by simp only[List.mem_cons,List.not_mem_nil,or_false,not_or]),T4 ns (prices.map prO),∀h',zA->s.heap.UpToSlots h'->CM7->oC (),HW (cD nbs t n d),(by rw[AE3 cls dd data sl zA zB zC hd zD]),⟨_,rfl,p,C,dx,_,_,rfl,zA,U.cl,zB,zC,zD,zE,zF,zG⟩,[BFP,DT 3,DT 5,DT 7,DT 9,DT 11],(by have s':KO (LX H' p zA):=s.upd hp;rw[DN (A4R p zB A0 zC zD zE []) zF];show Sub _ zG/\_),(by refine wpAny_handleBy_cons (codeAny_handlers_test ?_) (by intro q;cases q);refine L3 (X:=A2Z) (zA p) zB zC ?_ zD),List.range zA,s.heap.objs.size<=zA,zA<=t.mask,us.length=zA,(by rw[<-zA]),(by rw[TY zA]),(by rw[A53 zA zB zC]),(by have:=zA;rw[XF zB]),(by rw[jB zA];exact zB),(by simp;omega),(by rw[List.all_eq_true]),⟨u,zA,zB⟩,(by exact hr₂.elim),(by subst zA;rw[HM A0]),(by obtain⟨_,rfl⟩:=zA),show zA∈zB from zC,(by obtain⟨_,_,rfl⟩:=zA),(by obtain⟨its,zA,zB,_⟩:=zC),(by rw[List.getElem?_map]at zA⊢),(by generalize zA=H1 at zB zC zD),((CLQ)),if_pos (zA zB),zA (List.mem_of_getElem? zB),BW zA f.heap.objs.size zB,xs.length+1,(zA zB).isSome=true,AH X zA,AH s4 zA,AH ss zA,(by have zA:zB:=by rw[OP]),(zA (by rw[A2V zB zC zD])),G9 rfl,Q .non zA,Q (AK zA) zB,AS j zA,AU q,AJ zA h2,AM l.extBut zA zB,FD (AM zA zB zC),lq zA zB this,gC 5,i<its.toArray.size,GR L,IX decide_eq_false,IX D.mono,.inr x,if_neg b,if_pos b,List.mem_cons.mp b,.bool b,a4K b,BM hl,EZ l,0<=i,0<=AFE,KP KC,A5 c,IY zA .free,FX xs,GL v,GL EU,(by rw[DE zA Bool.and_false zB]),GT ys.length,(by have zA:=s1.trans zB),HY [],EK (zA).all zB,Str->qD NameKind,JC List.mem_cons_self,QO Nat,QO qI,QO Str,KR α,A3 (J0 K EV zA),IJ zA zB ADP,DF q,DG zA ?_,(MV (by simp)),YU s.heap.get? zA,JK "len",EI CLY,KY o.dict,bU zA xs,YW k,A5B zA<=_,.no f,GA rfl,GY a,lR AUS,gH (FP i),APN h' zA,i<=n,ZB CNQ,λvs H Q E=>AF7 zA,APO d.heap.objs.size,IN e,IN dot,GU (AS8 zA pos) zB s1 zC,b∉X.fs,LY (HH zA),λi _=>zA,UC (i+zA),u=Value.bool zA,IsX K C,M=[],(by rw[zA]at h;exact zB h),(by rw[zA]at h;rw[CS zB l zC]),(by rw[List.getElem?_map]at h),NB "len",QS y,tX ASH,ZD nG zA,(by rw[LC];exact zA zB),∀b o,zA->zB->zC->zD,c≠z,NG List.map_cons zA,a2X zA A6,JM zA A0,p.getD i 0,LZ List.length_map,x∈D,A2C A,SG List.length_append,RelV v zA,Q (ZC zA zB) H,cG (1<=zA),ZJ zA _,(by rw[IR Sub.one]),(by subst a;exact zA b),LG (lq zA zB zC zD),mD EA zA,(show zA=zB by simp[lnW]),(by rw[QV zA zB List.length_map zC]),v∈g,ABA x,w::vs,UT .In zA,WN e2,BDL op,NoW w,NM t,uL D.mono zA,mO "len" zA,hE s' zA,AQC .int zA,ABL [],λi=>BHM,uQ p,AM o (L6 d zA) zB,DY o ta,AQI _,cW h,T2 s,(by subst z;rw[AER zA zB zC]),(AF6).env,aB (zA zB).set,iC m,IsPair zA zB x y,c::l,nM not zA,AQP keepIn,A8 b (WD zA zB) rfl zC,c∈z.cps.toList,AN->AV7->zA,AC7 zA (LP zB),vK wpAny_letGo,O7 ts,vs++dvs,h _ ?_,iR CY zA,PA X es t,A3C .Add zA,vs.length<64,(by refine ZP zA (LY zB)),dV zA (AF0 zB),AR2 D6,AR4 C,a1p ns zs y,vX I.base.keep zA zB,ARD zA rfl,A3J H,AJ (mS q zA) q,A3O rfl,ACX t,A3P [],ARL a8x,jN (tL F8 0) zA zB,AQY a1M zA BE7,BEQ zA none,BER V,ARS i,ART h,A40 V,a<=topN,p::P,ARZ xs,A45 mirror_perm,AS3 (GT r.length),D.same s1,a<h.objs.size,(by exact KeyOrd.kle_refl _),A4I zA h2,(by rw[CA (List.mem_cons.mp z)]),BF9 c,ASI decide_eq_true,ACN .In b,ASL name,ASL "__getattr__",ASM qP,BFI k,us.length<=6,xs=ys,(by rw[zA,zB]at h;cases h),(by rw[AE e BGD]),Value.str x t,U3 PySem.W.makesIn C,SL t c zA,.dK qL,.dT qL,4*(xs.length+1),ATE most,(by refine jI zA zB (BG2 zC)),ASB 0 zA,ATO UU,AEW oS,A3 (G5 (L4 K zA zB)),(by rw[IH FM.fnJ zA zB hr]),(by rw[CA (List.mem_append.mp a)]),YT "sum" wBad,∀H',zA->zB->CO2,UE v r,ATT X.base.get? zA,(by rw[A36 (vE field zA)];rw[ASC zB zC]),(by rw[CKP zA List.mem_cons_self]),CKY vP zA,CKY AD6 zA,AFI (C8 zA),AFK o,CL3 SysOk,BHA p,BHB zA zB none,⟨zA,[(DK "start",zB)]⟩,y∈ys,∀s',zA->BJ4,GW ps ?_,OW E9 CK8 zA,∀h',zA->BFE Heap.SameBut it->zB,Stps d zA d',BHR BJA,PI X tg zA zB,BHS decide_eq_true,(by rw[QC (List.nodup_cons.mp h)]),AVA (dot r ys),AT6 σ v,CLH AQL,zA K x y H Q,PlainAttrs T,St->AED zA,BIG b.length,ws++c,CLO L,DY i ty,E9 mask p zA,(by .rw[AE BFF q]),zA C us [],(by rw[KZ zA h1 h2]),BIY f,BJ1 2,CLX ASH,vD x c,ARH CK4 ARK,CM3 j.map,A51 _ _ zA,(by rw[RP t (AT2 zA r)];rw[CM];rfl),AEQ Q zA (AN->zB),λσ H R=>ZG zA (zB K R),c 0 [] H1,BJX c2Q zA,BK3 ?_,o=o',mi=most,r::rss,a1F ρ zA zB,CMV A47,DP x dx zA zB zC,A1 (BJW C8),DJ (uC zA) (uC zB) zC,DJ A2H A2H zA,Fw n a,x=.bl c,(by rw[CN8 List.flatten_cons zA]),.dict es ep,ASX Builtin.SmallTypes.nextOf it,BHY mroIn C,10*BH9 t.mask,CNU 26,AQL outer d G E,COF zA I.pin,(by rw[COO zA (gZ s.upd zB zC)]),COR nY,(by obtain⟨⟨dx,ah,zA,h1,h2,zB,zC,zD⟩,⟨fs,zE,zF⟩,⟨zG,zH,zI⟩,ne⟩:=A3F),fre qP.length,zA (vU zB zC (λz=>dB zD z List.mem_cons_self)),B<=AEX,ACG++CJR,DW×AB,(by obtain⟨zA,h1,h2,zB⟩:=zC),(by rcases zA with w|w),(let ⟨zA,_,zB,zC,_⟩:=zD;zE),(by simp only at zA hd zB zC;subst zD hd zE zF),(match zA with|none=>zB|AU zC=>zD),a4v ρ zA,.cons _ t,IW H1 s1,(by .exact zA x c a),(by .exact BDI absurd zA (Nat.lt_irrefl _)),(by .exact h2 (ATU zA)),SeqAt.EqAt zA s zB zC (zD zE),λb h1 h2 zA=>zB,A24 AF AF,WC σ (zA σ H (zB Q)),v∈O6 cs,UT op r,tZ bmB.contains Bn=true,(by cases(lX zA r);rfl),AM o (L6 P zA) zB,uY .Constant zA j zB,nQ .Constant zA j zB,Stps e zA d',ACK jv 0,ACV a ATS,ACW CN9 ZS zA,AD5 ent x,(by have zA:BGT zB=zC:=by rw[Heap.size_push,zD]),DK "way" ++ CNV n,d.map λx=>YX PN,k b u q,xB CJ4 CJ4,(by .have q:=zA;rw[AE BFF q]),BFZ "__getattribute__" "BaseException.__getattribute__",mK Ask ps x m o,zA mask dQ AQA zB,MtR X id r,.tail _ (.head _),(by rw[AW e2 m m]),CJ (ADE ns.getD ms.getD),∀H',BG->zA->CKQ D,(by rw[show(zA)=zB V.int by rw[BHI]]),w=E3 n,BHD zA (MF (YT zB ([BH zC].map E5))),A7 e (n.free zA),(ASY p.i p.perturb).1,OX zA (tW #[] e1),JL e n (zA b o (ZV zB n) n),CL8 "free" a7I,[a3E zA [NH]],∀x y H1 zA,zB,⟨zA c.h d.h⟩,ρ 0=1,(by have zA:es.size=zB:=by rw[ATJ zC List.length_map]),EE (A4L 0 lo),ItAt k s.heap it l i,AS4 "is_answer" 3 a4x,(by rw[ARQ h1' d d.toArray h1]),(by simp[T9]at h),(by obtain⟨od,e1,e2,zA⟩:=zB),BW X.env.scope.names.lookup n .local,DP b o e zA zB,k .tm zA H1 s1,CNB RJ a.length,mQ zA zB _ rfl zC zD ?_,λb zA q _ _ _=>zB,C3 (K2 nW A4),s b u a e,a2G C zA (zB C) [] E0 wE zC σ H Q,BIK (dF (CND=US zA)),CNW BJV EL,CO6 kws env,MZ T.keep zA λb zB o zC=>zD,λA R s=>zA,(by rw[zA,zB,List.take_of_length_le];rw[BJE List.length_zipWith]),(by .rw[wB (zA (λj=>zB) c d step)]),(by intro hv;rw[CKP zA (JC hv)]),(by obtain⟨_,_,_,_,o,_,_,e,_⟩:=x),⟨zA,(U0 f zB zC).symm⟩,(by .obtain⟨zA,rfl,_⟩:=h;rfl),(by first|rw[BI (AC8 wpAny_typeNameOfWhole_keyiter I.typeIs)]|rw[BI (AC8 wpAny_typeNameOf_keyiter I.typeIs)]),(by obtain⟨⟨o,zA,zB,e1,e2,zC⟩,_⟩:=zD),step zA (fl:=zB) (v:=AK zC) zD zE,pushCells (zA oA) scope.names,((L b A)),a1O n EV A4 zA,(mC (a b λc=>by rw[zA]) zB),M3 zA (M9 K 2 (BE5 (A1W B3 zB zC) (A1W B3 zD zE))),X.stack=X.env::X.outer,Slot T name id,BGO "row_sum" "row" a0k,⟨_,rfl,_,rfl,zA,zB,zC,zD,rfl,zE,zF,zG,zH⟩,a6I src zA g zB te,(by rw[BII z i z]),(by rw[RH];exact zA a t' b t),(by rw[ARQ g f f.toArray h2]),(by rw[BJN q1 zA zB];rw[cH (AD8 q1) q1]),AU2 (cR dx .own x) x [],[qP.map (dot row)],(by rw[List.all_map,List.all_eq_true];intro x _;rfl),(by .exact h1 (List.mem_filterMap.mpr ⟨env,q1,zA⟩)),(by .exact QU _ zA ⟨CNG,AG,c1G _ zB,zC⟩ (CW (DG zD zE))),(by rw[pG x y xs ys]),(by rw[COV (AM zA e1 na) A0 zB (BG2 zC) zD zE zF]),(by .simp only[List.mem_append,List.mem_singleton,not_or];rw[AY zA zB]),J3 qL (r.map Sum.inl),AQ0 outer a g E,V2 ns rows sides caps,PassesOwn SD X.A X.env X.xe,(by obtain⟨z,its,n,r,e⟩:=zA),A3D f ⟨oc,od,.func zA,zB⟩,A2N OkE "least" 7 BJB a4w zA,ExcBaseFacts B nid initId bmB,ExcBaseFacts Bn qO inN bmN,YS "read_number" 3 "word" "top" spRN,YS "_law_of" 2 "_law_pot_here" "_law_some" c1E,(by refine a1K (λσ H'=>zA) ?fin λfin=>?_),CompW src COJ V1 te σ Q pH H,(by have zA:upd zB dx (.own x) x=none:=by rw[A41 zC zD]),(by rw[COT zA zB];rw[ET zC zD e2 zE hy];subst e1 e2;clear hx hy),∃(n:Int) (zA:qI) (zB a:qE),zC,(by rw[nK zA];rcases zB with rfl|rfl|rfl|rfl|rfl),(by obtain⟨e,n,ne,nf,d⟩:=AUN zA),∀q zs H',BG->BHW->ASM zA->wC,(by .cases a;rw[BIC (kia_one CMA I.kIn f e gW)]),⟨_,rfl,p,C,dx,_,_,rfl,zA,U.cl,zB,zC,PV zD,?_⟩,λ_ _ _ _ _ st h=>zA st h,(λ{_ b l t k} e=>by rw[<-zA b l t k];exact DGet.k (k:=zB) e),(by refine⟨?_,.str (Str.join a ys),H,UA,GZ s.toks,q⟩),(by obtain⟨x,ex,o⟩:=J9 l h1';obtain⟨y,w,p⟩:=J9 m g;exact(i j x y ex w).at I (by show bW ASS n;exact a8t k C) o p),∀{H:Hp}{b:qE}{l t k:Int},BGU->DGet H a (ACM zA) zB,qA (qD zA),zA X.prog X.w,(by rw[TY sizeLine_eq]),E4 zA P w K mg base N zB,A1W B3 zA (L2.nd zB),CIB (CI9 zA zB any),qA (qA zA),C7 (i:=zA) rfl zB,zA (decide zB),zA vs H Q E,.Compare a zA zB pos,u=Value.ref zA,zA x (E8 n) (E8 LT),pos mask zA zB,zA (Heap.lt_size zB) zC,false=true,AAQ zA MQ qM,BDE [zA] [b],["one",zA],d.names.map λn=>zA,zA ns xs a,PotAt zA a b,(by (with_reducible rw[JZ zA zB];rw[zC])),zA=ps.length,zA=pure false,BDC .bl zA,SE/\x<=zA,zA zB ar as ac ap,.seq zA n,YY (AB3 zA),BDB 2 I,⟨zA zB AG AG zC a⟩,FD m,zA ns rss ss cs ps,AllBare zA,UM zA 0 1,OU zA its,C2 zA (C2 zB J8),Str.join zA (zB zC),O2 _,AAU zA sysModules,X.blk N scope a zA,zA outer s H E,zA k1 k2 s.heap a b,CI9 qM zA all (λx=>! HZ) && (AAP backToKw qM keywordEach []).all (λx=>(HZ).isSome),zA (.builtin zB) zC,LB Str.join zA zB,bP findIn EA zA zB,⟨zA,H,UA,zB,q⟩,X0 K JD zA zB,#[GV,ABX 0],["names",zA,zB],zA (Str.ofString zB) zC,YO zA qB,HW (AB3 zA),zA j none,(A5 (by rw[PJ];rw[A32 zA])),zA EB CZ,CIY swapsWith zA zB,Int->Int->zA,lV zA ns.map V.str,lQ D5 T.b_len zA,SRaw zA a es ep t,⟨_,rfl,l,_,_,_,rfl,rfl,BE0,a2C,rfl,_,rfl,?_⟩,(by show zA;decide),["word",zA,zB],bN zA ovI,GK E3 zA,DK " 1",AAW zA objs.size,eval e zA,zA mainGlobals mg,zA rss ss cs ps,zA ca af aw b L F W,lH zA scope,bP PySem.W.kitOne zA zB zC,bV t,JT X zA tA,MU c zA (lY zB),A27 (AB6 (CIR)),ABT d,O7 ABE,zA zB s.heap h',BEO hp,ABU q bm hdct qO,IT H' v zA,SqK zA K H a xs,A2C (A.deeper (CJ6 zA zB a))->zC,A22 qP.map dot row,[bV (CJH ((E8 n))++CJF),bV (CJG++(E8 LT)),.non,CJJ,BD 5,AK R,AQV,AK W],List.mem_append.mp zA,BX Nat.le_add_right,List.mem_cons.mp a,DT 1,EZ f,(by rw[OR wpAny_bind zA]),(by rw[lO zA zB List.mem_iff_getElem.mp zC]),BD9 pos zA,zA t List.mem_cons_self,zA (eqU x),AQB (BDW zA),zA zB _ (List.getElem?_eq_getElem zC),λr zA=>r=.none/\zB,BEF zA (WE zB),ARE H2,xs++[-zA],BEW (QM zA<1000),IntsAre zA ns,CJN Nat.lt_succ_of_lt zA,(cellsFrom zA zB zC).lookup,wants zA E,(by rw[tN A.in1 (zA>>=_) _]),[V.str x,BD 1],tBM K zA zB to t,M6 (c:=zA) (B:=zB) zC,λt:qB×V×qI=>zA,IsZip zA z TI TO zB,hd H' p s hp,if zA then zB else 0,show KY zA from zB,Nat.le_trans zA (zB zC zD),Builtin.Tuple.tupleExact _,lH assign zA,W0 h'.get? zA,FC zA Heap,LQ b,CIB (zA).any,JJ us,gM zA zB "one" zC,zA λv=>AR8,EK X.fn x,A35 p2 zA,vL cX zA,(BEB zA).objs.size,CJ1 hZ,ARC (PP v zA),zA (t':=s.toks) zB zC zD,BEP tmW,[b,c],CKA s',YT "+" BFD,λH Q q=>zA,g x zA H',∀x H',zA i H x H'->zB,CJ8 r n,λx y H Q=>zA,FH x H' y,.ins C dx (E1 zA zB zC),a1j w a ep es,SetTable.turns zA,zA<=xs.size,if zA then AU zB else zC,{o with zA:=zB},Str.ofString zA=zB,BV some zA,BV ca zA,BD x',FD (HF zA),(by rw[List.map_map];rfl),r.length=n,LY ha,UC (AD2 zA),ns.getD i 0,bP PySem.W.findIn EA zA zB,A1Y "list" (.seq zA),mE List.range zA,(E9 mask zA zB).j,A2L H' zA,if_pos (zA e),LT-d,a9w P w a zA,EqV K H zA zB y zC,ADD zs,BFA J.mono zA,AQJ zA zB "object" true,LnF x zs ns.length,CK6 xs.length,Un zA zB H H' s.heap zC,qE×qB,zA HZ==AU zB,jaC (C8 zA) jaN,SetIt w zA it a,((nJ LA h1.get?)),CKU push,(by rw[isSubtype_type];kernel_rfl),lV zA cs.map cV,uZ A4 A4 zA zB,λqK s σ H zA I h=>zB,(by exact zA λtk=>FY aC H CKX q),zA hos hbare hU hok,Un nG [] H1 zA s1.heap zB,ffl ra ca zA zB af aw,a.length=zA,(by show zA;exact zB zC),(by obtain⟨_,_,_,zA⟩:=zB;rw[UQ zC]),⟨zA,AG⟩,(show zA by rw[OP]),zA (List.range zB),(List.range zA).zB,BW h'.get? zA zB,BH t.length,AS H2 zA,AU 4,AJ d1 zA,rEqD K zA,DO-1,zA X st t,[(false,zA)],A28 t',zA l items,b5a ns zs zA,x=.non,ns[j]?,SX jv zA,hV zA xs,.done (.ret zA),cS (),iF typeIs_str,c<128,P.zip vs,(by exact Option.some.inj h1),A3N zA.2.2,a5W p C,CJQ "most",CK3 w.params.followText,CKJ zA t.place zB,(by rw[BJ zA Nat.le_refl _]),Bel u v,⟨zA,H,I,zB,h⟩,PB N p',BGR CJX,BGW I.turned zA zB zC,BEQ value (AU zA),oB rfl _ zA,IsTup zA b its,(by rw[ET env zA zB List.mem_filterMap.mp zC]),YS zA zB "names" "words" zC,∀p H',BG->zA->GL EU,BindsTo s fd zA zB,zA λ_ _ _=>False,A3X zA h' s.heap.objs.size xs,λz b=>zA z vJ,∀p∈X.pn++qK,zA,b H' CY,J0 K EV (zA jaN),zA (CLM q (zB q)),(by obtain⟨e,y⟩:=y),F7 K zA (Z1 A6),.ins C dx (E1 zA (AK zB) zC),∃σ' H',BGZ/\zA,uE "range" #[ADN lo,ACL hi,.int 1 v],⟨_,_,rfl,rfl,_,rfl,zA⟩,s.heap.update a (Obj.putSet d l),[LP "ValueError",LP "Exception",LP "BaseException",LP "object"],CLD (∃h' tk xs,s₂=ZU/\zA/\zB),["_law_script"],(by rw[zA];simpa using zB),(by rw[zA,List.length_cons,zB]),show zA=_ from zB,show zA from rfl,(show zA by simpa using zB),(by rw[List.getD_eq_getElem?_getD,zA,zB,zC]at zD),s.heap.FunFrames zA zB,s.heap.update zA zB,(tupleKind zA).zB,s1.toks+1,AJ zA h1,AJ zA nN,LP "type",(SetTable.insertAt zA zB zC).zD,Option.some.inj e,i<items.size,IX hr.mono,isNm x,{cls:=zA,data:=.fields zB},x::ws,JC hw,FO (zA++bk++zB),zA (Nat.le_succ _),EE 0,YY ws.map,HG List.length_map zA zB,bX ys.map,xs.length<=i,gQ codeIn zA zB,APZ "own",Q (BDT zA) H,AB9 H' zA,AQ2 BZ,V.bl true,A2R wpAny_pure zA,cQ (TZ zA),nA D,ABT BHT,λb zA=>(zB b zC).1,AQJ PySem.W.kitOne zA zB zC,g i j,Over rss cs zA,λv=>AU5,[e,it],AR2 G7,(k,y),wA xs,ARU (FB H1 p zA),(by rw[ADI zA True.intro]),CP es e,BG1 sd,AEK hi,zA (Nat.le_refl _) zB,AN->aL->zA->zB,ATQ L.length,(by rw[List.getElem?_append_left hi]at e),cR a .dK zA,∀x,ACI zA->A3V,C8 (jaC A4 zA),nF zA zB zC (·.2),ClsX K zA [],((ns.map V.int)),bP PySem.W.kitOne EA (AK zA) zB,ACV p ys,BI1 zA zB s'.heap,show s.heap.IsTuple a zA from zB,CLU List.length_map,ACW zA CK4 ARK,ADG G1 (zA K b) zB c.h,Fun K x zA st f zB,(zA v zB).mono λp o zC e=>zD,prices.map prO,λrest zA s'=>zB,ns=ms,⟨xs,AT0,zA,zB⟩,(by simp only[List.lookup,hb,zA]),LnF (wd zA) zB n=true,wpAny_callSpecial?_slot (name:=zA) zB zC,λ_ q=>q,λv H2=>v=.non/\zA,ZQ zA zB none CM2,List.ext_getElem? λi=>?_,BHF zA::gH (BV zB zC),AC8 wpAny_bind (m:=zA),(BEB zH5).get?,Meth K C zA f,Bel f ys,RelV ARY t.1,f+s*k,if i<0 then -i else i,IP zA v (ZJ zB v),wpAny_callSpecial?_slot (name:=zA) zB zC (nX zD zE zF ?body zG),(by rw[dJ wpAny_call codeAny_of_tree];rw[LW zA]),Un fs ex H zA h zB,ObjM zA x dx C zB,.ListComp zA [ACH tg zB zC] scope pos,zA->zB->PF->(∀H2,BG0->zC)->zD,absurd z (zA e s),occurrences a b 0 a.length (a.length+1),(by intro zA qK s σ H Q I h),(by refine BF X9 xs zA zs zB zC (cE zs zD) A4P (AUC zs ⟨(c H' CY).1,(c H' CY).2,zE⟩) ?_ ?_),⟨_,rfl,p,C,dx,_,_,rfl,zA,U.cl,zB,zC,zD,zE,zF,zG,rfl,_,zH,?_⟩,∀(kV zA pm:qB) (an:EN) (zB ct:qB) (us:AI),CLW->CMK zC,zA Sum.inl,a.length<=zA,h'.objs.size=zA,[A5E],[AVI],(by simpa[zA]using zB),(by rw[PQ zA]),(by rw[Bool.eq_iff_iff]),this.1,(by simp[List.getD_eq_getElem?_getD,zA]),((BH8)),zA (List.mem_map.mpr zB),AK t0,Nat.lt_irrefl _ zA,AH I.hok zA,AH s3 zA,AH a2E zA,(zA).2.1 rfl,AU y,~~~a2O zA,BQ xs,ER A6,Option.some.inj h,HW W8.map,IX if_neg,BM h1,j-1,YR qE,FE (a1t zA (a0R zB)),FE (AVH zA),a.2.1,OU (zA::vs) zB,n::r,JC g,V.int.inj z,(CKO).1,List.replicate k zA,JY scope.names zA,TZ CNS,zA b ps e,(by rw[GM wpAny_truthy_bool]),(by rw[MW List.length_cons]),YV j.map,gF (CKQ zA),bW A.units zA,tQ "1",MX hj,APO s.heap.objs.size,MZ a1v zA,UC ((zA*3+zB) % 8),APQ pos',A28 gN,zA l vs.toArray,A29 s.heap.get?,(CKO).2,KG List.size_toArray zA zB,(by rw[GE (CD (Z3 zA))]),List.mem_cons_self ..,MF b,SH zA List.map_append,MU c D.mono zA,PU r.length zA,ABF items,mK V2,AQ5 EP Q,(n,x),h x wD,hX List.mem_cons_self,cS v,A2U (cU zA),∃o,zA/\SZ,A2X xs,AC2 e,nM Prod.fst zA,CameS rows zA zB,AC4 c,nS z,iW I.cell,(x,v),vX I.base.slot zA zB,E3 z.toNat,s'.os=s.os,A3M ys.map,oO (A4C zA zB),M7 ok,E5 BIO,λu=>BJF,(by rw[DF (show zA from zB)]),pure (ForInStep.yield zA),HG zA Nat.lt_irrefl _,HG zA Nat.le_refl _,a5W p c,zs.map E5,ADO wpAny_onRaise,CJQ "one",ASI h1.trans,JPs X pos zA zB zC,0<=zA/\zB<=topN,AEB wd zA,AEC CMX,((zA zB).take zC).toArray,ATA mX,(by rw[BG7 (tryCatch zA _)]),CKE outer zA,[x,y],BGF A.in1.handled zA,AH ((s1.trans zA)) zB,YT "sum" ((zA++YT "=" zB)),AB0 n pos',AB0 f pos',gQ a0N zA (WI zB),A4A E7 iA,CL3 V2,zA zB rfl rfl rfl,AUO iG,BHN zA BFQ,AUU h,ZV j a,CLB s.heap.objs.size,(by rw[A3Q zA rfl (hJ zB)]),zA i ys H zB p,ASP JB (CKB zA) uS,BGE jH 1,BI5 s.heap,SetTable.insertAt es zA zB,zA X body tx,(zA (o:=BQ zB) zC).upd,BIP G,BIR n7,lI σ1 zA (cZ zB),LR e p,CLS SqT zA,(by rw[CLT zA List.map_append]),(by rw[A36 (II Builtin.SmallTypes.nextOf zA)]),(by intro x a;unfold zA at a),Bar zA ys j,∀m,m<zA->iH (AEA zB),∀i v,zA->zB->uR zC,CM6 pos',AU9 zA qM H1 _ zB zC,BJL oQ,BHV n x zA,BJP (cI p zA),BJZ JD,KasT α,wb::R,(AUL A3U).zA,FV fs.lookup m,jaC HJ KB,∃m,m<n/\zA,adv t.mask p,.UnaryOp zA a pos,CN5 A3U,CN6 zA its,eqV y x,YP p .dK qL,CNO i,(by rw[aQ u zA a3Q r]),wT b z z,AVK s.toks (o:=FX zA) zB ?_ zC,CO3 A6,os.any Option.isNone,o.dict=dd,F++BGP zA,if x=y then zA else CJ (x<y),(by obtain⟨oc,od,zA,zB⟩:=zC),(by unfold argsOk;kernel_rfl),(by simp only[List.length_map]at zA zB;rw[IL zC zD zE zF]),(by unfold topN at *;omega),(Sum.inl:Int->Key),zA+BH ATY<64,(by refine PySem.W.callWith_K zA I.ok.mod.kin zB zC zD zE),k p hp,λvs H Q _=>BJR zA,CIF A3K (.seq CNI),OvB n zA rss,FY _ _ rfl zA,[dH,BD sz],uM a2T zA A4,AQ9 "width" "most",QB zA (k zB AL o e),WT X7 AG,((zA zB).push zC).get?,(E1 f zA fs).zB,uZ zA zB dA dA,c2d C h.objs.size,AQZ lnW nR,vU f zA f,ACT "word" "numbers",BEJ "row" "side",BEJ "words" "kept",BEJ "numbers" "alone",AD5 hsh HZ,CJ8 ar tn,b1a zA (B1 i),(zA a o e).stay,CK2 E5 x,(i1 v M).zA,["told","row","most"],["told","counts","width"],BW mg "TOP" (CNF zA),AF5 CNJ CNK,(by rw[cH (AD8 hw) hw]),["found","one","j"],DS T7 2 G0,.Slice lo hi none p2,∀c o,zA->zB->uJ zC,UC (hi-lo),UE (AK PN) HZ,zA i n ep t,CMN zA a0n a0n,names.foldl (N0 zA) cs,E2 (k H1 s1),COA "found" "level",(by refine CM4 zA (FH f s8 zB)),HT.lexLt dW CNR,List.foldl zA #[] (ATK zB zC),AM h UA ?_,(p,w)::BJ7,hl zA ys H p,λi ys H' h=>zA,∀base:Heap,zA->CNH->zB,.int (g i j),(by rw[R3,J5,a4B h0];omega),a8E (v:=zA) rfl zB zC rfl,Turn P w K tg zA [it] it (λi h=>zB),(by refine wpAny_Call_Name_kw (L3 I zA zB ?_ zC)),TK prog w zA r a,AV5 ((psW xs).take zA).foldl a2f zB,∀(s:qC) (zA:qB),BJQ (JJ zB) [(zC,zD)],["rows","sides","width","most"],.Attribute nC "__init__" qN,zA b (λh:b=S=>zB),(by exact List.mem_filterMap.mpr ⟨env,JC h1,h2⟩),(by rw[vW zA];refine a0M zB zC c zD l ?_),.Try body zA [] [] pos,(by rw[CLE PyProof.Rows.F.entry_set_update_loop PyProof.Rows.F.plain_set_update_loop];show MD A.in1 (AR3 I>>=_);rw[BI zA]),ZY zA _ rfl (WN zB) _ rfl zC zD zE,λH2 zA g=>k H2 zB (s1.off.trans (g.mono λb q=>zC)),(by obtain⟨⟨dx,ah,zA,g1,_⟩,_,_,_⟩:=A3F;exact zB),BF I.step g' s.gens d' s.drawn zA zB,(by refine xC true true a b BHK CN7;rw[EF zA H1 p s zB]),OwnCls x C bmB qO mg zA,(by refine vY l _ BE0 (A4W u);rw[List.map_cons,a1T]),∀{xs:AA}{us:AI}(zA:Nat),aH->zB,(by obtain⟨x,H1,zA,zB,a,dx,fs,ex,zC,l,q⟩:=zD),BF (BF X6 P P w w (l:=outer) (H:=zA)) H' zB h0 zC (h1:=zD) (h2:=zE),(by refine⟨_,rfl,_,rfl,1000000000000,rfl,BK,_,rfl,HG b a8n c,zA,13,zB,ZW b,AG,zC,AFH⟩;rw[AV0]),∀(zA:zB) (qK:DA) (s:qC) (σ:St) (H:Hp) (zC:zD),zE,(by intro a b c d e f g i j h),(by .obtain⟨its,r,pl,hz⟩:=zA a;refine zB (eqU x) zC (λw hw=>a1k c b r fs w CN0) (BGS ?_);rw[DE (show BFV its.toArray.any=BFV its.any by simp) (a3f r fs) q]),spliced zA,I.tuple zA,of_decide_eq_true zA,s1.heap.objs.size+zA,zA=vs.length,zA=ys.length,(by rw[gT]),(by rw[<-zA];rfl),(by rw[zA,List.length_map,zB]),(by rw[Int.toNat_natCast]),(by rw[List.lookup_cons]),(by exact Iff.rfl),(by rw[Int.toNat_natCast]at zA),(by simp[Array.getD,zA]),(by unfold zA;dsimp only),(by unfold isInstance),(by obtain⟨_,_,_,zA⟩:=x),(by obtain⟨m,zA,_⟩:=zB),(by obtain⟨_,_,zA⟩:=Wk.det _ zB zC),~~~b1W,~~~b1P,~~~a3z,(by simp only[a1J]),(by dsimp only;split),(by rw[zA,<-zB];exact zC),zA ≥ WX,(by cases zA<;>exact(AQI zB)),(by simpa[List.getD_eq_getElem?_getD,zA]using zB),(by injection zA with zB;exact zC _ zD),(by obtain⟨_,_,_,_,_,zA,_⟩:=h),checkBuiltinCall zA zB,Int.emod_nonneg zA zB,((CRK)),zA (Heap.lt_size zB),(zA).toArray,o=some zA,AK sl,AK va,AK GO,.tail _ zA,ep+1,t.mask+1,u.length+1,BHZ=true,AH s7 zA,AH zA hb,AH zA e4,BH CZ,(List.take_of_length_le (by rw[zA])),(List.getElem?_eq_none (by rw[zA])),(zA (by simpa using zB)),.byt _,AU z,AU APY,CC n,CC z.length,qD HO,LP "enumerate",wd "",wd "of",wd ": ",BD wi,BD (lo+i),jaC zA WF,KO H2,d.from_ x zA,IW zA BIW,List.mem_range.mp a,FD e2,(by refine codeAny_call_builtin zA zB zC),(by refine wpAny_pyIter_slot zA zB zC),HV (CS6 zA),.inl e,.error e,decide_eq_true h,Nat.min_eq_left h,gC 6,i<zs.length,CW k,GR Y,.bl x,Itc x,List.mem_map.mp b,(by .exact Nat.lt_succ_of_lt zA),EJ x,EJ dx,W2 zA (CME zB),EZ t,EZ d,EZ b,0<=cs.length,vs=[],isNm n,KP z,A5 y.symm,A5 B.symm,A5 x.symm,GK Str.ofString zA,x::rest,YR V,YR EM,BA d,A1 (zA (hp:=PassesOwn.leaving)),HY a,HY it,JC c,j<a.length,BS zA hi,KR Nat,HF g,HF f,HF h1,HF e2,DF f,DF h2,FP k,DH CQR,JY zA BKP,EE es.size,0<vs.length,(by .rw[DQ];simp),GI 0 (BI4 zA),WB pushCells_keeps zA,MU zA y.mono zB,1<=ns.length,zA b xs e,JK "zip",JK "isinstance",JK "sorted",KY a,KY CPP,YV (GS zA),gF A2Y,Paired.length r,Nat.ne_of_gt r,YZ "text",U3 PySem.W.hasDictIn zA,U3 PySem.W.plainOver zA,U3 PySem.W.makesIn zA,U3 PySem.W.nsOkIn zA,LV s.TypeIs zA zB,HH hl,HH W,GA #[],Off l H zA,Off bS H zA,AAX es,GY xs,GY ts,lR nY,lR (E2 zA),BDA Nat,qQ.length=n,tS r,es[i],qQ[i],cs[i],bY items,bZ env.cells.lookup,IN a,IN hia,IN CY,MY ns.getD,(by rw[BA c]at e),Obj.data_mapFields zA _,l[i]?,AB1 ys,d.params.defaults=[],NB "zip",NB "isinstance",NB "sorted",UL c0U,.n x y,.x x y,(by exact CD (BM hR)),uA p,LZ e,x∈Ls4,wpAny_updateSeq_pair zA λzB zC zD=>?_,IP s1.trans zA zB,A2C callerA,c7S H,PK zA rfl,GI 1 NU,lZ qB,x > 0,(Heap.get?_update_self zA zB (by rw[zC])),ZI "LayError" zA,rJoin K,JN V,Calls.spliced_nil ?_,(by rw[PQ Bool.eq_iff_iff]),(show zA=zB by simp),WR::vs,UT .Eq zA,UT .NotEq zA,QX c,(by rw[gX wpAny_specialOf zA zB]),ZN zA (DK zB),cL List.mem_filterMap.mpr zA zB zC,MK false,ABF its.toArray,CII zA "__init__",ZP zA (hJ zB),ZR a3L,Sz xs,d AR,b AR,BDM "j",List.replicate m zA,mO zA (zB X.K),mP HJ,Sem α,tVar 0,UZ zA (CME zB),mS e2 zA,mS zA hp,List.mem_append.mp m,zA+1<scanBound,ZW List.length_map,E5 (zA 0),UM BJC 0 zA,r∈a,hX z,uR p,RQ zA zB "width",uU CKV,uY .Subscript zA zB zC,PP v ?_,DM FW A zA Q E zB,(by exact List.mem_map.mpr ⟨zA,zB,zC⟩),A34 A4K,X3 zA zB "_law_pot_here" zC,AQP PySem.W.isFn,AC4 x,dE a,CI e ty,CQ r rows zA,BE4 ys,OY c 0,qP.Perm F,λv=>AR8,∀r∈zA,BHJ,tC (zA i),iL pF,aN h1,nT KC,CIW a.heap.objs.size,dO f,ACF zA WF,vQ GO,s'.heap.UpToSlots h2,λj=>CJ CMC,A3D zA (zB zC zD zE zF zG "ValueError.__new__"),jD ⟨rfl,zA,zB,zC,zD,zE⟩,k zA (.inr zB),vR M,oE r,AR0 ty,ACL c,a8x ns zs y,uI 1 b1M zA,ACS "tuple",ACS "list",mB % 28,BEL Key,ACX r,ACX ra,A3R b,ARN (CTN zA),h.objs.size<=a,ZN L zA<=900,r::rs,oX zA BJ6,AD9 zA b.h,ADA x,λx y=>DT zA,BF1 AV6,BF1 BK2,AS0 lo,AS0 AS5,U8 u j,wF "number",pD AUD,BF2 env,AS3 CKL,AS3 BHJ,K.In base,ns.length<=n,(by refine Classical.byContradiction λzA=>?_),A4F h'.get? zA,~~~b1Y g,(by rw[A4H 16777216]),(by rw[A4H 300000]),ADM a,ADM I.ok.bs,A4J (zA (V.str.inj z)),wO y,(by rw[A4N vs.length]),ASJ i,ASJ n,ASJ j,ACO H' h',ASK y,LnF x zs n,wX "number" zA,V->A2F,(by rw[A4T zA List.map_append]),c∉a.cps.toList,(DH zA,BD zB),AE5 a,(by rw[A4X wpAny_setField zA zB zC]),xG CMY,DM FW zA zB Q E s,ASX pyIter zA,U3 PySem.W.hasDictIn C,xK k,xL z,AC3 Y3 h',BG1 s,AEL v,AEL EU,AEO [],Int->γ,ATD 3,ATD 4,A5G ws.length,AES prices zA,(by wp_walk using R8 a),AEU I.kIn,AM q zA (gJ zB),BGK World,BGK ((AZ)),A3 (G5 (uM L4 zA zB)),T4 ns caps,OV us qP,A5R N,Y3 s.heap h,(by rw[List.getElem?_append_right hi]at e),UE v ns,gQ a0N zA [],SqT K H p xs,YX AVS::us,BGP L.filter,UW c (AWU zA) zB,A5X "isinstance" zA,A61 "isinstance" zA,BGS q,(by rw[MC r pl zA I.tuple zB]),A3G u e,kp b _ zA z,AFF AGG,BGA 32 60 zA,(by have hu:=hr.u60),atI (zA V.int) zB,AUI r2,AUK ys,IY bootBuiltins u,IY X.mg u,(by have a:=List.getElem?_eq_getElem zA),AG2 s,AG4 ?_,AUR zA Str.empty,CLB dx,AGI l,(by rw[A3Q zA rfl (LY zB)]),AV2 x,AGM (c≠zA),AVC (BDH h m),CLH AQ0,zA K x vs H Q,BID I1.land,AGY d',xs.length<=8,(xs.map (·.1)).Nodup,n∈d.names,A5 (Ne.symm zA),RelV (o.getD zA) zB,BIM zA filterMap,Wk.det _ zA g,L++[b],BIU PS,AW2 3,GU (vM hi zA) zB zC zD,FH b zA z,WC _ (Q zA H),K0 (p:=zA) e,K1 (p:=zA) e,AW6 EA,LV PySem.W.methodObj f zA,((RI "way"++MR zA)),((RI "lay 5"++MR zA)),AWG [],AC1 h xs,(by rw[oN HP hy]),(⟨#[],by rw[PQ zA]⟩),(⟨#[],by rw[zA,zB];simp⟩),BJ9 h.lv,ARM PW .And zA zB,ARM PW .Or zA zB,ARM JW .And zA zB,ARM JW .Or zA zB,(lo+hi) / 2,bindL a zA m x,bindC a zA m x,AWW (GY t),AX2 c.map,(Itl K a).zA,(Itt K a).zA,ATZ AV (AK zA),ATZ MH (AK zA),AU7 (A3H true zA),AU7 (A3H false zA),Rd H a (.dK qL),Rd H a (.dT qL),AXA name,SetS prog w zA a zB,BJM h,AXI fI,AXN ys,AXQ rss,BK1 (zA σ' H'),CMP H,CMP H',u=Value.none,t.dummies=#[],f::fs,(by rw[BK9 zA List.length_cons]),(by rw[List.map_cons]at r),(by unfold topN;omega),32∉x.cps.toList,(by .rename_i e;exact mL e a7F l),(by rw[BKD List.getD_eq_getElem?_getD zA zB zC]),eval zA env,richCompare .Lt zA zB,((A4M 2305843009213693951)),zA X MQ (zB te t),(T8 zA zB).getD,rIn K false,(by have zA:X.A.in1.handled=none:=zB),(hR r zA).1,(by .rw[AE (A5 (f b _ e)) zA]),BKU I.hok.fresh,min k n,CN4 n,Itr 0 n,JH X.N n,[(n,y)],OW Lay owner zA,(by refine a6j hp zA ?_),OY d i,-DO<=i,BL3 s'.heap,ABG (BD AF8),-(AVZ)<=zA,BLD most,BLJ AV8,∀i ys H,JP->zA->zB,(by rw[RD e b it f]),BLT BM7,CNN (BL2 BIZ),Rs ys.length rss,BLW D,BLY zA false,97+BHL BMO,AWQ (OY c xs.length) AD1,BM4 zA a0j,AV4 n H v,CO1 List.map_map,c6M ns zs z zA,CO5 ys,CO7 h,Mk X.K C f,COI qual,BMT zA h',Ris t.place,base.StaysIn s.heap,its.toArray.size*k.toNat,most<=60,o::src,κ×V,∀j∈zA,AW3,∀i,kk key zA i=zB,(by cases zA;exact wpAny_truthy_bool ⟨zB,zC,zD⟩),(by obtain⟨m,zA,zB⟩:=I.loc),dx≠a,5 ^ n,Over zA zB most,((A6A H')),(BH8).size,COZ n,(by exact zA q (AM k q e)),AS c f,H1 zA=BV .tup zB,AJ z a,CI value tv,lI zA H s',~~~a8v h2,~~~a0f hl zA,AWJ++[1],DY value tv,GK wd " | ",A8 zA (uL hr.mono zB) rfl zC,QQ x y,(AQX k).2,ZF ys AWE,CPS BK5 zA,ZI d.name fa,cM y k,Srt rss b,(by rw[dZ i zA];split<;>omega),CQ2 "_law_name",ADS (ARV B),CQI r.getD,JB X B v,(by rw[DN dN (decide_eq_false (by rw[gT]))];rw[LD zA]),AWA zA q hq,(by rw[PY i hi (List.mem_iff_getElem.mp h)]),A3W k H zA ns.map,ADU->A4V ZU,CR3 Str.join zA,CR6 L,ZQ "one" zA uW AG0,CRB o,CRC 8,BM5 qual fd,BMC zA [60],BMU s.heap mA,tSl (rSlT K) zA zB zC,λ_ _ e=>e,CRQ h',dY H I h,(by rw[AVJ H' s rfl]),CSF putK,CSH nR,CSI H',CT0 xs,CTF A,CTM ARJ,CTO zA (KU zB),b1r rest,DB->DB,n.toNat*its.length,A.units<cLine,owner.size=vI,d.sides.length=d.rows.length,ss.length=rss.length,us++ds,(by rw[List.size_toArray]<;>exact zA),CP7×Unit,SE/\x<CPX,(by rw[List.nodup_iff_pairwise_ne,List.pairwise_map]),(by obtain⟨h1,h2,zA⟩:=zB),(by injection zA with hyx hrest),∃v,zA c v,show HY zA from A7 t zB,∀fs:QF,zA,(by unfold KV at r),(by simp only[Around.in1_units];rw[ED zA zB]),show b∈tP EG from zA,(by rintro⟨h1,h2⟩),(by injection a with a),(by injection z with z),(by injection h1 with h1),a5k fp zA,zA (λx y=>zB) V.int,Bind.checkArgs zA sig zB,Str.ext' (Array.toList_inj.mp zA),c0p K EV zA zB,(a1w L.size zA).zB,(by have:=zA;rw[AVN this]),FV base.get? e,AS w hw,CI l tl,CC (ZN qQ zA),qD (lZ qI),~~~b2c v,PySem.Txt.split zA bk=zB,(by rw[AW List.map_nil zA zB];rw[AFN]),~~~b2d hn zA,.int i _,I++[CPM],s.1++[s.2],DY (ABZ name) zA,(by .exact wpAny_Name zA hd),EK f k,f v u,(by show CC 0;exact a3z),BT zA hm b,(COQ zA).push zB,((BLZ∨CQZ)),AAU x (AAT "__classdict__"),((∀H2,BG0->zA)),(by rw[FN ⟨k,c,e,zA⟩]),lU AF (IX Lim.few),NG (A5 zA) A0,gQ PySem.W.codeIn zA qual,λy l=>CSO,Mut (H x),CQ x c SE,(Itr lo n).zA,(by have e:=zA;rw[FF zB e e.symm]),J4 m ρ,Rd H a u,(by rw[SO this this]),UH "_law_class" 1 "_law_caught" zA,[BD (1+i),x],(A++AV3).zA,zA<=L.length*cs.length,Nat.le_trans VH AL,X3 zA zB "names" "words",λDe σ H=>tx De zA σ H,(by rw[CPG zA]at h1;rw[BJ8]),XE off2 (dP zA D) zB,Lim rss cs m,zA Q x H1,iL (atI xs i),List.all_eq_true.mp zA _ (List.getElem_mem zB),(by rw[dU u (a5T k)]),f+s*i,A3H z o,AQW d (zA (CSP s H ex) zB zC),(by have f:=tc_notTuple;unfold excMatches),(by obtain rfl:zs=zs':=zA),UV C (ABU q CQQ true qO),BEA (AAS CX scope f a A),(by rw[jP (zA).2.2 (zB y hy).2.2 zC zD]),zA a its.toArray m dd,(⟨zA,by with_unfolding_all exact List.mem_cons_self,AG⟩),zA zB (.str x t),(by rw[pM zA (zB=some zC) Array.getD_eq_getD_getElem? zD]),AQJ PySem.W.kitOne zA "ValueError" true,BF a3F vs zA as zB (caps:=[]) zC,∀o,uA zA->BGJ zB,A5A zA "__setattr__" "object.__setattr__",BFZ "__class__" "object.__class__",λq b=>zA q vJ,AEP aS I.ok.above zA,trk h H,b1a te g,CKK B3 zA sc__law_names.nd,YP d .dT qL,(by rw[CS a n 0]),(by rw[LC];refine PySem.W.methodCall_KW (pl:=pl) zA zB),VC ["width"] "width" zA,∀x,ACI cs->SE,(ASY (AUB i) (AUB perturb)).1,mM σ.set i v,CL8 "nought" a4P,(by .rw[oW ys];rw[DE zA List.take_length BGD]),AT8 TK r b,sliceBounds lo hi none n,CLN h1.extBut D.i1z,G2 (Z1 A6),BW mA name v,BW fs.lookup f v,T.obj _ _ zA b zB,k b a q,DR i zA zB hi zC q,(IO v U).2,Tdc rss cs m zA,BJG v r,97<=c/\c<=122,AXS zA zB UF T,PN=.free->zA,wd "+"∉t,LvF cs.length zA v,a.map λt=>MY t.getD,tgl n a c,AAO [b]=BIV BGL,λvs H Q E=>BDD zA∨BDD zB,W.item i s _ _ zA zB,UH "show_vector" 1 "one" spShowV,(by .rw[BLR];rw[MB zA e1 e2 zB zC CQK e2]),CNP "below" a7L,AGR CU IO mp,V.int (dot r ys),MkX X.K C L f,F.run _ X.stack _ _,(by .rw[aM o d zA];rw[AY o e]),BMG "a" "b",BMI x zA y,BF V0 vs zA as zB (caps:=[]) (λx=>zC) zD A56 (aK zE) rfl zF,COE BLL e.key,COP CQ3 AGD zA,⟨[],?_,.nil⟩,⟨AT7,(n.push _)⟩,s'.heap.FunFrames B X.stack,NmI L R,g EU zA (AGF zB),St->qE->CPB,BW BMK (BGT zA) _,(λz=>a (by simp[z])),FB J af AV9,a4y r f zA CB,LU (AGO b XD),Tm ns zA j x,∀{zA:zB}{us:AI},A4U zC zD us->zE,Sgs H' ss L,CQ7 (A4A E7 (N8 ns xs (-a))),ItAt k1 zA f k zB,CQ8 "_law_name" BLG,∀i σ H,ASG->AT9->zA,∃x,u=V.int x/\(zA),AUP n names qQ,f.kept (t':=tk) g,(by have hb:(g==zA)=false:=beq_eq_false_iff_ne.mpr h),(by have D:s.heap.objs.size∉[AEG,l]:=zA),CR7 "__init__" sp,(by have e:i=xs.length:= ~~~b0d hi b),BM6 D zA _ (ATL zB),AAY D7 (N:=[zA,zB,zC]) (src:=[none,none,zD]) (AS7 zE),SeqAt.EqAt A s u v zA,CSM (EZ ca) x zA,∃f fd,BML m/\A3Z/\CL1 zA,{d with rows:=d.rows++[zA],sides:=d.sides++[zB]},TB a6a ARB (λu=>zA) (BKX a2O h7) rfl,CT5 qL.map (QZ,y),CT8 CM0 CM0,CTC ra ca,CTH d.heap.objs.size A4B,CTV (zA K d b) zB,CU0 p (PX c),∀e s,¬X.xe e s,(by have ty:=D.typ;obtain⟨zA,e1,_,zB⟩:=zC),(by injection hyx with hy hx),⟨od,es,ep,zA,zB⟩,(match k with|true=>zA|false=>zB),(by rw[CMU hia,aG,zA,<-zB];rfl),(by rcases zA with⟨n,zB,rfl⟩|⟨_,rfl⟩),k H1 s1,a3R (tVar zA) a0X,operate [zA,zB] (getItem zC zD),.frz zA (.lst xs),A.under (.builtin "type.__call__" zA),(by rw[DU zA zB];rcases Nat.lt_or_ge i zC with hi|hi),AAO bS=CS4 ATP BGL,(by rw[KA (dI zA _ _)]),EAt σ ta ys,EI (mW call "set" ATG),f+s*j,E9 t.mask COH d,((∀x,ACI cs->A3V)),a4F zA g BKO WU,lo<=x/\x<=hi,CI (CN1 a b) (tS zA),(by rw[AQ4 (by first|assumption | rw[zA]|rw[ADL zB]|wp_step)]),∃n,zA/\CQU zB/\zC=some zD,zA X zB (AD3 "zip" bS) zC,(by rw[PZ ADC (ML zA t e2).2.1]),∀xs,HO.tup xs≠o,.ask i j k,mW newExc "StopIteration" [],(Nat.lt_of_le_of_lt (show zA<=1000000000000 by rw[AX9 zB]) BK),(by have hia:i<qQ.size:=by rw[DE zA zB hi]),ACH 0 0 0,e=x∨AE7 e x,A2O (A2E P w h a zA) zB,AS4 "sums" 2 b1c,(by .rw[Array.getElem?_eq_none (by rw[FK zA zB S6 hi]),BLN];rfl),(by refine a3K (lo:=0) zA zB zC ?_ ?_),zA (pl:=pl) zB c h1,(by have zA:OU zB os:=by rw[EX p2 (Y4 λt zC=>oP zD zE)]),CK3 (AVB model w.params.followText),AT1 m zA ps sp,(by rw[AUF];rw[CMS wH (Nat.ne_of_gt p)]),nmF g st l,UH "first_steps" 2 "caps" a7J,AVE ARJ ARJ ARJ,∃u,BIN e u,StR rss cs b L,AXD (foldedSetIterable b X.env x),L.length*cs.length+100<=100000,BKC (w∈its) hw,s.heap.push (X5 k l),JJ [WR,a,v],(by rw[FJ rfl rfl rfl rfl]),I.ok.cab x c hfn l,ZY _ rfl zA _ rfl zB _ rfl ?_,COL (St6 C H' a b),V->EM->EM->A2F,DR j y zA e1 e2 zB,LB assignEach es X.env=n,(by rw[AGK p zA zB];rw[pK prO e e]),(by refine AGN I.hok zA zB BME λ_ _ q=>q),CRG X.env bR bR,CRO xs xs xs,CS9 (Nat.mul_le_mul zA (Nat.le_refl 21)),(by rw[BN0 nH zA (AJ R4 (a0f hl zB)) (BG/\zs=zC i) (BKJ EL)]),CTL zA zB zC zD zE (AAP backToKw pos keywordEach []),∀f,RelO (fs.lookup f) CL7,(by exact B.heap b o (by rw[CMS F G]) AEY),(by obtain⟨zA,zB,p2⟩:=U4 (f:=BGB t.1) hp zC;have zD:=I.kept zE k1),⟨zA,zB,BD zC,H,UA,zD,q⟩,⟨zA (zB AX3 hi.h b.h) a⟩,(by rintro i ys H' hi ⟨zA,zB⟩),(let ⟨zA,zB,zC,e1,e2,e3,e4⟩:=zD;zE),[AVV,CLP,AEV,CLP],zA a0 a1 a2 a3,((A2L (A35 x o) CSB)),((k'=.free/\k=.cell)),zA (KU zB) T (zC (KU zD) T zE),bP nsIn mainGlobals x BFQ,t σ H1 (qQ++zA) Q,(by rw[FN (EW (A5P zA BK AG AG))]),gM "filled" "text" "empty" spFill,ZF zA (∃a b',ACU b'/\TK prog w zB a b'),(by rw[aJ t (AT2 zA d)];cases q;rw[BLK zB]),∃m:Int,COB/\0<=m/\zA,(by rw[oM PySem.F.slot_str_split BJ5 PySem.F.entry_str_split PySem.F.args_str_split_2 zA zB]),(by have zA:iY zB (BMN/\UE ARY ADC/\R9 s.heap t.1=ADC):=λt zC=>zD),(by rw[List.zipWith_cons_cons,List.zipWith_cons_cons,List.map_cons,zA f g xs ys]),AXV zA zB d (d<m) (W AR d σ' H') zC,putK hZ zA (.int z)=zB,(by refine BMH;rw[Array.getElem?_toList,List.getElem?_map];rw[A4N zA]),∀m p',BJH->AG1->m<=a->AFD SoP m->Q (m,p'),(by rw[EO o es ep (k _ o zA ho) r]),ZD ch (CSX/\AEZ/\CSA/\CR0),(by .rw[MB o e d zA o e CMH]),CSC uF .none kV b pm an a ct,(show d+(AGA)=N by exact b8o l),(∀b,isTrue a X.env b=(do let v <-b;standAt a.pos;holding [v] (truthy v))),(by .have hb:gK g zA:=beq_iff_eq.mpr h;rw[BMB zB]),(by rw[EY G6 List.pairwise_map];rw[<-p2,List.pairwise_map]at zA;refine zB (AXP zC hy zD)),ABC a (a.heap.push (uE "slice" #[c,vu,.none])),(by rw[T6 σ' H' I q];rw[FJ σ' H' I.unwish q]),(by have zA:=zB;rw[eP,ew,eA,a4]at zC),StoreFacts B bmB sa owner,(by rw[AD zA r.length zB a1r];have fin:nZ w s:=⟨z,H,I,zC,q⟩),(by rw[AD hl zA TT zB];obtain⟨T,zC,t2,t3,t4⟩:=zD),FV (assignEach es X.env).findIdx? ((·.1)),(by have zA:CC (iQ putK qL k zB):=by have:=Y6 qL k zC;exact b2f zD this),c≠TO->c≠zA->c≠zB->wP->zC,∀x y c,zA->BW zB y c->x=y,A2O (ObjOk X.prog X.w H1 s1.heap zA zB) zC,(by rw[vW zA];obtain⟨zB,zC,_⟩:=zD;rw[DN (xD zE zF) m.trees];refine Calls.callWith_builtin rfl (Calls.evalArgs_plain (Calls.spliced_cons zG))),(by have e2:CNE=4*KH:=by rw[Nat.pow_add,Nat.mul_comm]),∀o,zA->Fin CN zB H Q E o,(by rw[EC u rfl t rfl a3Q r]),AE1 names wM n qQ VI (zA->zB),∀i ys H,AWP->AW7,(by exact h _ _ _ g f I),(by obtain⟨zA,b,zB,zC,f2,f3,f4⟩:=TT.2 i _ zD;rw[AW zE zF zG];rw[AX r1 q2 (AJ f2 (N3 f3 f4))]),SetTable.below.go xs j fuel lo hi,(by rw[xV p zA ns rss ss cs ps]),A5N/\A64/\∃vs,eF/\h.DictOf A50 a vs,(by rw[CTB (codeAny_call_builtin (R:=zA) PySem.F.called_set.init.plain PySem.F.entry_set_init (check_set_init_1 hT ?_))]),c7G d e I h λv u zA x y H2 c zB zC q=>zD,⟨λqK s σ H qQ Q I h=>zA⟩,zA l.row.toRowW d [] (λf vs=>PySem.call f vs),(by rw[DQ];rw[A4S o e d st];rw[AX o e CMH]),uE "enumerate" #[.none,ACP,QR,AFL 1,.none,.none],⟨_,rfl,p,C,dx,_,_,rfl,zA,U.cl,zB,zC,zD,rfl,zE⟩,(by rw[dR (BKB (E1 f v AWY=(COG k (cM k v) k))) a k f]),(AXW T5 AWR (a3D (by rw[J5,J5,h1,h2];show(zA)∨(zB);omega))),(by refine wpAny_Try_except (UN (cW zA zB _ I h) (A52 f q) e s' q ?_)),FB (FB (W1 CSW W .dK []) pe BFL) pf CPZ,CE outer P w H s Q u s',(by refine AQH (a0i GV (E:=E) (Q₁:=λz s₁=>LR z s.heap.objs.size/\s₁=CL9) CPF) r s₁ K),(by .obtain⟨_,h1,_,h3,h4,h5⟩:=zA;rw[FJ h3 h1 h4 h5]),(by .obtain⟨p,ra,ca,af,aw,b,L,F,W,rfl,_⟩:=h;rfl),(by have n:BIX (AQ7 zA):=oR zB nl rfl;unfold Builtin.«set.__init__» noKeywords Builtin.Frozenset.updateFrom;generalize C:pyIter=PI),(by obtain⟨rfl,h',tk,xs,rfl,g,f,I⟩:=hr₂),(by refine zA zB zC zD λp' m b d e g h l o=>k p' m b d (~~~a3B e) (~~~b3q g) h l o),(by intro value zA qK s σ H x y v u Q I zB zC h g),(by rw[oZ tl T PySem.F.called_set.mro];rw[AD J PySem.F.called_set.made W PySem.F.called_set.sub];rw[BMS (mW callAny "set" _)];rw[SJ ⟨AWT,AWD PySem.F.entry_type_call⟩];rw[Around.under_plain (weight_type_call_type "set" ATG []) rfl];rw[AD h1 PySem.F.called_set.notType h2 PySem.F.called_set.canCreate];have a1:=II PySem.F.typeCall_set_1 l),(by obtain⟨ol,hol,hcl,nl,hdl⟩:=hl;obtain⟨X,k,L,d⟩:=ol;simp only at hcl hdl;subst hcl;subst hdl;have zA:BW CLV l zB:=KP hol;rw[AD V zC U zD];have a4:(zE==ACS "dict")=false:=by decide),(by have zA:∀{H:Hp}{b:qE}{l t k z:Int},BGU->AX6 (ACM zB) (BD z) (BLS zC):=λ{_ b l t k z} e=>PU (zD b l t k z) (DPut.k (k:=zE) e (BIH (ARA 4) b1H D))),(by intro s' O B g f;obtain⟨h',g',Y,N,M⟩:=s';have eg:g'=s.gens:=B.gens;have Z:Y=s.drawn:=B.drawn;have eo:M=s.os:=B.os;subst eg;subst Z;subst eo;rw[LW _];rw[pC];rw[LW CNY];rw[SJ (mQ rfl h' N O g f (A3G S e))];have F:HY s.heap.objs.size:=ATC S;have G:HY AEG:=zA),(by rw[WL ⟨_,rfl,_,rfl,p,_,_,_,rfl,rfl,AVX,zA,_,rfl,nt,_,rfl,WN g,rfl,N6 ns,?_⟩];rw[a2Y,zB]),λzA f A outer s H vs Q E zB h=>zC,(AAP backTo zA starEach zB).zC,{zA with heap:=zB,toks:=zC},OS zA ((·.1)),AAO zA=(false,bR)::AAO zB,AAS zA scope f cd A,CID (zA P w),{cls:=zA,dict:=none,data:=zB},tP APW,zA outer b a E,AAR PySem.W.nsIn zA zB,WA B5 A4 zA,bootBuiltins zA=BV zB zC,! zA "set-order",show BDJ from zA,ZH F W zA k,wd "lay",CJ (zA > 0),C6 src σ=zA,((r.length+1)),((mask+1)),ABB ABO,.BinOp a zA b pos,ffl ra ca b zA af aw,frs (AQD zA),(lk zA n).getD,BDS (zA zB zC pos.line X.env),CJ (zA+UG CIG+BE3 (CIG).isEmpty<30),zA (Nat.lt_succ_self _),YP a .dK zA,gH none,BDR vs.length,["a","b"],CIX d.prices,envOfC zA zB s.heap.objs.size f,zA λx => -x,AQO "rows" zA "names" zB [],APU [zA,zB,false,false,false],IsNx rss cs zA u v,{D with nx:=zA,ct:=zB,bk:=D.nx},AH Heap.get?_update_other zA,BD 1000000000000,BQ zs,MR " ",MR "lay 5",APV "lay 5" zA,zA X.env.scope x,.bl true,V.int (CJ5 0),ovI (lk d.caps n),(by rw[List.getElem?_map]at zA),Nat.ne_of_lt (zA zB),knd.draws k,gK zA Value.none,AQ9 "caps" zA,BDX k.map,tO wd "0",sqt (HF zA),List.zipWith zA xs ys,bdS n y=true,uH zA (AAT zB)=BV .ref zC,APU [false,false],BEH (G2 zA) G3,(zA a (Obj.mapSeq λ_=>#[])).zB,(List.zipWith f xs zA).take,A2O (A2E X.prog X.w s.heap a zA) zB,(zA zB).cps.toList,EK zA "set-order",A29 h.get?,US "1",HT.sIx zA 0 lo,min xs.length zA,OW a3s i pt,AC1 s.heap zA,lI σ' H' zA,BEA (zA uF f a A),.ret (.bool zA),zA rows items.size xs,Cov zA H' zB s'.heap B,⟨zA,I.os,I.bare,zB,zC,zD,I.free,I.freeC,zE,zF,zG⟩,zA (base:=base) (P:=l.prog) (w:=w) zB zC,Z3 (zA n U x X y G),Value.builtin zA,zA (SetTable.below zB zC),tI zA i zB zC (Or.inr rfl),0<r.length,Around.under_plainId zA _,AQB (.seq zA k),OW SetTable.leap i pt,(by rcases List.mem_cons.mp (zA zB)with z|z),E (AK zA) none H',b.unheld I.ok,looks_findIn (M:=FW) zA zB,CJY A6,CJZ s.heap.update zA,ARR C bm,ARW zA CY hi,I.tok tk,FV (uH zA) (AAT zB),λy G=>CKH zA,bV (x++BF0),ACJ base zA k f fd ps sp,Binds X.K fd ps zA,zA ns rows sides caps prices,⟨a1i K zA zB zC zD h.h g.h f b d c i a⟩,DecidableEq zA,gD zA V.str,mA f,UH zA 1 "width" zB,A2U (APP ABR),BDW items,PySem.W.instObj C zA,cB zA PD map,BG6 (BFY s₂ zA),(by rw[JZ codeAny_builtin zA];rw[CKM zB]),b2G rss zA j<0,ovI (prO x),zA outer a b E,vB l (nE dC dd zA sl),K4 (j:=zA) rfl,Heap.FlyingW base zA e zB a0 zC,∃N:QT,(∀σ' H',N σ' H'->∃zA,zB/\zC)/\zD,λ_ _ _ _ _ _ _ zA=>zB,zA hs₁.extBut zB,env.frame=some zA,wd "0",λz=>A2I,(by show CC zA;rw[ED zB zC]),gF (zA K H' a zB),(by rw[List.take_add_one,zA,zB];rfl),NG List.length_map zA,AQ7 get?,BDR us.length,AAQ zA [] pos,AR3 it,uI 1 a3y zA,AQS p m,DGet H a y zA,AS7 aF,zA λx=>YX A3A,UN zA zB _ _ z (False.elim z),(c.val k).zA,.Subscript o i zA,AC3 KD h',zA X.K H p ys,j it AL,a0o Z,CLC cO,CLF ys,h1.push ACE,.dK (a0Q zA),A2P ATB BGX,none::gH none,(λv z=>by rw[iX d]),∃W:AC9 QT,(∃m,zA)/\∀i m σ H,zB,⟨zA zB d.h e.h f⟩,bindArgs zA BGN=pure (ps.zip us),M=wb::R,CKF zA I.base zB I.cell zC I.hok zD,b2h (λp q=>zA) (zB x) (zC y),Heap.FlyingW B zA p EA a0 zB,SysAt zA v ns rows sides caps prices,SoP (O:=OL) (b5c rss) p zA,(let ⟨r,e1,a,e2,q⟩:=zA;⟨r,e1,a,e2,zB⟩),(by simp only[List.mem_cons,List.mem_singleton,List.not_mem_nil,or_false,not_or];rw[AY zA zB]),(by obtain⟨oc,od,kV,zA,pm,an,a,ct,zB,rfl,lk,c⟩:=zC),Array.getElem?_eq_getElem zA,A.frames=some zA,zA x List.mem_cons_self,DT (-x),HW ws.map,Value.ref b,BM hw,.Subscript zA zB pos,II seqItems? zA,KR AI,NiP key p zA,(t.put zA).2,cB zA zB flatten.toArray,LY hb,(by rw[List.replicate_succ,zA,zB];rfl),A29 H1,AB6 (CIR),mM owner.setIfInBounds zA zB,PB vs.length p,tO wd "",2 ^ (k+2),.int 1000000000000 zA,b8k _ BK,BF3 base.Ns,ADK (tP AI),CJT ha,CJT hb,Q GV (cC l zA),CKW List.getElem?_append_left,BH5 (y=.non/\zA),(ws.take zA).foldl,gM zA "one" "other" zB,BDV L5 p,m::ms,FQ xs.take k,tY (BIF true zA),ABM (BH zA≠0),BEK a0e " 0" zA,ATH zA zB List.length_map nN,CMQ vs.length,ret Value.none,(CKB zA).nox,tupleKind (F3 zA zB),HG zA SqL.of A0,Q (.bl true) H',MU c B.mono (oJ zA),A2T [n,iS],SqK k2 K H b zA,backToKw pos (keywordEach zA zB),ItAt k zA i l n,X.blk N scope zA zB,.int (zA j 0),ATI "caps" zA zB "room",r=.int m,λi ys H hi p=>zA,SP X qK D zA s',λi v=>∃e,zA/\v=zB,CMM zA I.loc zB I.len,if zA=f then zB else(zC,x)::E1 f v r,st0 t.mask WH,cN m zA st ps,gTup K 2 (gCons (B1 0) (gCons (B1 1) b2q)),FB O R [CL0],ASA (zA d l r v) ps vs,KQ ((BI7 AUA).push oT),(by rw[KA (BF wpAny_isInstance T zA b true zB zC)]),(by rw[oK p l zA];exact AM k zB (DG l A0)),∃f fd,zA/\zB/\A3Z/\CL1 zC,zA k1 k2 h l1 l2,⟨_,rfl,_,_,rfl,rfl,_,rfl,zA⟩,b a f A outer s H vs Q,(by rintro i x z zs H' p hx hy ⟨s,rfl⟩ hp;rw[ET x' zA e1 zB hx]),(by rw[CMT e zA zB];refine b0t lk c S len λA outer s H vs Q E zC d=>?_;rw[MB t h q zD t zE q]),(by rw[VD ⟨_,rfl,a,_,_,_,rfl,rfl,GR zA,rfl,_,rfl,p,C,dx,_,rfl,zB,U.cl,zC,zD,?_⟩ zE st zF zG]),X.env.scope.kind==zA,~~~a8q,(by simp only[List.size_toArray]),l.most=some zA,AK e,AK ah,QW+1,AH t.kIn zA,AH l.kIn zA,(by have:=zA;cases this),AU h.objs.size,qD Fin,BD 2000,ER CKT,toS x,YR EN,FX BG8,KQ h2,beq_iff_eq.mp z,EW rfl,seqIndex_of a zA,FP st,Obj.mapFields λz=>zA,JJ ZM,YV d.map,YV BFK,V.ref r,OX h'.get? zA,gJ a.hok.fresh,items[i]?,wpAny_pure (zA ?_),.int i 0,gQ PySem.W.tailIn zA zB,AV::vs,AQD a.heap.objs.size,A2T XH,UH zA 1 "word" zB,10 ^ 60,iB q,vs++BFL,.int zA s.toks,(CU,y),A3T zA "_law_pot_here",ZI x f,p::A4B,ADA lts,BEY caps.map,DK "sum " ++ zA,ZQ zA "_law_pot_here" gO zB,ADS (R y),ASQ List.length_append zA zB,.builtin zA (aE zB),CKI "BaseException.__getattribute__",CKI "object.__getattribute__",AV::j,AUJ::j,EA::us,(x,NameKind.cell)∈zA,CJ (ADE zA ys.getD),BFE Heap.ExtBut it,AJ CNM e1,CC (xs.length+zA),(c i).1,BHP ys.length,AUV cne,BI3 X.env.scope.names.lookup zA,iM::bmB,BIJ AG,BIL List.toArray zA,(by rw[List.getElem?_map,MX zA];rfl),((∀m,m<n->zA)),BJ2 n.toNat,A3W zA H' zB xs.map,zA K hu JD A3L,CM5 isSome_eq,ASU p ys,BJU (CU≠b),CMO X.stack zA,s.TypeIs AV zA,(zA HL zB).cps.toList,∀v,AS6->zA,CD (wpAny_pure h),Stps dr0 zA d,A25 MethOk zA k ps zB,BDS (mW isSubtype zA zB),[BD j,v],DS T7 4 G0,DGet H2 a y zA,(WX-1) / zA,(wpAny_newObj_type ?_ (by rw[zA])),zA zB λb o e=>UR,sdC ns.length,attributeBase e f zA zB=zC,S::wr,[op,f],[.LtE,.LtE],BJ0 == ms[j]?,AU (BGI AVF),sortedHeap zA a vs zB,gE BK4 CNA,∀b zA,bU b zB->cI b zC,lT lastMarks zA BGY,Heap.SameBut a s.heap zA,[BHG,BD d],ZK hs₂.extBut zA hs₁.extBut zB zC,Y7 nW A4,∀v,zA≠.cell v,r c f,IsPair zA TO a b,EqV K H zA AV FT zB,vY _ _ rfl zA,zA K M JD (ER a0h),eqV z y,Nat.mod_lt _ (Nat.succ_pos _),λ_ s'=>COD .next,DR b o e n C t,[(false,zA),(false,zB)],(by rw[<-zA,<-l];exact h _ UA),(a8H zA H).get?,mM ASB 0 v,SP X qK D,BGG this Nat.le_trans zA AG,((∀x c,A37->c≠b)),BH7 fl v fs,PySem.W.fnOf x qual ASW uS,∃xs,zA/\k=! xs.isEmpty,(by rw[BJY];rw[DQ];exact zA i x zB _ zC p),zA qL CU IO,∀h' zA,zB->(∃o,BGJ zC/\AEJ "StopIteration")->zD,CQ ws zA (Wl ws),a3P X qK zA b,ADB (ADB zA hs₁.extBut zB) hs₂.extBut zC,(by rw[wJ wpAny_pure (zA e1 zB ?_)];rw[wG]),A8 a (WD U.mono a5v) rfl (lY zA),[EZ ra,zA,FP most,EZ zB,zC],a7a (b0c n) (zA y),((hO.nm.nm y l).wg).1,CO8 d C,(by rw[CON "StopIteration" zA isSubtype_stop]),[ABB (vA A3S),ABB (vA A3Y)],zA=some (.val (.builtin "ValueError.__init__")),(K w.params).In h,.Raise (AU (BDK (APQ np))) none pos,a0g zA i (WD v.mono zB) EV,LX COK S BG8,((b∈X.ex∨AUE b)),CC zA/\k=(BH zB != 0),.ListComp d zA scope pos,SqK k X.K H a zA,a6e A5D (zA j 0),λr s'=>r=w/\nZ r s',ACF v.mono (A43 HJ CKT HJ),A4E (tP AB) ys b,zA λa=>if QZ=k then zB else a,s'=COM/\CNC/\CNX,(by rw[A36 (LV field z zA)];rw[ASC hz zB]),iH zA/\BJD a zB≠h,compPost SD X.A X.xe zA zB,(by .show Value.str zA _=_;rw[glued_eq_join,zB]),(by refine AQH zA r₂ s₂ hr₂),SyAt H zA zB rss cs,nF assignEach zA X.env (·.2)=zB,zA K (D6 K EV),AAM Env0 zA outer s H,RelO.some_of (v:=v) (o:=zA) zB,∀b,b∉oG->HY zA->b∉zB,thn (AS8 d pos) λzA s1 (mV vs c zB zC)=>zD,Inv zA qK σ H s,HT.lexLt AVG (rss.getD j []),(standAt qN.atName>>=GA (holding zA zB>>=λp=>match p with | (zC,first)=>callWith pos zD first zE zF)),BGM (backTo qM (starEach es zA)),#[zA,.none,.none,.none,ACP,.none],BF zA base base P l.prog (w:=w) zB,M2 X o zA qN e f qM,_/\_=EE (zA vO (M0 ns y)),BJJ zA n q r t y,a5Q (st:=st) l c k,E1 "caps" MH (E1 "sides" IQ BH4),(by rw[COU j h2.ex i (COS E i d) h.h]),⟨G1 zA g h zB c.h AG AG f a⟩,ABS zA X.base C m k ps sp,(by obtain⟨n,q,L,r,t,y⟩:=CM9),(by rw[AD7 B A F j C B A]),FnL K f zA zB st oc od sl kV dc pm an cd ct,⟨_,rfl,zA,_,rfl,zB,_,_,rfl,rfl,_,rfl,?_⟩,(by rw[AE2 d l t (zA z) f m (zB B)];rw[l.length,m.length]),[49,48,48,48,48,48,48,48,48,48,48,48,zA],[zA,48,48,48,48,48,48,48,48,48,48,48,48,48],List.mem_singleton.mp zA,List.getElem_mem zA,zA vs.toArray,~~~b1K,Nat.lt_trichotomy zA zB,wpAny_bind (zA zB),AK r.heap.objs.size,AK AET,Int.emod_nonneg _ zA,Int.emod_lt_of_pos _ zA,Nat.lt_of_lt_of_le zA (zB zC zD),b.tok _,lH execs zA,AU n,LP "dict",jv 7,List.mem_append.mp a,.str a,V.ref a,FD hp,FD hl,HV h1.get?,DT BMP,List.getElem?_eq_getElem h,(List.nodup_append.mp zA).2.2,HW L.map,HW wBad.map,CJ AUQ,BM h2,wK-1,env.kindOf n,KQ CMD,BA COX,HX BHZ,EK zA ((· < 128)),II collect zA,DF A5J,EE ACR,TZ zs.map,rows i,rss.take i,AAS CX0,List.mem_of_getElem? k,YY Ls4.map,Nat.le_trans zA e,YZ "most",List.getElem?_eq_getElem f,a3Y f,valueAt zA k,tP RU,zA p xs.toList,x.cps[i],bZ cs.lookup,gJ c.hok.fresh,rows=[],APT z,NE g,mB / 28,lands_againW zA λzB zC zD=>?_,SQ > 0,Q (.int zA) H',a7X ns,Heap.size_push ..,σ[j]?,AB7 PySem.W.emptyDict,uG WU,uG AVW,MF BKR,AB8 pB,mK LinP,ZV I.base.there zA,BU 2 sc_read_term.nd zA,uO a4H,hH "rows",ZX a,ZX c,ZX fl,p.toList.map λi=>zA,mY NQ,rawInt L,ABP CL0,cU rest.toArray,Nat.le_of_lt hi,(by subst z;rw[FF zA zB zC]),iB g,nJ zA h'.get?,AC3 zA I.big,zA X.env.locals m,(by rw[List.length_cons]at a),A3B CMD,bP PySem.W.specialIn zA zB (WE zC),AR5 x.toNat zA,os.Perm vs,A3M xs.map,A3R (! CJ zA),A3T zA "self",(by rw[oY zA];rw[MJ (zB<=_)]),AS0 PySem.W.emptyDict,(c i).2,X.wish E,(by rw[wI];rw[MJ zA]),pI a,A4Y s.heap,[NQ,BD j],CKD CameS,BGF X.A.in1.handled zA,(x,NameKind.free)∈zA,A5K I.ok.bsz zA,Q GV (LX H l zA),ATN s.heap.get?,BGM (ASO es zA),A5U hx,JM (dP q zA) q,UZ p (CNT zA),A63 .none zA,AU1 mem,AU1 length_le,AFC (DS R5 1 zA),CI (ABZ zA) (BG9 "str" zB),CKW List.getElem?_append_right,CL4 PySem.F.plainAttrs_str zA zB zC,j<=AF1,⟨zA,[(DK "default",zB)]⟩,AFT zA ss.map,(rows i).1,AFY sc.names.lookup,AUT s1.trans zA zB,ASP JB (CNZ zA) uS,BGE k 1,CLN zA D.l1z,a b _ e,λi j=>CTK,BJ3 .none,A44 (zA ns ms) s,CM8 SqL,CM8 SqT,xI x C none,(Sum.inl a:Key)=zA b,(Sum.inr a:Key)=zA b,atKey zA k=some zB,~~~b9e b,CMW hr,zA λx=>vQ A3A,RfW d wb,uN HT.sIx zA zB NH,AR6 M (vE excMatches zA),CNL zs,⟨H,UA,AJ (zA r) q⟩,CO9 ms.getD,I.ok.hd hc,items.size-0,⟨BM2,pS v zA⟩,.cons zA .nil,min v.toNat n,CPQ wpAny_throw,a0p XL A6,mH a3Z 1,(by rw[gX seqEpoch_at zA rfl]),.str (rows i) zA,AC7 v t,IT H1 v r,ZQ zA "self" gO (CTE zB),CQA List.length_append zA,λc o e=>AJ (AWH zA) e,CQS vs.length,DD i j c zA,(zH1 k1 zA zB).objs.size,Chn n most zA L,(by rw[VL ru rv.one ru]),∃n,lP e.1 n=j/\AWN zA,CT1 ys.getD,K w.params,List.getElem?_set_self hiσ,h'.push (cU zA),Nat.le_of_lt_succ CS1,n / 10,["many","name"],["row","side"],["cap","number"],ARX sc.names.lookup∨zA,(by simp only[List.length_append,zA,List.length_singleton]),PySem.Within mA zA,Meets (zA (oH GV zB)),zA (vs.toArray.zip vs.toArray),seqIndex? i zA=some zB,wpAny_newObj_type (zA zB) a,zA K zB (.type "type")=true,(WH,CMZ),AJ eL wH,AJ d2 R.rl,∀xs,zA->aA,~~~b1T hj zA,vs.getD i Value.none,GS (u++[z]),λ_ e=>A5H,OS f j,(by rw[CA (List.mem_append.mp g)]),[(f.heap.objs.size,AVD)],tO vt r,ws.map λx=>BL5,zA λq=>[zB,EB,E5 CZ],J3 qL j,FY .non _ zA q,cG (6<1000),LG (b1U zA hz),GW o (kp b o (NE zA) zB),mM owner.getD zA 0,RA (if zA then j else i),(by rw[mU b xs.length]),(by refine Calls.call_function_entry zA zB zC (zD _) ?_),λp z=>LZ UX,DJ zA ["names","words"] zB,a0e HL m,FB H' p ys,zA c a b pos,v=.bl true,SqL X.K H a zA,h zA _ UA d,AT4 3 b1N,⟨xs,q1,BO⟩,∃o',YU zA o',DS T7 3 G0,λi H=>∃xs,zA/\BKZ,⟨_,rfl,_,rfl,zA,zB,rfl,zC,zD,zE⟩,λi ys H' hi h=>zA,n-(q+1),⟨zA,AG,BK,BK⟩,["total","row","j"],(G9 (by rw[zA,h1,h2];rfl)),a2G C m sp [],(decide_eq_false (by intro z;exact pA V.str.inj z AG)),48<=c/\c<=57,(by rw[QV d zA List.append_nil d];rw[A5L zB]),BK0 "names" zA [],TgA zA rss cs,e (decide_eq_true (LZ z)),tC (.int 1),W1 zA dx .own x,BKQ .none ps,BM0 oG [],sp zA zB (BMF (Q zC H2)) E,CO0 X.prog X.w,-3<=x/\x<=3,zA::(vs++dvs),["name","number","word"],.seq items nl,SqAt k1 zA a xs,mW typeLookup T zA=pure (WE zB),LB T4 ns cs,zA A outer s H,hE ((s1.trans r)) zA,CQB "type.__call__" CQG,λc v zA q=>k c v ?_ q,∃sl,YU zA (BHC slots sl),SetS prog w h' s.heap.objs.size xs,zA (s:=BFB) J hd zB,BKL zA A4O _ size,BLB t "str" false,∃its:AI,wV/\zA/\aO,⟨_,rfl,_,rfl,a,b,zA,rfl,zB,AG,BK,zC⟩,CSS (zA K zB BKK "__init__"),(by simp only[List.size_toArray]<;>exact a0P zA a),! LnF CPA (os.filterMap id) n,⟨ns,rows,sides,zA,zB⟩,{D with nx:=u D},["row","side","names"],hideAll B.heap CQ4,cellsFrom zA scope.names AFB,((∃dx ah,zA/\EJ ah)),spLaw (K w.params),.Return (some zA) pos,zA (L:=X.env.locals) (PU zB I1.ok.frames) zC zD,FnOk l.prog w zA mg,CQ u L (CR4 zA),(r,b)::xs,wpAny_setState_of e1 f AV1 zA,HOk X.prog X.w H zA,f b _ q λz=>z,(by refine call_meetsIn zA dd.typeIs zB (iF zC) zD zE),.set es ep t,a3d zA c h0 (COC zB),UC (QW+VA*1),(QE m (zs=[VA]/\zA))∨(zB),((∀wb R,CML->zA)),mL hj Nat.not_lt_zero j,cP CQN j CMC,FAt C H' x ra,WJ×qE×qB,a i j t t',List.map_inj_right λ_ _ e=>BKM,zA l eP ew eK,0<=y/\y<=B,((∀vs,o.data≠.fields vs)),λi H=>∃xs x,zA/\aA,∃a vs,AGC/\A2Q vs,hl i σ H hi p,(by rw[CLE PySem.F.entry_min_loop PySem.F.plain_min_loop];rw[BG7 (CN2 zA)]),zA zB d i es.size ep,∃C',LR c C'/\zA,gF (CQW k1 a/\zA),(by rw[AXX σ xs.length ASG AT9 zA σ]),DP h' tk qQ kp zA,zA b o e n a,A2O (A2E X.prog X.w s.heap zA zB) zC,IsEnumOut zA e it AFQ x zB,CSG e zA e (vE E UI),B5 A4 (a5L A4 zA),hideAll n.heap (frs CPU),(a5e d.names BLM).tail.map,(AQ7 push zA).get? s.heap.objs.size,BID I1.landX hp zA cov zB (zC zD),(λi q1 zA=>LZ (show i=CB-1 by exact c6N q1 zB)),.Compare i [zA] [o] pos,cD N8 ns xs a,mK Said ps x zA a,f AUY (.int j u),z.setIfInBounds 0 (.int AWS 0),(by rw[ASF (λx:Str=>x.cps.toList) h]),(by rintro x rest zA s' ⟨rfl,zB,hr⟩),∃dd,IY H2 (xI x C dd)/\E EA dd (rem H2 x),AE1 h' Heap tk xs zA (zB->zC),iQ StP rss cs ys<=zA,λy=>dS y name SK zA,CKF I.ok ⟨zA,zB,I.base.free,A3G e zC,I.base.tups,I.base.frzs,I.base.tbls⟩ zD zE (pN zF) zG (BM I.len),((∀wb R zA H',CML->tR zB .xd [("line",BD BLQ)]->zC->E (AK CN) zD H')),EB∈zA/\0<=CZ/\CZ<=topN,(zA BI0).take (HT.sIx xs.length xs.length hi-BI0),(by .exact h.one (λ_ _ _ p q=>zA) g),CPI (z.setIfInBounds 1 (rawInt CP2)),SL td x (∃a,IE/\IsD H1 a/\VF ty y zA),["_law_k","_law_letters","_law_first","_law_step","_law_longer"],(((zA H _ l q items).toS)),a0G AFS ns (prices.map prO),IsZip zA z TI TO (rawInt zB),A38 FAt ra ca af aw zA,λx y H1 zA _ q=>CRY q,(by rw[QV d (zA WO U NoX zB (A a5 zC) a7 zD) eA d]),(by refine wpAny_forIn_list _ zA _ ?_ ?_ _ _ (A3O zB)),BF a4M k k l p (items:=its.toArray) zA,BF EqV.flat K zA H H (n:=0) (x:=zB),(by refine BF PySem.W.callWith_K first ZM h₀ X.base I.ok.mod.kin zA zB zC zD),A3 (a5J zA PySem.F.excBase_ValueError rfl PySem.F.excBase_ValueError rfl A3L),⟨_,rfl,p,dx,_,rfl,t,UL zA,?_⟩,os.Pairwise (λx y=>HX (HT.lexLt (AC3 R9 y) (R9 s.heap x))),(by rw[List.getElem?_set_ne (Ne.symm hj)]at e2;obtain⟨zA,zB,q⟩:=zC j y zD e1 e2 zE;rw[DV zF zG ?_]),BF wpAny_binaryOp_repeat_ref T zA U "int" AG zB (λs'=>AUM s' zC) zD F.fills_int_mul F.slot_int_rmul zE F.slot_int_index.lookup,((Heap.SameBut.update ..).extBut.push _).push _,GP zA qH zB CN3 ((GP h1 Heap tk Nat (BI6) (zC zD (A3B h1)))) zE,b3J (s:=zA) e c d AG ⟨zB,H,zC,zD,zE,g,BLA f j f⟩,ABS zA X.base x C k ps sp,SetTable.insertAt t.place A4O (pos t.mask x N),BN2 d b (zA uF .none kV d pm an b ct),concat_meets zA zB noFill_tuple_add seq_tuple_add PySem.F.slot_tuple_add PySem.F.entry_tuple_add (BX PySem.F.args_tuple_add_2),(by rw[JZ zA zB];refine⟨s1.heap.objs.size,[s1.heap.objs.size],_,_,H1,rfl,CRE zC (t':=s1.toks),zD,AT7,iB d,q⟩;rw[RD e b s1.heap.objs.size d]),(by rw[NI];rw[iZ Builtin.SmallTypes.ownedTupleIsFree (wpAny_field zA rfl (x:=.none) rfl (wpAny_pure ?_))]),CJU (λa b=>g (f a b))=cD List.zipWith f xs ys g,(by rw[LC];refine wpAny_Call_method m.base m.few m.line PySem.F.plainAttrs_dict zA zB (A5W zC zD);obtain⟨x,H1,zE,zF,a,ex,d,q1⟩:=zG),(by rw[jQ hi zA];obtain⟨r1,r2,zB⟩:=t4 i t hi;obtain⟨zC,q1,q2⟩:=hI.2 i _ r2;rw[AW zD q1 q1];have zE:CP zF t.1:=by rw[<-zG,List.getElem?_map,hi];rfl),⟨_,rfl,p,C,dx,_,_,rfl,zA,U.cl,zB,zC,?_⟩,codeAny zA callerA (LV .call fa CPJ) (λr s'=>r=.ok (CKC true)/\OldK s₁.heap s'.heap/\s'.os=s₁.os/\jM) s₁,∀(qK:DA) (s:qC) (σ:St) (H:Hp) (zA:zB) (zC:zD),AN->zE->zF,(by refine⟨λqK s σ H D R I h=>?_⟩),(by have P:A4F CLV APY:=KC;have hT:Shared.TypeIs (A2U APY) QR "set":=FZ P;rw[AD a3 PySem.F.called_set.init.lookup a0 (II PySem.F.called_set.init.bind s.heap.objs.size)]),(by subst C;rw[JZ zA n];rw[KA wpAny_runValue];have p:mT l:=Heap.lt_size hol;have H:A.in1.in1.in1.handled=none:=by simp[hh]),(by rw[NI];simp only[newExc,newTuple];rw[BI (CRD (by size_fits))];refine wpAny_bind (m:=BX firstArgMember) (wpAny_of_eq (a:=Value.none) (by first|rfl | (simp only[firstArgMember];rfl)) ?_);refine wpAny_newObj_type ?_ (by size_fits);simp only[raiseNew];rw[KA wpAny_handled]),∀(qK:DA) (s:qC) (σ:St) (H:Hp) (zA zB:V) (zC zD:qB) (Q:VK),zE,∀(i j:Int) (t u:Tok) (s:qC) (Q:qH) (E:qH),zA,wpAny_execs_nil zA,Calls.spliced_cons zA,List.getElem?_append_left zA,Nat.min_eq_left zA,eq_of_beq zA,List.mem_range.mp zA,List.getElem?_eq_none zA,List.count_eq_zero.mpr zA,x.length<=zA,L.length<=zA,zA=.function,(by cases zA<;>rfl),(by rw[wB zA]),(by have:=zA;exact zB zC this),(by rw[BRP]),(by rw[BRR]),(by rw[List.length_cons]),if BJC then zA else zB,N.hL.1,(by exact PassesOwn.never),(show zA by rw[BHI]),(by rw[List.length_append,zA]),! o.isSome,⟨u.slots,zA⟩,(by simp only[Bool.and_eq_true]at zA),(by simp only[List.length_nil]at zA),~~~b9A,~~~b9c,(by simp only[List.getElem_map,zA]),(by rw[<-Array.getElem?_toList,zA]),(by with_reducible refine zA i ?_),(by simp only[List.length_cons]at zA⊢),funFrames_hide zA zB,Option.some.inj (zA zB),I.hok.fresh (zA zB),(zA).cps.toList,qA WData,AK sa,AK a.heap.objs.size,AK f.heap.objs.size,nsMap_none_of_in X zA zB,(by exact beq_eq_false_iff_ne.mpr zA),Nat.mod_lt _ zA,A.length+1,2*i+1,(by rw[AE zA Bool.false_ne_true]),zA zB zC (List.mem_of_getElem? zD),zA zB zC (Obj.isFreed_of_fields zD),t.plain=true,a6e zA 0=true,wpAny_loadPart zA (zB zC),(by refine List.nodup_cons.mpr zA),BH g.length,BH x.length,BH ws.length,BH vO,BH A48,.ret _,Array.Perm.refl _,List.mem_singleton.mpr rfl,FV s.heap.get? zA,FV h₀.get? zA,AU e,AU outer,AU os,AJ List.size_toArray zA,AJ List.length_append zA,CC its.size,CC ns.length,CC rest.length,CC x.length,OO x.cps.toList zA zB,LP "str",LP "frozenset",wd "+",wd "-",jv 8,BX g,BX .n,BX .x,BX N2,BX a5S,List.getElem?_eq_some_iff.mp a,SqT.of a,beq_iff_eq.mp a,Nat.min_eq_left a,List.getElem_mem a,T.keeps a,QM sizeLine,FD e4,FD g1,HV X.s₀.heap.get?,HV s₁.heap.get?,HV f.heap.get?,a0n e,a2R e,s.upd e,DT BQH,List.mem_map.mp h,.inr h,I.list h,I.tuple h,List.length_eq_zero_iff.mp h,gB ZU,gB BIW,λz=>D0R,λz=>D30,AAN ent,tail_of_in X zA,i<vs.length,i<ys.length,i<l.length,i<es.size,i<x.cps.size,CW E,GR m,GR e1,GR J,GR hq,IX Nat.mod_eq_of_lt,IX BS4,YQ UInt8,List.mem_of_getElem? b,.str b,h.get? b,List.getElem?_eq_some_iff.mp b,List.getElem?_eq_getElem b,s1.trans b,EJ af,BM c,BM o,BM e,BM p,BM hu,EZ C,EZ nt,xs.length-1,vs.length-1,ss.length-1,A5C-1,A1X s1.trans zA,2 ^ a,(PySem.W.plainGet_of zA).1,a3b n,KP mX,YR Nat,YR Str,YR (A1Z V),DK "",DK "\n",FE CT3,BA e',BA c',GT fs.length,GT vs.length,GT items.size,GT f.length,HX items.isEmpty,HX (AYJ D),HY f.heap.objs.size,HY ar,intKind P w,rSortS P w,rLenN P w,.str z,List.getElem?_of_mem z,QO Prop,(by rw[zA,List.map_append];rfl),EW fin,j<owner.size,(by .rw[AE List.mem_singleton zA]),FO BP2,FO BQ7,(by rw[EX Array.length_toList zA]),II pyIter zA,KR SetFound,HF h2,HF e1,HF e3,List.replicate n zA,(by rw[List.getElem_zipWith];rfl),0<xs.length,0<v.length,TZ r.map,KW k,GI 0 NU,I.list i,I.tuple i,YT "way" zA,(by rw[KA wpAny_letGo]),1<=x.length,(by rw[GM wpAny_holding]),(by have:=List.length_filter_le zA zB),JK "tuple",JK "range",JK "min",JK "int",JK "set",YV zs.map,I.tuple k,List.getElem?_eq_getElem k,I.ok.hd g,List.getElem?_eq_getElem g,s1.trans g,YY a.map,(by rw[DN zA Int.toNat_natCast]),congrArg zA e,I.ok.hd r,I.ok.hd f,s.trans f,HH hc,GA AYH,AAW PySem.W.emptyDict zA,Str.join zA a,GY ns,GY ps,GY nR,s.heap.update p zA,t.length=n,MX h2,i<=es.size,i<=mask,sc.names.all λx=>zA,IN c,IN E1,IN T4,IB hx,IB h1,IB e1,MY xs.getD,MY p.getD,gJ Heap.get?_none_of_le,gJ d.hok.fresh,(List.mem_filter.mp zA).2,GZ s,GZ e,b∉X.ex,b∉AG3,Nat.le_trans zA h,MZ Heap.get?_push_ne zA,LY hn,List.mem_of_getElem? d,Nat.ne_of_gt d,s.upd d,s.trans d,WD hr.mono zA,tV (FB H1 p zA),List.mem_map.mp c,ns[i]?,xs[i]?,(by rw[EY zA List.all_eq_true]),x.cps.size<=i,m<BH qL.length,(by rw[List.foldl_cons]at h),NB "tuple",NB "range",NB "min",NB "int",NB "set",LR x p,QS qT,QS AZ1,QS (ZC ptW zA),tX nC,tX BTI,AB2 dX,AB2 BPZ,UL c5k,UL c5m,UL c5l,NE I.ok.noex,NE B,A29 H2,1+L.length,c≠s.heap.objs.size,c≠48,t x y,NG zA List.append_assoc,List.mem_of_getElem? l,s.trans j,Q BLC H,ZI "TooMany" zA,ZI "NoText" zA,ZI "NoAnswer" zA,rIxL K,rJoinT K,rInN K,JN α,JN Hp,JN KL,ZJ beq_iff_eq.mp zA,xs.push y,(by subst a;exact zA hl),srt.filter λv=>zA,b.filter λv=>zA,LG hl,LG hm,GW o UR,SH List.getD_eq_getElem?_getD zA,ABA dx,APN h (t+1),A2G EA,b∈fs,b∈X.fs,uJ h₅.get?,BDK nC,cL List.any_eq_true.mpr zA zB zC,cL List.nodup_append.mpr zA zB zC,MK jC,uL I.mono zA,ZR b0v,ZR b0w,ZR a7m,ZR a5V,i+DO,RA ys.length,RA z.length,mO "sorted" zA,B1 0,rawInt 0,¬(D0N),A2R wpAny_bind zA,zA (of_decide_eq_true e),List.map_congr_left λzA zB=>?_,cQ aR,cQ A7H,WS CMY,WS CPV,uO a4b,uO a4a,hH "least",hH "beyond",hH "cheapest",hH "lay",mR H1,ZW e,ZW List.map_map,owner[j],(n,NameKind.free),VC zA "_law_script" zB,VC zA "_law_pot_here" zB,mY iI,k<items.size,L++BR4,(by rw[List.length_map,zA];omega),(by rw[zA,Nat.pow_succ];omega),ABQ 0,RQ zA zB "_law_pot_here",BDW its,uU b.contains,cW h.h,C3 (mH a0p zA),m<=a.length,m<=n+f,(λz=>by subst z;rw[AW A0 zA zB]),aB d.set,iB z,A2X l,GR (HF hn),OT M t,cZ h5,AC1 zA items,vA A3S,vA A3Y,aD "join",aD "index",BE2 s.gens,BE2 g',.bl false,Int->V,EM->V,aE args,aE (zA::vs),nM Prod.snd zA,AQP isFn,vF ?_,AC4 p,zA mask i pt k,d.same s,fs.length<1000,n::t,c∈BSJ,Nat.lt_of_lt_of_le zA BK,dE M,dE hv,AC6 s2,BE4 vs,Lst rss v,aK l,AC9 Nat,BE9 C s H ex,ACB AGH,G6 srt,A39 d.names.length,A39 cO,A6T::st,(by rw[Bool.and_eq_true]at a),iL (atI xs zA),dL g,dL b,dL (dL hj),A3B (AB7 BK2),XJ D0U,dO "rows",dO "caps",iW lk,BEA (CID CX),B.StaysIn h2,λj=>CYY,xs.length<64,F.length<64,zA=Value.ref b,oE row,oE BNZ,AR2 F8,AR2 c5c,CJ0 Nat.ne_of_gt,AR5 1000000000000 zA,A31 xM LA,A3H false zA,AR7 (zA b t),i-vs.length,i-ps.length,(by rw[oN List.length_map zA]),(by exact decide_eq_true h1),A3J s.heap.get?,A3J K.lookup,BEL qB,A3M CZL,oP hG.r3 zA,wA (BLX),A3P (b8l zA),A3P [DO],A3R (if neg then zA else zB),AD2 AFJ,DGet H a zA pF,BET oS,s1.trans G,A40 α,A40 qB,s.heap.objs.size<=a,rest.length<=20,x.length<=20,ws.length<=20,n.length<=20,us.length<=900,L.length<=900,p::p2::r,(by rw[oY List.length_append]),D04≠x,IntsAre zA ms,AS0 AV6,wF "word",wF "sign",mJ "__init__" 1 zA zB,mL zA Nat.not_lt_zero _,A2P (mE xs.zipIdx zA) ACA,setS_at E,λh=>AVL,ADK (((I0 mask owner).map (·.1))),(by rw[List.lookup_cons]at z),s.heap.FunFrames zA l,(by exact Nat.le_refl _),(by have:=List.mem_range.mp zA),CP es.toList e,wO FT,ADO wpAny_letGo,cP vs.any zA (zB=k),ADQ BP6,A4M 8,A4M 26,pW (.str zA),pW BT9,BFE Heap.SameBut zA,BFH ns,CJZ h.update zA,CK0 rss,d.rows.length<=6,xs=CWZ,xs++zs,ASQ zA zB List.map_map,(by rw[zA,Bool.and_eq_true]at h),x==XI,pZ C,qR "caps" zA,A4V (A2U (uE zA zB)),AE5 hy,AST BKS,AE6 a5w,A4Y s'.heap,(by .exact Nat.le_refl _),(by .exact Nat.lt_succ_self _),BU 1 sc__law_pot.nd zA,U3 PySem.W.plainOver C,rC sep,xJ (i++j),AEC (zA (f x)),AED QT,c4H rss zA j,(rF (λz=>by rw[<-z,zA]at e;rw[CM]) zB),CK6 its.length,UY u mX,rG false,A59 Bel,A59 dot,cT W6 f,CK9 xs,vB l AGP,BFZ "__setattr__" zA,BG3 items.toList,AEJ "tuple",AEO es,AEO MQ,(xW (λq=>nomatch q)),ATC D.lt,qP.Perm rss,ATE 100000,ATF CB,xs[B]?,xs[D21]?,A5I nD,A5I AGH,zA∉cK xs.map,AES names zA,MtR X "str.join" zA,ATL a5,AEU X,Q v H1,A5M .nil,BGK Nat,ATO ZL,yI h1,RelO o u,A5Q (pY (A6N zA)),A5S c,zA X.K H p xs,ATT h0.get? zA,JM D1X q,(by rw[GQ x zA zB];exact a1y zC),UZ p (BEM zA),yT "set" zA,AFF (zA K t),CL5 α,j<=p.size,T="int",T="str",AFM List.length_map zA,AFM List.length_append zA,i != 0,A6H (0<A57),ClsX K zA (WI zB),FQ h.get? zA λo=>zB,((ns.map V.str)),(s.heap.update zA zB).get?,AUI hn,AUK X.N,A6U env.cells.lookup,AFZ rfl,JH items y,bU b CR9,BHL AFJ,d.kept (t':=zA) zB,BDV L5 x,AGB 60,AGB 570,AGJ fitsIndex_both,AV2 CVZ,BHY PySem.W.mroIn zA,AT6 σ' v,BI3 out.names.lookup zA,BI4 jaN,BI5 h',Bds sides,b2T te,St->BNU,λm=>xs[i+m]?,BH 1000000000000<zA,iM::bmV,(by rw[AH3];show zA;decide),∃c∈y.cps.toList,zA,H b≠none,n∈N7,AVQ AEV,Heap.get?_push_at zA rfl,BW X.env.kindOf HZ zA,Q (! c) H1,AVT true,AVT (),WdM x m,BIS true,BIS false,BIS neg,(by have zA:zB=zC:=by rw[ATJ zD Array.length_toList]),AW1 PT,AW1 PW,BIU PSs,(by rw[List.getD_eq_getElem?_getD,MX zA];rfl),dot a c,WC _ (AC0 (cR p zA [])),LV .call f zA,λi j=>i++j,(by rw[CLT zA List.foldl_append]),BIX s.heap.IsList,AW9 h2,BDI absurd zA (BPK zB),AHY a0p,CLX nC,AC1 h' xs,k o q1,vD y c,AI4 CR5,AWM A3K,AWM CUI,nZ u s',BJ9 g.lv,ARH BOK ARK,A44 BT2 s,k it AL o zA,(A4J (by rw[HM (V.str.inj z)])),CM3 c.map,ASU b ys,AX0 (zA K tl),AX0 (zA X.K tl),(by rw[AIA];obtain⟨_,_,zA,_,zB⟩:=AZL zC),BJK BQ3,BJK BQ4,BJK BQX,AIF s'.heap,λσ H R=>zA σ H (zB R),AIL RJ,AXM (LQ A46),BJT d,BJT e,BJT h,tC .non,a6i hj,a6i (CZJ zA),α->β,F.length<=100000,s₁.gens=#[],g::a,P::a,∀l,P l,(by unfold SetTable.turns;omega),BKE X.base zA,zA scope env,zA X MQ (gCons zB u),AY9 e4,AH c t,AH I.sm t,BKI N9,rIn K true,CP L a,CP L qP,(c3m c).1,CN4 CB,Itr lo n,JH ns n,ZB [p],ZB [kp],OY t D1K,ZD ch AUD,AYY BSV,AYZ [],xs.getD i 0=zA,cM n v,cM n k0,ABG (BD (i-j)),RB zA (ES UJ) ?_,BL6 fin,BL7 r.map,BL7 t.map,vT z lN,SlR X (zA K),IxR X (zA K),wN x C,wN x L,Rs cs.length rss,AZP (tCB r t),AZR uP,AZV "len" zA,97+BHL AFJ,⟨H,UA,q⟩,BM3 AHL,AZZ as.map,AV4 n H' v,B05 D2X,CO1 List.map_append,b0g ns zs z zA,CO5 zs,CO7 h',NoAttr X.K C f,B0L CV1,COI qn,qB->AWF,k<=xs.length,BN5 GO,((h1.push T).update e (Obj.mapFields (·.setIfInBounds 1 (Value.ref h1.objs.size)))).get?,p[i]?.getD,s % (A57),A5C % 10,Nat×A6W,[AXC,d g],[AXC,g d],S∉fp,S∉wr,argsOk zA (JJ KJ),d _ (j.mem_iff.mp F),kk _ S,BNH hd,AH Y M,BNI b7,CP4 F,CP4 E,FV X.H₀ b,AJ M4 h,FC Nat qB,FC Nat ((JN zA)),BNM n8,h2 x b,IW (LX H h'.objs.size zA) zB,IW (A5S zA) s',c8g K ta,c++[BOW],DY A46 wE,DY A46 (tC v),λ_ D=>D.typ,GK vt xs,GK psW xs,DJ ADP ADP zA,BNW pB,PGs X es t,JFs X es t,Value.int n t,(by .exact DX zA (a3C (by rw[BTA]))),OV fs F,OV fs fss,BD7 CX0 x,JH xs v,JH xs z,bU p AXG,bU q AXG,lP WH (d+n),lP WH (d+m),BOA CL,List.all_eq_true.mp zA x t,BOB 20,UB HL ps,SF x o',SF x CY0,SF p BO5,SF u AXJ,SF u AXK,BOF hp,OY b i,ys=[AV],ys=[EU],(NE I.ok.bs).2,JM CXU e,BOM List.size_toArray zA,BDE CRI BGY,BDE CRJ BGY,mD AV "__getattr__",mD AV "line",BOQ A0,LH zA (ATF row.length),LH zA (AFU cs.length zB),(a3M a j).zA,λb c=>b++c,BP4 h2,f u hu,TH F (ATF cs.length),b3C (C8 A3L) zA,BPE "dict.get" zA,wN o D,A4Q PE zA te,A4Q JE zA te,AE7 b a,AE7 dx a,BPT "line",BPY s.heap,CQH scope.names,CQH names,(by rw[SJ ⟨AG6 PySem.F.plain_min_loop,zA⟩]),AFA Y8 CW0,A66 JD 0,A66 JD 2,zA K R vs H1,CQL ys.length,CQL zs.length,AUR C name,BQA "__init__",A7B a xs,BQG (BD7 zA x),zA λb o e=>ADM j.bs,BQK JX,PG X tg g,JG X tg g,∀l,A4Z->CNL ys,AHN v B,BQQ vs,BQU fss,vs=[zA,AK zB,BD mi],xS _ a _ (A55 zA),xS _ a _ (AVO (A55 zA)),b6t td ty tx,b6q td ty tx,BR1 CQV,AXT (zA (vL zB h)),CR1 h2,CR1 s'.heap,BK8 hj c,BK8 hj d,(by rcases CUK with a|a),CR2 "dict",CR2 "set",c4z ta tb,c8i ta tb,fss.any λf=>BMM,BR8 (I m zA),BRA .Not,BL0 cd x,BL0 cd qn,CR8 "tuple" zA,CR8 "list" zA,BMD ABJ zA F.slot_tuple_iterator_next,a9e sp [] E t,a9e sp [] E0 t,BRM L'.filter,BRN (A59 lexLt),c4x td ty,b6u td ty,rSetT K P w,rSetS K P w,BRY most,CRP CRI,CRP CRJ,BS1 WU,CRW s.heap,BSH te,A4Q PG tg g,A4Q JG tg g,BSK nn,BSN tT,BSW BQI,CSN a0n,CSN a2R,(TC e z (by rw[z,zA]at e;rw[CM])),BTE s.heap,CTJ A2Z,CTJ CWV,CTP "get",CTP "setdefault",CTQ min,CTQ max,BTT base,CTW MethOk,CTW MethOkE,CU2 48,CU4 hw,List.mem_of_getElem? e1,hl.of_keeps (JL q zA zB),j-ys.length,vs.length<2,o.data=D1Z,W++L',(by rw[<-Nat.add_assoc,zA,zB];rfl),(by rw[AHD zA a3V]),pL/\AUQ,LA/\LI,⟨r,h,zA⟩,(by rw[QH,BHS h1.symm.trans]),(by unfold noteFrame;simp only[zA]),j∈StP rss cs u,CV7∈D,(let ⟨zA,q⟩:=st.en;zB),Nat.lt_of_le_of_lt zA AG,Slot "set_iterator" zA zB,CU9 wpAny_holding zA,(D25).filter,(hy.same zA).snoc,CUD hm0,HT.lexLt a b=true,HT.lexLt a c=true,HT.lexLt b c=true,AH B hp,(s.1,s.2++[zA]),AS l hl,AS zs O,AS p1 t,AJ e' (aN zA),CI A46 (tC v),FC LLI Str,FC V qB,YO Int Nat,g x I,(by have zA:its.toArray.size=zB:=by rw[AE List.size_toArray zC]),λz=>BNK (zA _ z),us++[y],ss++[cF],D++[t],0<=MY v.getD,(by rw[OR wpAny_pure (ADO wpAny_bind)]),OS tooLong (((l.map (·.1)).toArray.foldl (·+·.length+a.length) 0)),DJ iT iT zA,CV2 w.cps.all,OU ys its',(by rw[CA (List.mem_append.mp h)]),Rs3 n rss,λx m=>(zA x m).2,lk c n,CVC (a4c xs lo hi),a8i ns zA h.nm.nd zB,A25 MethOkN "__init__" zA zB zC,(c3m c).2,MZ f c,MZ a0t e,WG l fs,A2C (uP).A,K r d,SH e f,((APV zA x++MR " 1")),uI 2 b8D zA,a σ H,ZN us ds,JL a e (iK (A55 zA)),SN S.mem r,(by rw[PY zA zB (Option.map_eq_some_iff.mp e)]),UZ t (CL6 ns.map),zA [] {args:=zB}=true,CW3 AG8,rU λi=>BD (-i),CW9 CZK,cT a8s c,nB h List.map_eq_nil_iff.mp,y=.str j,CWH QD,b u hul,CWI b0z,TH L (AFU cs.length zA),AQS BR9 m,CWJ s.heap.Ns,iO c tc,aP S.mem r zA,JS X st u,oD b1V hw,ACN .In o,CWN 20,r++[-s],CWR "name",eE 2 zA jaN,AD5 HeapKind κ,λH2 t=>pR,AS8 ha qM,h z vJ,wZ BSR (K2 xP A6),~~~b0e g c,X8 x.toNat c a,EI (compareOp .Lt zA zB),AEH vs a,A3X ld s.heap zA xs,JI X tg l (zA K tl),CX3 names,CX4 I.sz,CX7 oU,yK b a,cR a .dT AZI,A62 i k,A62 k i,AFA K2 xP,CXG "join" zA,A6I s.heap TI zA zB,λz=>e z.symm,CXL sa,JI X tg b zA,CXQ CV9,AVB F3 is,CXS k.extBut,~~~b2e a e,lo+BKV*1,cU #[CQ0 z,x],(by rw[AI1 dN];rw[zA];rw[LD dN]),AI3 n LT,CXX lexLt,AGS a n A67,AGS c xs.length A67,CY1 Sum.inl,CY2 Sum.inr,BKE base A47,JGs X es u,BKG AHI quiet,AYA c L,∃u,us=[u]/\aV,VG XC CU zA e,AYF zA (Bds r),CY6 c.map,AYV ta (zA K f Q),AZB D.mono CVX,CY9 (AK D),(by rw[AZF y];rw[A6G IK]),∀q zs zA H',BG->BHW->zB->zC->zD->wC,B0M N4 zA c1l,CYF m,CYG rfl,BRF Q0 A75,call EA us,OpR X f (ABG zA),PA X bS ta,OW a3t h n,∀p,VJ->ts zA zB (upd H' p zC),CYQ CY,BQ1 d ha,BQ5 a g,BQV N x,CYT f,∀p,JB A2Z (zA::zB) ts,CYV CV8,BS7 dA (AD0 (CIJ 2)),BTF i cO,CZ7 CXO,CZ9 ((fs.map (·.1))),c5B ty td,CZC xs.length zA,DC->DC->LqA,CZE PySem.W.readsIn zA,(by have e:lts.cps.toList=zA:=by rw[bT]),Chn n c zA L,getElem?_pos p i hi,CZZ (j<i),ItAt k2 zA g l (p+1),D06 .IfExp,eC z c hp,FQ (BHP zA) t λ(QM i)=>QW,D08 xs,b w hw c a,a5O zA h1 rE g,D09 f,D0C h'.get?,yJ p (qS 4 (AD0 (ABK yF))),D0I AG,a3H f y fs,D0K R3,D0Q jZ,dot r ys=0,(by have e2:N0 env cs zA=zB:=by rw[A4T N0 zC]),D12 s.heap,D15 b.run,D16 hc,D18 a,D19 h'.get?,∃k',IY scope.names.lookup k'/\(zA=zB∨zC),D1C es,D1E (zA s.heap a its.toArray),CX outer H s E e zA,D1G PySem.W.findCls zA,D1N rD,D1Q e,D1S CYZ,D1T (v∈zA),D1V ?_,D1W h',D20 xs.length zA,D22 zA (AZ3/\zs=zB),D23 CY7,h2 u S v t,(by refine aB List.ext_getElem λi h1 h2=>?_),(by have:=SeqAt.RcAt.lists_lengths (A:=zA) (s:=s) zB p2.isList zC zD),D2M I.base.free,D2O zA d.objs.size,D2P CQJ,D2Q CYK,D2T AS5,D2Y os,D35 ATY,D3A r.drop,D3F Walks.list,D3H zA h₅.objs.size,D3I true,D3P OL,D3X MakeOk,D47 A5O,(by rw[D4B wpAny_pyIter_list]),D4E (zA->AXM D2Z),.dK BL4,.xd fs,c8j tA,.builtin "object.__class__",Nat.le_of_eq (BX zA),Shared.heap (AR4 zA),c4w trs,c5f tl,nd.sublist List.filter_sublist,N.same W,spl y.cps.toList,LqE->LqA,Obj->Obj,Params->qF,DC->DC,F.ok S len zA,its.toArray.size+a.toArray.size,vO-A48,KH*AX5,d.rows.length<=5,vO<=A48,wK<=2*n,BS6 v length<=zA,sysModules<h.objs.size,VA<BH rJ,vO<A48,vs.length=as.length,sides.length=rows.length,EB::CZ,dH::bmV,A6L::args,AIY++BDX (GS D3G),(by rw[CXH,<-CY,zA];rfl),(by rw[zA];dsimp only[Option.map]),y % (A57),0 / 32,if zA then y else x,if zA then A else B,Str×NameKind,[iS,n],∀H,ASU zA CVB,(by .show SQ*n<=_;omega),(by rcases zA with⟨qL,zB⟩|⟨qL,zC⟩),(show HX ((zA)) by rw[OP]),(by rw[List.getD_eq_getElem?_getD,zA,List.getD_eq_getElem?_getD,zB]),(by rw[List.any_cons,List.any_cons,zA,zB]),(by rw[List.zipIdx_cons,zA,zB,List.filter_cons]),ys[C]?,(by rw[List.take_add_one,zA]at zB;rw[AHM zC]),(by simp[sliceBounds,HT.sIx]),e≠it,(by obtain⟨_,_,_,_,e⟩:=x),(by obtain⟨_,_,_,e,_⟩:=x),(by obtain⟨_,⟨_,_,_,e,_⟩,_⟩:=x),j∉xs,BRK || D1I,(by (obtain⟨_,_,_,rfl⟩:=zA;rfl)),i ^ j.toNat,(by dsimp only;rw[BFR (vK wpAny_askSetting)]),(by simp only[checkBuiltinCall,zA,zB];rw[NI]),(by .obtain⟨_,_,zA,_,dd⟩:=zB;exact dd.typeIs),(by try rw[ADL wpAny_holding]),⟨zA K hl.h a⟩,show zA=EE zB from rfl,(by split at h0<;>exact h0),[UU,EZ g,zA],(by injection this with this),(by rw[<-Array.length_toList,zA,List.length_map,zB]),zA zB (its.toArray.size-1),((APT (AC2 z))),es.toList.Perm (xs.map zA),zA (Str.ofString "="),zA (prices.map prO),(BMY).isEmpty,(CVV).join,(CZY zA).isNone,zA=Str.ofString "0",o.dict=some dx,AK (COQ zA).objs.size,zA l=Option.none,zA X A46 (B1 i),min k xs.length+1,bdS n zA=true,BR5 plain=true,AH e h,(f.heap.objs.size,AVD),(K4 (by rw[CQT zA])),(zA (by rw[List.length_take,zB];rw[ED zC zD])),(by exact wpAny_bind (m:=BGH) zA),DX dd.mapOf BT4,AS _ _,AS u y,CI c tc,CI f tx,zA (.cons zB .nil),FC Int Int,FC eD eD,CC (BEE sep ys),YO qB (V×qI),Q0 s w,~~~c4Y u,~~~c4T hl,~~~b9C l,~~~b8G h2',SetTable.below zA zB=i,.str x _,inV x xs,g.from_ x G,tmW x n,wpAny_setField b zA AL zB,~~~b8Z hbig zA,~~~b8S hul zA,codeAny_call_builtin zA zB (A45 (A45 zC) zD zE zF),RelV i iv,St i s,ds++[cu1],CW (jA x rfl zA zB),GR (HH J),DY c tc,DY f tx,(by .exact Nat.mod_eq_of_lt (by assumption)),(by .exact zA (AGJ intBits_le_64)),SetTable.insertAt xs p zA,A1 (J0 K EV (jv zA)),Heap.get?_push_of_some (h:=zA) zB zC,Q (.done (II .ret zA)) zB,λ_ j=>0<j,λ_ h=>AVL,zA X.prog X.w a zB,OS w.params.followText "set-order",GK PySem.Txt.upper x,DJ AWC AWC zA,((A++AV3)),GT (FO BQ6),EK c5a c,OU xs its.toList,Wi cs u,EW (PP v BP3),KR (qB×AI),UnR X (unaryOp zA) zB,(AG9 l).1,.int k s.toks,xs.set k z,lexLt k j,DH (A6V (EW zA)),JY r D0Y,EE (HT.sIx n zA zB),AAR PySem.W.takerIn C zA,N1 b j,zA b (AJ ex m),(by rw[KA wpAny_newTuple];have zA:zB=s.heap.objs.size:=by rw[zC]),λv _=>D07,.set S n,a1s I.hok n,a0e z n,zA (λl=>h (_::l)) n,xs.countP λz=>CS0,zA λz=>I.ok.exfs zB z a,RelV y v,dot r v,YU h'.get? o',D0L E0 ta zA,EI (zA 8 AV),Value.int BHM t,a7c u t,c4G ok e,lP BSF q,OQ h s H _ I hw,[(f,v)],zA X.nox st t,GA ((A3 (lK zA zB (jv zC)))),argBest CXV k,Srt rss a,lQ b0p T.b_sorted zA,OX s₁.heap.get? AZS,OX (AVR zA) (BHC data zB),(by rw[HI (lt _ zA) (~~~b8u)]),tIf tA ta tb,CI (.BoolOp zA iD pos) tb,List.getElem_mem (~~~zA hi),GZ (s5.trans L),σ1.set j UU,rss.getD j [],d.getD j Str.empty,L.set j x,a5k fp h,st0 mask h,MZ a1I (List.mem_range.mp hi),L.val j q zA,ZC b4F o,u=Value.type n,lT lexLt zA [],(by rw[FK List.getD_eq_getElem?_getD zA List.getElem_mem zB]),(by rw[FK zA List.length_take c4W zB]),OY u D,OY W m,argBest B j,.Tuple es v zA,cC p1 AXH,A28 (AB6 CJO),ipI λi j=>AF8,E e s',.Expr e pos,WG b zs,NF O6 cs zA,NG zA (hl v h),c5d A6 A6,(by .rw[PJ];rw[AY (ABQ rfl) rfl]),s.heap.IsTuple t items,ZF v D2B,PK f b,s.TypeIs v T,d-BH G.length<0,YX GO::(us++ds),Obj.putSet d l,ZK hs₈.extBut zA hs₇.extBut zB zC,cI t zs,c0M r jO,a4D rfl T.b_str zA,Off zA H1 H2,SH a0I h,SH (A5 zA) A0,(by rw[PQ List.length_append];rw[ED zA zB]),dictSetDefault d AV zA,tC (.str x),SI IC h0,AQ1 IspZip g,IsTup s.heap t zA,BDH e'.1 m,MU c F.mono (QP CVY A6),UT f m,A2J owner[zA]? q,(by rw[MV (by rw[TY (decide_eq_false p)])]),mH a2X 3,a4v ρ r,IntsAre its.toList r,(Nat.toDigits 10 n).zA,mM BsP zA (n,t),r x xs H Q,CIX B0S 0,a7k (BQB a),if_neg (Ne.symm e),UZ p9 CUT,uN a0s zA none zB,AQB (.seq its'.toArray a),BU 2 sc_read_sum.nd (CQX a1P),AQC ovI o,ABL (xs.set j v),(by rw[e,List.mem_range'_1];omega),Ans rss ys,compEnvC scope zA zB X.env,(λz=>by rw[LF ((h x b).2 _ z)]),OB ys ⟨zA,BPL CY⟩,(by show dF zA;exact decide_eq_false zB),[BD x',z],y=kV k,SqK k K H p zA,RelV o ov,Came rows zA f,V->V->Bool,vB p AGP,dB List.getElem?_eq_getElem N2 zA,A35 p1 CPL,.Name y m,nQ .BoolOp zA yQ zB,r x H Q,.List es pos,RelV IO CZ,((pL->BRT m)),.int (g i),BE6 semi zA vt,A3B (CZ1 qQ),ItAt k zA s.heap.objs.size l 0,CIZ (UG (zA:BN)),iY a (t.length=n/\zA),zA zB es.size ep t,(by rw[jE zA (nP wpAny_newObj_type zB)];exact q),oD b9d r0,F7 K zA (jv 8),100+2*i,BEF m BFQ,BEF "__init__" (EZ fI),uI 1 b8B hz,(by rw[List.take_add_one,d];simp),zA BZ rfl eI,∃t,CYN/\D1D,jL X7 AG zA,A3P (a3E p q),A3R (b && CUV),A3T "group" "names",UV C (ABU q bm true qO),AD3 "range" KJ,(by rcases BFM (show zA from zB)with z|z),(by have m:0<zA:=vC Nat.pow_pos),z.sameBut f CQO,gI g d,.ok (wd "-"),∀h',CQJ->oC none,jR IO U,(by rw[IM r];cases(lX zA ty);rw[AY zB CZM]),pD (∃o,zA/\CRU o.data),eM zA (MU l B.mono (GI 1 (BI4 (A43 zB zC zD)))),eN "zip" "zip",BF4 (A38 DkAt ns),(by rw[ADI PySem.W.kitx_list (FZ h1)]),λh=>zA (W.sub _ h),DS R5 0 (CXF a2V),BFA B.mono A6,kA p.mono (GI 0 zA),wX "sign" (b3B (jv 0)),wY CMul (i*j),wZ CRA (mH K2 4),wZ D0D CRA,kG (zA n a p),xs=[EU,vc],! CJ (V.str zA=US "0"),Loc X.env.scope y,zA l its.toArray n zB,zA T args kw,zA S len λa=>b a f,h qK _ σ zA,∀o,QI->A3J h'.get?,BU 1 sc__law_class.nd (DS X4 1 (C8 (QP zA zB))),b9O o i j,EI (zA WR name zB),AEB vt xs,xJ (UB sep ys),h1 x c q,AT4 2 b1L,AT4 5 b1O,AT4 6 b8w,AT6 src j,SL t xs (aO/\∀p,AQR->zA),AEI "told" b1b,AEI "paper" a7H,AEI "ended" a7K,AEI "whole" spWh,ASP PSs (CNZ zA) uS,(by rw[BG7 (updateSeq S zA)];rw[NI]),BGC s.heap .none,xX a0G T4,k∈cK qL.map,KD h h',RdW w o,I0 mask owner,BGG VH Nat.le_trans zA zB,yE 0 a0,λ_ s'=>BK1 (GL σ'),yL wr CRH,A5V (pE x 0),QW*3+l,VC ["one"] "one" zA,VC ["word"] "word" zA,(XM (show SQ<=BH zA by exact a8u h1)),yW (Builtin.«object.__getattribute__» (oH zA zB)),BGV (jK r e1 e2 A49 r e1 zA),BEQ e (AU BOH),ADG G1 (zA c) zB b.h,DR b o e n u r,DR b o e n w a,cD a0G w ns cs,BH5 (c8t x y=true/\zA),A6D hk (DX d q),(by rw[BA (λq=>pA zA q Bool.false_ne_true)]at hR),(by unfold a0s;have e:CY8 zA zB=ys.length-1:=zC),(by have e:i=n:= oD b0d hi),a e (Ne.symm zA),CC (i.length+j.length),∀j,j<k->CZN,∀s',A6Q->A44 zA s',zA X qK R e s',λz=>he (EW z),AUP zA scope.names AFB,A70 a8C T.b_len,UY o (of_hideAll _ q),RK _ _ 0,RK _ e e,A79 s.heap.objs.size (BP0 zA),oR KC _ rfl,AVC (AZT m),IspPot K vs H Q E,(by rw[A7M i (I.lstM g)]),λx:D27=>A3A,λm f=>keep _ zA zB,AHC*n<=BH sizeLine,[.Expr zA pos],(AH2 (show CVM from zA) zB (nomatch zC)),(by rw[List.all_cons,Bool.and_eq_true]at f),AVM b9j zA q,(by .rw[A6P]at k⊢;exact C1 k),g x' B,JO X lo tl,JO X hi th,PSs X body tb,Paired λp q=>zA,h H _ ⟨jG,zA⟩,lI σ1 H1 s1,~~~b9s c g,~~~b9g c n,~~~b9M b e,CJ (a.length<b.length),CJ (strKind a<strKind b),DM M A t b E s,EE (A4L n hi),(hL v X).2,CLS SqL vs,k none zA _ n,L1 zA zB (BQ zC) p (CNT ah'),AHS p2 BP7,UC (BIT-BH d),SetS prog w s'.heap S zA,Bar F A7C j,ItAt k h' it l AR,(l+r) / 2,AS4 "falls" 3 b3b,(by refine a1K zA ?fin λfin=>?_),∀i v,zA->zB->∃t,v=CYM t,BGG this Nat.mul_le_mul zA (Nat.le_refl 21),BH7 f y fs,AXB A47 s.heap,c4F td ty tv,fnOf x x ASW uS,AIJ (X4 (C8 zA) CUJ),(by rw[ARQ h1' us us.toArray h1]),AU2 (D0T H1) x [],CMN zA a2R a2R,CMO outer s'.heap,CMU (oD b8P b),(λx zA zB=>by rw[<-zC];exact zD x zE),(A.under D17).zA=zB+1,∀l,∀w∈AHW,zA,AY1 h1 h2,(by rw[AY2 List.map_cons];refine .cons ?_ zA),(by subst j;rw[QA A y]),∃q,CPN q,BKF T ((Obj.mapFields (·.setIfInBounds 3 Value.none))),a8H s₁.heap H,lp (lp t),D3M zA (a5G d),.ok (rwT L),BKG A50 is,xs.any λy=>BRD,zA b o' BQC e1,~~~b9o a b,zA++[(EB,CZ)],IZ _ rfl rfl zA zB,v b o q f,t b o q h,CW5/\m<=40,AAO KJ=BIV ATP,(by rw[GM E2];rw[RV (k H2 (s'.trans zA)) zB]),LU (AU qO != AU "object.__new__"),d.map λx=>vQ PN,λvs H Q E=>nV zA∨nV zB,(by rw[e]at h;rw[PZ z (ATU h)]),uN a0s zA none NH,AZ4 s.1 s.2,UH "size" 1 "one" spSize,∀n:Nat,0<n->zA,ZY _ 0 zA rfl rfl zB zC rfl ?_,CNN (CWQ BIZ),(by rw[e1,e2];generalize KH=b),BM1 its.toArray p,V.int (dot row v),Meth X.K C m f,B0A ⟨BO,zA,AXR⟩,B0J (CX9 b),COE (CP (BND) e) e.2,B0O k (xF c4X),COP yY (Mk K C f) zA,B0T (AXB l h'),λZ s3=>BQZ,(by rw[FK List.length_map List.length_replicate zA zB]),33<=c/\c<127,⟨n,zA,IC,h0⟩,(by refine wpAny_landsW zA λh5 zB zC=>?_),z.sameBut g CQO,U8 ys j',n AHT H1,Wi cs xs,AA->AA->AA,qI->qI->Bool,(List.mem_append.mp a).elim,(psW xs).take,(xs.zip ys).take,BNJ (AJ M4 (b2g zA zB)),(by have zA:0<its.length:=by rw[A2V zB List.length_pos_iff.mpr zC]),List.all_eq_true.mpr λc zA=>decide_eq_true (WT zB c zC),Q (CQ0 BLC) dG,AM Y q e,IW (LX H s.heap.objs.size zA) CPD,(D29).mp e,(hy.same zA).snoc (DG C zB),(x,a)::cs,(x,y)::ps,FB H' qQ ys,λ_ D=>⟨D.lt,D.lt⟩,BNV CRT CT3,Chn n a rss zA,PrI K H vs rows,BO4 (BW scope.names.lookup HZ PN),knd.is s.heap k a,upd H9 p9 CQ6,wpAny_field zA hd h1 ?_,g x σ H1 zA,ZH b zA c st,LH F (ATF cs.length),CPW "is_written" spIsW,CPW "is_name" spNm,hX (hX (a0H k e)),hX (hX (a0H m e)),ABY (isTrue e X.env zA) TP,BP5 i D,vG .FloorDiv (wY zA (i / j)),.Tuple es i j,nQ .Subscript e BSS zA,A3C .FloorDiv (wY zA (i / j)),SL ta x (VF tb y (r x y H2 zA)),eE 1 sc__law_class.nd (A43 zA zB zC),ASA c9e x m,ASA c9d x zs,(by rw[pT (BLO c.fpOk CVL)]),(by rw[pT (BLO a.fpOk CPO)]),pX M4 b h1,BPR A7E A72 zA,BPS z z,A5A AV "__getattribute__" "BaseException.__getattribute__",BQ2 l r,(by rw[SJ ⟨AG6 PyProof.Rows.F.plain_set_update_loop,zA (DP zB zC zD zE zF)⟩]),AFA Y8 (CQX a2U),wR MakeOk zA C 1 zB (zC C),BQJ BRB CZF,(by rw[BQT U8];rw[CA (List.mem_or_eq_of_mem_set a)]),AXT (zA ⟨zB,H,UA,OZ,h⟩),(fss.take zA).any λf=>BMM,zA (λz=>CPE) λz=>CPE,BRI zA zB (AM q (CYR zC) A0),BMD ABJ C F.slot_zip_next,s.heap.DictOfH knd d xs,∀zA H',zB->VE->NV->GL zC,BRW (sp vs H Q),CRX 1 (CJ BM9),BSX [(BN7,zA),(BN6,zB)],⟨vs,H1,zA,r,hl,q⟩,CSY y.length y.length,CSY y.size y.size,CSZ [ACH tg b e],(TC e z (by rw[HM (zA b z).1])),BTC zA (zB it a i),(by rw[CTA ((glued a ((z::z2::l).map (·.1)))) b]),CTD [tg] [BGI tg],CTG CL7 (xY zA zB f),(by .rw[MB j g e zA j (~~~a5x g) e]),BTV n (A4U zA n (zB n)),CTZ x x,CTZ m qn,(by rw[BU1 I.list zA pl.isList]),Dr->FC zA Dr,(AR)*cs.length,R*B*BH v.length,AHR=YW LT,if A5C<10 then zA else zB,⟨AG,AG,AG⟩,(by .rw[zA,HT.sIx_nat,List.length_map];omega),(by .have:=zA;rw[AY (JC BNB) AY0]),(by by_cases hj:j<u.length),(by obtain⟨od,J,zA⟩:=I.look),∃a,BW env.cells.lookup HZ a,call_meets zA qY zB (BX zC),a0s zA (AU zB) none,ptW (BOU ps),hS4.tk (Tk.same F),qB->qB->AWF,J4 (b8l j) zA,CUC (~~~a5w hm0),CUE zA Nat.le_trans B07 zB,J.go i H/\ARA ys.length/\zA,(by have e1:BHD zA (AVQ zB):=by rw[bT]),zA ok (.inl e),c1B K "str" rUp zA,(c6Q z zA).flatMap,AJ m (b9K g i),Sgs H ss L,Txt.split a b=zA,DM FW zA (collect x) l zB s,∃j,j<i/\x=rows j,λv X=>jR C X,EI (A4C "sorted" dX),(c4 r B).2,U3 isFn (AK fI),HG I.ok.glob I.mod.glob.keeps I.bk,OW a3s BO2 BOL,(AIO).any (λu=>Bel u r),1+CNE*AX5,tU QD LI (zA->AYU->zB),A2P (mE zA zB) (BEP t) λq=>BEP f,R x y H2,I.kIn a o c,1+BOG k g,(by have zA:n≠zB:=λz=>by rw[cJ z zC q q]),λ_ σ H=>ZA t vs (AYB/\zA),(by subst a;exact⟨zA b.h d.h c⟩),s.heap.IsTupleIter it t i,mF "set_iterator" _ zA slot_seti_next.lookup zB,∃k,zA/\d=most-W.length,∀a H',zA->BG->GL AV,∀{ys:AB},zA->BEE zB ys<=ys.length*zC,Classical.choose_spec (f i) hi,uY .Dict [] [] zA,OT M (vE setFlight none),(by rw[X1];exact r.inj f),kas_rev p D0H n,nQ .Dict [] [] zA,(by rw[VN T9];rw[Bool.and_eq_true]at h),CWM zA "__getattribute__" "type.__getattribute__",(by .rw[AX none e (λx z=>lN)]),AJ (Int.fdiv_eq_ediv_of_nonneg i (AE6 a8r)) q,jL h.mem x (AE0 j AF),ADG N4 (zA K b) zB c.h,(by rw[ADI PySem.W.kitx_dict (AW9 h2.1)]),(by rw[wU (G h1)];rw[eH A6K (D3Q c0S)]),yO (AWK x (FP y)) n,ZY zA _ 0 zB rfl rfl zC rfl ?_,.bl (g i j),BHN "__setattr__" (WE "object.__setattr__"),(by rw[AWL CXD];rw[LF h.n7]),AI8 JS zA (zB K ta tv zC),CY3 xs p,(by .exact KS e AF (by unfold topN;rw[ED zA zB])),A30 m d d AFO,A7F Builtin.«tuple.__mul__» (oH GV (ACL zA)) (AIC/\zB),AZX PM (eJ d (jaC A4 (oJ zA))),c1p c ns zs fs g,BNE CXC (XO q zA),atKey xs k=none,∃m:Int,COB/\m<zA,∀r,r∈srt↔xN,XE off (L7 zA d (e _)) zB,CYP "name" G7,(by rw[QA c r];rw[T6 zA rfl b q]),x++HL++UB HL ZT,BQW BKN BOT A68,AIV HO (HV u) ((∀xs,o≠BNN)) zA,CYU s.heap a,⟨zA,HF i,j.same s⟩,CZA Builtin.«tuple.__lt__» FT,CZD wpAny_pure CR5,(atKey xs k).isSome,(by exact j.call' (ch:=[]) zA G zB zC BRH),λσ H qQ Q=>ZA te v zA,λq a=>zA q wD,(by rw[HN v z zA v (z.keeps λb o q=>zB)]),CZX s0 CX8,∀x:Str,A7D->zA x=bootBuiltins x,D03 ["names","words",zA,zB,zC,zD] zE,(by rw[seqIndex_neg A76 e]at h1;rw[jB zA];rw[BJ8]),(λg zA b o e=>zB b o (λz=>by rw[UX,zC]at e;rw[CM]) CVO),B06 (zA i=zB j) i j,D13 "__getitem__" id,D1B wpAny_setState_of BPF,(by rw[oW zs];have e:yZ (min CWP BPD)=AV8:=zA),zA uF .none kV zB pm an zC ct,D2H s.heap.IsKeyIter it,D2V w w,GP names wM cs VI (bZ (uH (BSY zA))) (zB∨CVK),D34 kF (BJS ABR) zA,(by rw[D3B (p.trans q.symm)]),(by have zA:∀o,s1.heap.get? p≠AHE:=λo e=>zB),D3D (tx σ H2 λz H3=>zA),(by refine b6f zA (by rw[zB]) λx c=>?_;rw[lL (List.mem_cons.mp c) rfl]),D3V zA zB zC zD (DM SD X.A.in1 (CV3 zE) zF zG s),D40 AYQ (FZ c),beq_eq_false_iff_ne.mpr (Ne.symm (Nat.ne_of_lt a)),zA (BJG [] .nil),λq:lZ Str=>ACA,λ(AE0 u b)=>AE0 u zA,L.map λt:LLI=>BPG,EE BSU-BKV,BH items.size*x,(by rw[zA,zB,zC,zD,List.map_append,List.map_append];rfl),(by first|rw[MA BK]|rw[QY BK]),(by simp[J3,List.find?_cons,e]),(by have:=zA;rw[BJ List.length_cons b3r this]),(by show RelO (List.lookup m zA) zB;rw[zC,List.lookup_cons,zD];exact zE),oE CQM/\UE (AK CWU) CQM,(by .rw[zA,List.drop_length];cases zB zC<;>rfl),∀{x:zA},zB n λl=>P oF,(by obtain⟨z,_,e⟩:=zA;rw[CM]),(by refine Calls.callWith_builtin zA (Calls.evalArgs_plain ?_);exact thn zB λzC zD zE=>zF),(by simp;intro z;rw[FF z zA (BNG zB)]),(by unfold a0G;rw[CZ8 List.length_map]),(by obtain⟨o,_,_,_,e,_⟩:=x),(⟨Int.natCast_nonneg _,yU (show QG zA by rw[zB])⟩),⟨AQI gI,lst r⟩,(by rcases I.ok.stk with e|⟨e,zA⟩),~~~b9x r0 a zA,(by cases y<;>exact eB (CIM b) Bool.false_ne_true),(by simp only[bne_self_eq_false,Bool.false_eq_true,if_false]),(by wp_walk using zA,zB,wpAny_forIn_list _ (BM8 b zC) _),(show zA≠Value.notImplemented/\zB from⟨(λx=>nomatch x),h⟩),if neg then ! CJ (cs=[])else CJ (cs=[]),(by rw[List.replicate_succ,List.foldl_cons,zA,zB,zC,zD,List.append_assoc]),(by change hQ (! t.plain) (CJ (es.size > 1)) at zA),(by rintro⟨u,hu,hb⟩),(by obtain⟨⟨dx,tn,zA,zB⟩,_⟩:=A3F),h.elim CLQ id,tail_of_in I.kIn M.tail,Y3 h₀ h',RdS ws os,Prs H' zA (U8 ys) zB,d1 AG AG zA,iC zA (T8 cs.length),AI->AI->AI,(X.wish E).Ok,(List.eraseIdx_sublist ..).mem,key _ AG CO,wpAny_dictEntries e1 a (zA zB),zA (.inl i) AUY=true,zA (.inr x) (.str x t)=true,a9t (z:=zA) zB zC (λv=>Sub.one),BHA zA/\(∀i,i<zB->AF1<j)/\A7J zC A6R CXJ,(b7B vs zA).toArray,I.tuple (SqT.of (K:=X.K) zA),vts (a4s zA qP),OO R k x,(zA zB u eq).there,~~~b9E l z,ES (zA H (Same.refl H)),q a H mG zA,bX d.sides.map++[DT zA],ds.map V.ref++[vQ zA],CJ (zs.headD 0<=2000),putSet_of j H rfl,a1F ρ p i,wpAny_callSpecial?_slot (name:=ABJ) p F.slot_enumerate_next,(tk,tv)::trs,subscriptTail_builtinR (x:=w) zA zB,a5F (rss:=rss) zA zB,FB H10 p10 zs',DM A5O X.A CLY zA E s,0<=J4 s ρ,ys.length=i/\CQ9/\VE/\NV,.While c zA [] pos,FE (F7 K (BLU B01) (CRZ a1P)),dot ps r::r,a8c r _ _ zA e,b9P l _ EL,zA X (.Break pos) b6v,A7 (o:=BQ []) A0 a,getAttr WR name a,upd H4 l AGT,upd a0 b9 CPK,(by have:=Nat.min_le_left rows.length sides.length),zA e1 b AV1 ?_,EI (call (.builtin zA) zB zC),HG e List.mem_cons_self ..,HG XN b8v G,LV call fI (A2G CUB),typeIs_str s z t,λx=>⟨KW b,KW (AE0 j a)⟩,LB I0 mask owner,(by rw[EY zA (zB λw hw=>h w BKS)];split),Inv.made (C:=C) zA,a8I (t:=zA) z,CW1 x ws os,zA i es.size ep t,∀b o,AEZ->zA->xM->LA->LI->zB,a=BV b4F o,(by exact CD (BN8 Builtin.Tuple.tupleCompareSizes hR)),sIx items.size items.size hi,pk b l z k,uB LA (D2C) h2.get?,x∈CKJ zA xs j,Heap.ExtBut b h h',RwO n m rss zA,JT X (D2W zA) (tB (zB ty td)),wpAny_setField_rec (s:=zA) zB AL λzC zD zE=>?_,(show semi.length=2 by decide),IsPair zA TO x b,putSet_of d l hd,kas_rev p 0 n,fI vI k i,AQ3 (C0 B8 (BDB 2 I)),Prs zA ps f a,List.zipWith f xs rss,SL ty y (td σ H1 (zA Q y)),zA (v:=EU) rfl (AS s7 zB) (DH E),FnScope N ps scope,mM ASB 0 x,uN sIx n d zA,WS (xR p zA dd),BU 2 sc_read_terms.nd (b3C (C8 BNO) (AHU AG8)),M5 f CVP (.k zA::st) rs,zA l its.toArray n _,hV ((UC (BH (xH ns.map)+1))) ADY,SqK k K H zA (zB V.str),(by .rw[BJ (IX Nat.mod_eq_sub_mod) Nat.mod_eq_of_lt AF]),C3 (c0e K hu JD (BLU jaN)),λb z=>mL z j b,(t++BH0).foldl,nF T4 ns cs,OT M (leaving env CP0),BU 4 sc_read_term.nd (A8 a (WD B.mono a3x) rfl (QP (ABK WU) (AZG d))),BU 4 sc_read_sum.nd (CSL (CJY (AWB 2))),(by rw[X1];rw[AX c k l]),(zA BRS).map kV=zB V.int,(by refine Q5 x y ?_ ?_),zA b o e q r t,ys.map λy => -y,(by .show UG ((glued a ((z::z2::l).map (·.1))))<=_;rw[DE glued_eq_join b zA]),(by show((zA Q0 BL8).1++[(zB Q0 BL8).2])=_),(by obtain⟨vs,H1,zA,zB,q1⟩:=zC;refine kws_cons (zD (kws_nil ?_))),CIY swapsWithSole [tg] e,(by refine ZP a BHK;rw[EF zA H1 p s zB]),(by exact beq_self_eq_true (wd "=")),v=.non∨D2E,jA a c zA HK,k b u (g b n) q,eC X l R,s b _ q m,BU 3 sc_read_sum.nd (CSL (BEH G3 (G2 (jv 2)))),aW (A4C id (v::us)),.AugAssign (CM6 tpos) zA e pos,P0 ps (rss.take i),a4s t (qP.take i),l.map λc=>V.bl (p c),zA D0X a b hd r,AS4 "way" 5 spWay,(by .rw[FF zA e (AM k (IP qV b s) zB)]),jT zA U q3 n,A4E (zA:qC).heap.objs.size zB CVU,jW (AT8 TK HZ PN),DR b o e q r t,ASQ a0I h Int.mul_comm,(by .rw[A5 (zA c f)];exact(zB c f).1),nbs w n i,h h1 _ os c,∀i j,ACY->j<m->zA,uN xR a C dx,AT8 SetS S D,λ_ _ σ H _ I h=>zA,Un AG3 [] H H' h0 zA,Builtin.Slice.sliceAdjust lo hi 1 DO,AEQ D Ends (AN->OY t D->UO zA CS8),∀(t:BR3),B0B t (λa=>zA)->zB,zA∈cK (nF I0 mask owner),DS R5 3 (AFC (DS R5 4 a2V)),BGO "within" "caps" a9k,BGO "times" "many" b2Y,JM (a c _ q) q,(by have zA:(CQC==CQD)=false:=by rw[OP]),BH1 (EL H _ (zA H _ zB)),(by unfold a0s;rw[HT.sIx_none,HT.sIx_nat,List.length_map,zA,zB,zC]),(by unfold a0s;rw[HT.sIx_none,HT.sIx_nat,zA,zB,zC,zD,List.map_take]),A6F D0A I p,BE9 yC f H2 fp,u.heap S _ E Y,q.heap S _ m e,AM F.extBut zA (ZK D.extBut zB C.extBut zC zD),AM hs₅.extBut zA (ZK zB zC hs₃.extBut zD (CRS zE zF zG)),∀i,BKN->AT8 TK CXM A68,W1 H1 a .dK BL4,AFX (Builtin.«list.sort» (JJ ZM)) P,OX s.heap.get? (tW vs.toArray n),∀h',h'.DictOfH knd d zA->Heap.SameBut d s.heap h'->zB,UH "sided_caps" 2 "width" a3S,UH "show_vectors" 2 "some" spSVs,gM "raised" "one" "j" a9l,mF zA rfl AF AF ?_,upd H1 zA (xI zB C none),AVE oU oU oU,zL k (BS3 st.at it),zA K x lo hi H Q,zA K P w ys H Q,zA K neg x y H Q,λm q=>WT a8k g (.inr zA),(by refine D1R wpAny_looks_onW zA zB zC λh4 zD zE=>?_),(by have D:=(zA f).symm.trans z;cases D),AVR (CRM h out),b2D j a c zA List.length_replicate,(by rw[LW (jJ (CJP Value.none) _)];rw[xO];rw[KA zA]),zA P w ys H Q,mJ "take" 8 iT c8p,mJ "take_names" 2 iT spTNm,mJ "take_sum" 7 iT c8q,(by rw[oM F.slot_list_append zA F.entry_list_append F.args_list_append_2 zB (GZ zC)]),(by rw[oM F.slot_tuple_mul zA F.entry_tuple_mul F.args_tuple_mul_2 zB (GZ zC)]),(by rw[ARQ f d d.toArray h2]),(by obtain⟨i,j,rfl,rfl,zA,q⟩:=h),ADW "_law_pot" 1 BK7 c4D,ADW "parted" 1 ["words"] spPrt,ADW "show_numbers" 1 B0G spShN,(by .obtain⟨its,r,p,z⟩:=zA;rw[FJ its r zB z]),AIB zA (AUZ d b1J yN),BJO "read_term" 4 c8r,BJO "read_terms" 5 c4C,BJO "read_sum" 6 c8s,AIN CYJ (b2j K BR2 EV CO),Turn P w K (.Tuple es kt tp) zA zB zC (λi h=>zD),λb=>dS b zA zB (H b),z::z2::l,e1::e2::es,⟨f,_,zA,CTS,(CTS).binds e⟩,OwnTail h bmB bm,F7 K (C8 (QP zA zB)) (AT3 c0o T.b_int (AHV zC)),M0 ns x=A48,∀a s,MK a->b a s,qL++[(k,v)],(by .exact KS zA (λx a=>BKI A6O) h2),MZ W.done zA λh' tk d=>?_,(by rw[NK c a];rw[aJ b h]),AZ5 (if jH then SQ else 0),(by rw[e]at q;rw[EO (.str aI) H I OZ q]),A3D C (ABU qn bm hd qO),(by have e':¬EB=k:=BPQ;have b:zA:=by simp[zB,List.find?_cons,e']),(by rw[wU (G (pos L))];rw[wU D0M]),∀i ys H,ASG->A65->zA/\ys.length<=i,AZO (∃o zA,zB/\SZ/\BRL/\zC),(by have e':k=zA:=e;subst e';exact zB ⟨H,I,q⟩),(by have e':b=a:=Q b (BN9 q);subst e'),CNP "plus" (c4A λa b=>a+b),COG g (cM g v) g,BMV j f l,BMV G w L,(by rw[B0Q ⟨xs,q,BO⟩]),(by rw[B0V zA zB m zC];simp only at zD hd;subst zE hd),λp' D=>AUT R.trans s' D,⟨p,ys,x,y⟩,(by obtain⟨v,o,zA,hd⟩:=BP8),(by rw[List.take_add_one,zA,List.any_append,hB];simp),(by refine List.ext_getElem zA λi zB zC=>?_;have:=zD i zE),⟨y,tk,e,b,zA⟩,(by have hj':j=n:= ~~~b9k d c),bdS n (Str.join bk zA),CP5 (aP h x List.mem_cons_self),CP5 (jL h y List.mem_cons_self),AAM OkN x zA ps sp,zA K f Q x H1,bO "pull_of" 1 B0D a9m,bO "is_line" 1 B0H spIsL,bO "is_barred" 2 BSQ a9r,bO "together" 2 BSM c4B,bO "steps" 4 BPP b2Z,bO "take_number" 4 BSD spTN,(by rw[DN (jI zA U.n4 CZV) a9E]),(by rw[HA (PK e ex.1) a e2];cases e2;rw[AX o e ex.2.1]),UH "_law_names" 3 "_law_pot_here" spNms,UH "least_of" 3 "some" a6M,UH "show_system" 4 "system" spShS,UH "_law_small" 4 "_law_pot_here" spSml,Gd ns.length y x zs,nE A3K k D11 d,nE A3K none (.seq zA c) #[],(by have a:=r.length;exact zA zB (by rw[COY];omega) (CYB a5P)),((∃xs,zA K H1 a xs)),nQ .Attribute e f (zA K zB f),YS "above_any" 2 "some" "one" a9s,YS "cost" 2 "prices" "one" a0k,oO (compareOp zA u AV),(by rw[BPI (LU (YX T != Value.none)) AL]),eS zA (λzB s₃ h₃=>AH0 (nP zC h₃)),A2N OkE "narrowed" 8 BSL a9n zA,A2N OkE "beyond" 8 BTH a9q zA,BPV items.toList.drop ACR AXU,wR MakeOk x C k ps zA,Str.empty++DK "line " ++ qW,mJ "step_within" 6 (YZ "room") a7G,mJ "say_way" 6 (YZ "one") spSWay,vs=[ASE,AK np,BD a],AIM FW (.builtin "set.update.loop" (oH AQV AE4)) R,∀p H',zA->ND->zB->GL EU,AGX (g zA WO H) f zB zC h (a AR A60 h) zD,(by rw[NK a b];rw[aJ rfl h];cases b;refine zA (A2B ?_)),BS5 h.push CWD BS8,λ_ _ _ _ D q=>zA D.typ q,BST (c∉zA) wP h2.get?,(by .rw[HN o' e1 (CW2 t) o' (AEP XC zA e1)]),(by .rw[HN sl e1 (BPA C t) sl (AEP XC zA e1)]),CSJ h2.extBut D.i2z D.i12.symm,(by rcases CU8 (d+n) N with z|z|z),jA (n-(AR)) (hY b9e) a p',(by rw[CTA (glued a []) CT4]),CTD MQ (BGI e::BLV assignEach es X.env),∀j x y,BLI->JH ys y->BR0 (e j),(by .rw[MB j a e (aP h.mem x zA) j (hY a5x) e]),(by .rw[BTY zA none (AFZ zB)];exact lR BSZ),λh r a=>zA (h r a),λn _ b=>zA*b,(by .rw[AY3 o' e1 (ZV I.base.there a) zA]),EK X.fn y∨BW X.env.scope.names.lookup y .local,(by have W:=zA;have zB:vs.toArray.size=vs.length:=List.size_toArray ..),(let ⟨o,h1,h2⟩:=zA;PK (k o h1) h2),⟨es,ep,t,zA,q2⟩,(by unfold SetTable.tooFull at f;rw[O,decide_eq_true_eq]at f),(by rename_i v vs e;rw[BSP]),Y8 (BOR (ER (DS B5 3 A4))) (AWB 9),h.at g zA i hi,W AR m' zA H',Mod X.K X.mg X.base,((BTG u [u] zA u)),NarC qP row most zA zB,(by exact Heap.lt_size (show XJ _ from x)),zA fd BK7 (spLaw K),a7z qQ (a8W zA r),(by have e1:A78=2*KH:=by rw[MW Nat.pow_succ]),(by have z:=I.fw J;rw[a1L]at z),CQ c w BJ6/\w.length<=100,a5j d hp c f,(toString "min" ++ toString ".loop" : String),zA x u _ zB r5 (step x zC y5),(by have zA:∀(cs:AO),D14<=7:=λcs=>zB),atI (GS zA V.str) zB=BV V.str zC,⟨_,rfl,zA,_,rfl,zB,rfl,zC,?_⟩,A2D PG .Tuple es k zA,(by rw[cJ e1 e2 hi hi]),λi=>trV (ys.getD i .non),(by have:its=b:=BM (nM Array.toList d1)),sdS (rss.take i) (ss.take i),(by refine a5h zA a (eQ zB) (NM mG) (BT7 zC) ?_ ?_),OT M (storeName X.env x u),(by have zA:AHZ zB<=21:=by rw[FK D8 A69 b8T zC]),A1 (lK 3 sc_read_term.nd (jv 1)),(by obtain⟨v,σ',H',zA,zB,q⟩:=h),J3 zA j=BHB (j=k) y CZT,nX F.slot_tuple_iterator_next zA F.entry_tuple_iterator_next ?_ F.args_tuple_iterator_next_1,∀i zA H,ASG->i<=zs.length->zB->zC,(by congr 1;funext v;exact a6Z zA v),(by rw[QA zA r];rw[RC p ys rfl zB q];rw[BRG zC]),CXI PySem.F.slot_str_join PySem.F.type_str_join (zA K f),DR i x v e1 e2 zA,λb u q n _=>AJ zA n,(by rw[RC a b rfl hP k];rw[A74]),(by rw[jV e (qQ.toArray++its.toArray) (AEH qQ its)]),vs.length=rss.length/\GP i Nat v V A58 zA,CYX (AEA e.1∈D3Y),⟨D2D zA,AII x (H'=H/\CZI zB),D0E zC⟩,(by obtain⟨env,h1,h2⟩:=List.mem_filterMap.mp a;rw[BTK]),(by rintro⟨c',h1,rfl⟩;rw[CA (List.mem_append.mp h1)]),(by .rintro b s' ⟨rfl,hb,_⟩;rw[pQ hb h]),hH zA/\m<=60/\Lim eG CRF m,(by have:=A5Z;rw[MJ (x.length<=1*zA)]),(by have:=AXO zA X.A t.isList p2.isList AHJ AXE AXL),c7V K H v ns rss ss cs,(show(jU+1)=EE BZ by push_cast;rfl),(by have hiσ:i<σ.length:=by rw[rB I.len hi]),SL to x (tyV K T x H1/\zA),(by rw[A4S σ7 a y q];exact j c y),D0W (D0Z WR) zA WR,thn (B00 zA zB _ zC zD n zE) λd zF ⟨z,i,j,zG,k,e,l⟩=>?_,zA C CN vs H Q E,D1F zA zB (λx c0 x1 x2 a1 b2=>zC),∀l zs qP,A4Z->AZN->zA->yV->CYA,(by rw[AY5 zA (j.stack.mem i)];exact zB b o zC (j.stkFree b i) AL),D2J (A3W k2 H' b ys.map),(by rw[D31];rw[lW W7 (absurd (AJ (BKA zA zB) BOY) (zC zD List.mem_cons_self))]),D38 dx dx zA AVU,(by intro A u v g m o;rw[pJ m o];rw[CS c a b]),D3T "tuple" zA zB a0l a2M,(by rw[D44 PySem.F.slot_dict_get PySem.F.type_dict_get zA zB c zC zD]),D46 t U.n1 A54,(by rw[D49];obtain⟨f,fd,J,hb,F⟩:=O.ex),c1a (~~~W6 hcl hj'),(zA zB).then_heap BFN (A3G zC e),AAP backTo qM starEach zA=zB,∀(ns:AB) (cs:AO),zA,∀env∈(zA),∀b,CLO b->b∈zB,(by refine zA;rw[ZZ zB y];rw[IS e1 H u zC u zD];rw[AGU zE]),(by rcases Bool.or_eq_true_iff.mp f with f|f),(by rw[List.length_append,Z,zA,A69];omega),(by obtain⟨mi,zA,zB⟩:=two_at zC zD (decide (pE zE 0));rw[iP zF]),(by subst hj';rw[CS a i j]),(by unfold frs;rw[DE List.filterMap_cons d zA]),∀xs ys:qI,D43,show zA<=zB*zC from Nat.mul_le_mul hl (Nat.le_refl _),(by first|exact Or.inl rfl|exact Or.inr (Or.inl rfl)|exact Or.inr (Or.inr rfl)),(by rw[<-Array.forIn_toList];rw[D3L (BM8 b (s'=s/\KY XD/\LH rest (∃i t,v=A77))) zA]),(by rename_i hb;rw[HA zA j a];rw[GC j BZ]),(by obtain⟨mA,O,r,_,_,_⟩:=CW4),(by simp only[List.length_nil,List.length_cons]at i;rw[zA];exact ZJ zB (BS zC i)),(by obtain⟨o,zA,zB,hd⟩:=zC;obtain⟨zD,zE,_,nl,hdl⟩:=zF;rw[iZ Builtin.SmallTypes.nextOf zG]),(by rcases i with r|⟨f,_,_,e,_⟩),(by obtain⟨l⟩:=sl;simp only at hs;rw[hs]),(by obtain⟨_,_,_,_,_,z⟩:=i;rw[UQ z]),[50,48,48,49],∀{h h':Heap},zA->(A31 (b∉[zB]) QD)->zC,List.zipWith CVT rows sides,(((zA/\∀l,A4Z->CX5 ys)∨(zB/\tV H))),((if QW<0 then(AY8 (qD DictEntry))else es[(QW).toNat]?)),A.deeper (CJ6 qual scope cd),(by rw[AE this (k h' tk kp)]),(by rw[AE (BTJ zA (dB zB h List.mem_cons_self)) e]),(a4t scope env).lookup,(by have:=h _ (CU5 (h:=hj));rw[AH4 BOD z]),PIE X qK σ tg R,List.countP d its=List.countP (λz=>CS0) xs,tI zA base B I.ok.frames c,(Nat.mod_mul_left_mod zA 2 M).symm,b7n b c hd a,pk b z t k,(by .exact a0O b o AIK UR),Paired.mapP r λzA zB z=>⟨aI,zC,z.2.2⟩,(LO l).any BPH,AAM OkE x zA ps sp,bO x BZ ps sp,bO "next_level" 5 BT0 c4E,CW (FY rfl _ _ BK),(by rw[DZ];exact jD (RB D A0 (AZ2 H l))),KQ (CWT (PySem.W.instObj C s.heap.objs.size)),BA (λe:g=f=>zA),(by .rw[AE (A5 (by rw[PJ];exact zA o e)) (zB b o e n zC)]),YS "_law_said" 13 "_law_desk" "_law_line" zA,t'.plain=zA/\TabOk t' (c.filterMap (es[·]?))/\(c.filterMap (es[·]?)).toList.Perm es.toList,CU=EB/\lV q.2.1 (CU).map kV/\RelV IO q.2.2,DH (FY v _ I rfl),(by .exact dB (WT Nat.log2_lt (show(DO).natAbs≠0 by omega)) Int.natAbs_natCast zA),(by rw[DQ];rw[zA k i g d λv=>?_];constructor),LsO rss cs m f zA,∀b ps,YP b .tbl ps->∃more,tR b .tbl (ps++more),(by have:x≠n:=by rw[PJ];exact h v List.mem_cons_self),zA C CN CT vs H Q E,DR r3 H3 zA zB P3 f3,(EqV.at (n:=0) I zA (by show bW ASS 0;exact b9z zB) zC zD),(by rw[zA];exact AG7 _ (I.lnew (t':=s.toks) zB zC) (q _ I.fresh)),zA 0 zB zC zD zE (A30 i zF zG AFO) (λi h1 h2=>eB h2 (AE6 b1R)),swapsWith zA (AU zB) zC X.env=pure true,D3N K zA (y:=zB) rfl rfl,∀p',BJH->AFD SoP N->Q p',WC σ (ta σ H λx H'=>∃k,zA/\GL k),if_neg (c:=BDJ) AG,UH "_law_made" 13 "_law_text" spMd,h i BNT (oD c4P b) (AE6 b9a),tMethI C m sp dvs,(by rw[FN (I.base.there b o' a gW)]),(by rw[LC];refine wpAny_Call_method_late zA zB zC rfl (nU zD zE)),zA x' d _ _ CVA (List.mem_of_getElem? l) zB zC,UM (v<0) (max (v+DO) 0) (min v DO),cD E1 f v fs,gM "unit" "width" "j" b6w,gM "show_term" "many" "name" spShT,gM "sided" "rows" "sides" b3a,gM "ending" "some" "last" a9o,BQP/\BPC/\jM/\D0V/\zA,G6 L/\L.Nodup/\(A6B L zA)/\(zB)/\zC,(zA k zB zC).keeps λc ys zD=>?_,A2E P w (h.push oA) h.objs.size zA,(by rw[QV zA (zB (BGB ARY)).length_eq t2 zC];simp only[List.length_map]at zD⊢),(by have e:zA:=x;show CPN zB;exact k a _ HK e),∀zA H',zB->zC->D1O (CXA ah)->ZB [p,af,aw]->CVS zD,(by rw[AQ4 (by first|assumption | rw[zA]|rw[ADL zB]|rw[ADL L2.at]|wp_step)]),mP (zA A26 (gA _ ((a3Z BRJ A6)))),uN xI a C dx,SX (CSV e a8l) CP9,BU 2 sc_Draft_take_sum.nd (AUZ c b1G BR7),(by rw[RH];obtain⟨f,e'⟩:zA:=e;subst e'),(by have:X.A.in1.units=ASS:=rfl;rw[ZO zA d]),(by refine i b o zA (m b zB λz=>?_) ?_),∀c:VK,LV c b H->ZG te c,wpAny_field c hd (x:=zA) rfl,ACJ base CX0 BZ f fd ps sp,λc zA r z=>CWF r j j,(by rw[RT (VO nt _ (WN g) ?_)];rw[qX]),uZ A6 A6 A6 A6,(TgA zA a cs).getD j 0=zB,⟨_,rfl,_,rfl,zA,_,zB,zC,zD,_,rfl,?_⟩,(by .show LB glued a []<=_;rw[DE glued_eq_join CT4 zA]),(by show(AVP (AUH<0) AUH zA (min (AUH).toNat zB))=_;rw[MW xO]),Cov l H' h0 zA B,iQ StP rss cs ys,AQO "caps" ca "rows" ra [],(by rw[jE zA (wpAny_newList ?_ (Nat.zero_le _))]),ARC (PP a (jK l e1 e2 (uV a) l e1 zA)),(by obtain⟨z,hd,zA,d,dd⟩:=uO zB;have p:CC zC:=by rw[EX zD z]),∀zA:zB,zC->zD->P CXW (KQ (CRM s.heap zE)),.FormattedValue e NH none pos,IT H v (f j),A2N OkE "by_rows" 9 BS2 a9p zA,ADW "show_terms" 2 BSE spShTs,ADW "show_row" 3 BSC spShR,λc x=>V.bl (c7F c x),AT1 "say" 12 jY (spSay K C zA),QU _ (ATA zA) zB ⟨AT7,QB D.to UR⟩,t.Perm (O6 (fre n)),(by cases zA with|cons p q=>cases q with|cons p' q'=>cases q';rw[EO _ _ rfl p p']),zA o i v H Q,AH ((VG zA (o:=nO) a0 sf)) (BKA (upd zB zC zD zE) A0),yD f8 P' c5 c5,YS "cheapest" 3 "told" "prices" spCheapest,YS "_law_bad" 3 "_law_pot_here" "_law_width" spBad,SyAt H a c rss cs,∀i x σ H,aA->AT9->ADH (OY g x) wQ wQ,∃e f,zA=rH/\RelV (.int zB) e/\zC,(by .rw[AFP q hq];rw[AX q hq zA]),SqAt k2 s.heap b ys,b2U C sp [] E0 zA,(G9 (by show DO*1+0=_;rw[MJ (_=DO)])),(by have e':EB=k:=h1.symm.trans e;have b:zA:=by simp[zB,List.find?_cons,e']),AFX (zA (JJ (WI zB))) (λfin s'=>∃v,fin=BJ3 v/\BOZ),ASA (zA x l r (AK sv)) ps rs,kk key (kas_rev p i j) k=zA,∀v r H1 zA,BMW xN CYO (zB (zC r) H2) zD,(by rw[AH6];refine a8K r _ _ ?_),∀p o,A73->ATN H->ATN H',YS "read_figures" 2 "word" "most" spRF,(CSD zA)∨(CSD zB)∨∃qL,BRE/\k=! qL.isEmpty,SyAt H' a c rss cs,mJ "say_cheapest" 4 (YZ "some") spSCh,CM4 (zA D (I.wish _) hw) (ATA q.unwish),BF Walks.list prog prog w w (A:=A.in1) zA,(by rw[NK zA zB];obtain⟨a,xs,n,rfl,rfl,zC,zD,zE,zF,q⟩:=h),AIT zA (c0b EV (AZH zB) CO),W.item zA _ _ _ (AJ zB zC) zD (DR v h' zE zF zG d),(by rw[List.replicate_succ,List.flatten_cons,a,List.replicate_succ];rfl),(by obtain⟨f,hw,d⟩:=CTG zA (HG l c.val k)),((AVP (v<0) v DO CYH)),f x c e zA z,Str.join bk (tmW x n),(by have e:qU a ys aI:=by rw[<-b];exact(glued_eq_join a [aI]).symm),RB n y (λp' m=>mF _ rfl p' rfl (A24 A0 (λH2 u=>k _ (IP s'.upd m u)))),(by rw[dR (a8A zs zA zB rfl) h zs.length zC]),Off l H (upd H' p o),(by rw[QV q zA zB q];rw[OA zC (qZ (CQP .cell) (CQP .free)) q]),(by rw[AFG (G4 zA) i t rfl x t rfl]),COL (St6 C H a b),⟨rfl,λy g=>AH7 g,k,yG⟩,(by have step:∀j x y,zA->JH ((ms.map zB)) y->BHV 0 x zC:=λj x y e f=>zD),⟨o,es,ep,zA,d,r⟩,(by rintro ys H5 ⟨s5,zA⟩ p6 hp6),(by refine wpAny_execs_cons (wpAny_Expr_any ?_ I.quiet hs)),(by rw[AD zA CW8 l fl];rw[g]at l),PC X op a b t,AAM OkN "take_all" 9 ["draft","lines"] (spTkA C CN),(λi j c f=>HG (show i=j by exact b9n c f) KeyOrd.kle_refl _),l=CU2 49∨l=CU3 49∨l=CU3 50,AT1 "say_rows" 10 CVD (spSRw C CN zA),AT1 "say_by" 11 BSB (spSBy C CN zA),AGQ (BKT zK BPB) b9b t,AGQ (BKT A7A n) b1X d,(by rw[RD D ((d.length==f.length)) false r]),(by rw[EC zA rfl zB zC a8F D];rw[BRQ hl zD s7 H6 zE L]),mI (O4 (Y8 (CRZ a2U) A6) (K7 (Q8 (WV (ACD zA (lY (BTB (.ty "ValueError") T.b_ValueError a2e))))))),BT8 ((K w.params).In base) zA,(by rw[<-g]at zA;have zB:=zC zD;have t:lI σ1 H' zE:=zF;rw[B0Z t.held hg hm hd];obtain⟨oe,F,x⟩:=zG),(by rcases h with⟨h1,h2⟩|⟨h1,h2⟩),(by obtain⟨hi,_⟩:=zA;have zB:BLX[i]?=FP ns[i]:=by rw[CQT zC]),λ{i j} hi zA zB e=>?_,∀(k i:Nat) (s:qC) (zA:zB),zC,BTR (t':=s.toks) (ch:=ch) CWG zA zB (λb u _ e n=>zC),RwO ns.length m rss o,Builtin.Builtins.bindParams "min" ["key","default"] 0 (CXK [] .none),zA it d AR es.size ep,LsO eG CRF m zA o,x.above y c (PySem.mem_of_lookup h),zA zB CSU (b6p C E t),∀h' zA,IY h'.get? (BHC dict CP6)->h'.Ns1 h.objs.size (D36 none)->(BM3 AHK)->zB,zA c o jO (ZX f) (A3N f) f.2.2.2.2 e,l<i/\i<=k,(∃i,CWA/\RA i)∨∃k,mY (.bl k)/\RA CXR,thn (gG hi) λv s1 h1=>GU h1 zA zB h2,List.foldl (λa b=>a++b) qQ.toArray (BO3 its.toArray)=AEH qQ (AZ6 k),⟨a9J (zA K a) b.h hl.h c.h⟩,JS X (BTM zA) (zB K D j tx ts),(by have a:∀b,HY T->(s.heap.update T (Obj.mapFields (·.setIfInBounds 3 Value.none))).get? b=s.heap.get? b:=λb zA=>CJC zB),(by unfold ixN;rw[List.length_map,CV4,DF zA];simp),yX tv y (ta σ H1 (zA K f D σ y)),a8B (s:=zA) QZ BNX CW6 CWX,wR MakeOkN x C k ps sp,(by rw[AFG (G4 hv) j u rfl y u rfl]),∀{binds:rA}{m:AZ},(∀v,BP9∉binds)->zA=m x,(by obtain⟨l,b,xs,zs,rfl,rfl,g,zA,zB,q⟩:=h),∀(zA:zB) (zC:zD) (s:qC) (Q:qH) (E:qH),zE,[(BL1,FT),(AF2,BD zA),(AF3,BD t),(AF4,BD zB)],(by have h1:PD<j:=QZ;have h2:j<zA:=a.2),(by rw[BTS (TB a4L [] zA (sqt ha) (sqt hb) zB BSO rfl (D3J g)) zC]),CZU (I.lset (its':=zA) zB e AL zC ?_),(by rw[SO e' e'];rw[d]at c;injection c with d1 _),(by have zA:upd J af (BQ AV9) zB=BV .lst zC:=by rw[A41 zD (AHA zE)]),D0F _ _ rfl zA q,zA (CSZ [ACH a b e]) 0 it qQ env,(by rw[A5 zA]at e;refine BSI zB (TC _ q q) CPY λb xs q=>?_),(by obtain⟨dx,n,r,s',c,q,us,e1,e2,zA,zB,zC,e6,e7,e8⟩:=hD.ex),B0W zA U.n1 A54 tn rfl (LY zB) ?_,∀a b:Nat,a<b->b<xs.size->AFV a<AFV b,(by rw[D2G S];rw[BI (wpAny_seqItems C rfl ?_)];rw[BPX (AR3 I)];rw[AYG zA]),dI Walks A J [J,zA] [J] es.size zB (λi h=>zC/\zD),D3Z (fnOf m qn ASW uS),ys.length*B+ys.length*sep.length<=16777216,[.ExceptHandler (AU (.Name o np)) CUH zA m],(⟨by show CC 2;decide,zA,.cons zB (.cons zC .nil),oR zD 0 rfl⟩),⟨xs,zs,q1,h,AF⟩,∀(zA:Around) (zB:qH) (zC:CN3),(∀h1:Heap,BI6->zD zE (KQ h1))->zF,(by first|exact nobehind _ AG AG|rfl),show ObjOk X.prog X.w _ _ _ zA from⟨zB,zC,zD,AHG⟩,(by cases k<;>obtain⟨o,q,r⟩:=x<;>exact zA),(by rename_i dd cd sl ho;split at q),(by rcases O with⟨z,_⟩|⟨_,k,I,a⟩),CSJ zA D.l2z D.l2i1 hs₃.extBut D.l2TO,D26 ca af aw true,zA zB CSU (b2S C sp E t),E1 zA zB zC=dfl zD ar as ac ap,c1A zA u D σ H,b2U C sp dvs E zA,zA tb σ Q x H1,OwnCls zA zB BK5 "ValueError.__new__" mg base,JX X zA (zB C m sp ta t),T9 N src M a=true,zA (CMW d) (e y List.mem_cons_self),(by have p:uU (ARR D b):=by rw[B03 c]),(StP rss cs ys).take,a4C A4 zA (a4C A4 A6 zB),λz=>ZX ((g c z)) x c e rfl,forIn zA true λc r=>if r=true then zB else BPJ r,(by rw[GM K4];rw[List.getElem?_map,CUR];rw[BNC h]),a2G C m sp dvs E ta zA,SetTable.probe.go t a h fuel p,(by rw[List.mem_singleton.mp E];exact⟨a9,M,CZG,B,AI6⟩),bV (nmF g st l k),PySem.seqSlot_of (T:="tuple") (name:=zA) zB zC BK,swappedStores [tg] e X.env=pure none,(by have zA:upd zB d AEE d=BV .dT []:=A0),(by .rw[AYK]at h;have e:zA=j:=BNP;rw[FJ (NG zB e) AF zC zD]),(by repeat (first | rw[eO zA k]|rw[zJ zB] | rw[A5Y zC p] | rw[A5Y zD r]|wp_step)),C3 (c0d K hu G0 WU CO),(by refine a4I I AZK zA zB zC;rw[A41 (L7 zD e gW) zE]),zA b a q n c d,(by rw[HC h2 (NF xs.zip ns xs.length) List.length_zip (BX Nat.min_le_left)]),zA I b hi d r zB c,(by rw[SJ (h _ D1U true zA zB (DH (NM C)))]),mQ n r p a rfl zA zB,⟨K9 (zA K f c) d.h e.h BE7⟩,nE (ACS "traceback") none (Data.fields l) #[],AQO "caps" ac "sides" as BSG,(by rw[dD];refine wpAny_execs_cons (GU (cW h1 zA I h) f s1 q)),(by .rw[HN more q (BO6 zA) more (AJ BFF q)]),(by refine BTO zA zB zC jG ?_;rw[Int.toNat_natCast,List.length_map]),zA K f D σ y x H2,zA (BOE).kindOf (ps.zip us) λ_=>none,ABS Ok X.base x k ps sp,zA (ts:=ABE) λx a=>BOX,FY QR _ (BF I.laid h' h' a s.heap.objs.size (o:=APS zA s.heap.objs.size zB) (t':=tk) (GW o (gP zC pP)) BO zD) zE,.Call (APX zA) zB [⟨AU zC,.Constant zD nk np,kp⟩] pos,I.laid (a:=s.heap.objs.size) zA (h':=zB) (t':=s.toks) zC BO zD,⟨_,rfl,zA,_,0,_,rfl,rfl,zB,AID,zC,zD,rfl,zE,BQM⟩,(by obtain⟨σ2,H2,zA,i⟩:=i;exact zB λs9 I9=>KS H2 I9 i),∃p ys,xs=[EU]/\(CXY∨CXZ)/\zA,λi s Q E hi st zA=>zB,(h.push oA).update x λo=>nE o.cls CP6 o.data o.slots,(G9 (by rw[a4A,a2P,BNR,zA,jS zB i];rfl)),(by .rw[oW ys];rw[AE (List.take_of_length_le (~~~b8A hl)) BGD]),(by have D:=(zA (zB-d) zC).2;rw[f,show d+(zD-d)=zE by exact c4U c,zF,hg i _ hi]at D),λv H6 N P6 q=>zM zA P6 (λx H7 x1 x2 P7 f7=>BRZ (q _ _ (SI (BS zB x1) (BS zC x2)) P7 f7)),AH5 false p _ UJ (k _ zA),∀b o u,A34 AX4->YU H' AX4,(by .rw[AHB (GZ k)];have:zA:=λe=>hj (a5t zB e1 (e ▸ hi));simp[this,e]),∃xs,A7K/\h.DictOfH (CO0 P w) a xs,(by rw[oM PySem.F.slot_str_join BJ5 PySem.F.entry_str_join PySem.F.args_str_join_2 (zA a t p l zB) (GZ zC)]),⟨zA (xF a1m) c.h a.h b.h m⟩,(by have lst:∀{h:Heap},zA->BOJ h.IsList:=λg=>zB),⟨_,rfl,_,_,rfl,rfl,rfl,_,rfl,?_⟩,(by .obtain⟨p,zA,zB,zC,ns,rss,ss,cs,ps,rfl,_⟩:=h;rfl),(by rw[B04 zA zB];refine wpAny_Call_Name_kw (a2w I zC zD zE ?_ AG AG)),(by .rw[MB k' e z (G x _ t) k' e (z.elim (λz=>zA) λz=>zB)]),(COC ⟨hi,by have:=BT6 i;exact a5A zA hi this,λzB H' y=>by rw[zC]⟩),(by have a0:Inv l CZP WO U s3:=I3.pins_of λp E=>zA),∃(its:AI) (n:Nat),wV/\zA/\zB,G zA e (λc o i zB n zC x=>zD) ⟨F,AM zE g d,f⟩,(by rw[tN A.in1 (holding [zA] (setAdd S zB)>>=_) s'];rw[AFW zC]),upd (FB H4 q5 [CK5]) q6 (uX BL9),zA t b vs.toArray a.toArray n p dd d,zA h.ri g.ri h.nd g.nd λv=>BMQ h.mem g.mem,(by have zA:(onTheHeap (Value.ref C) && CQC==CQD)=false:=by rw[zB];rfl),(by have zA:(COW .class || (COW .module && X.env.locals != X.env.globals))=false:=by rw[I.ok.kind];rfl),(by rw[BQE g Y];refine VM R1 g (X.map V.ref) zA (uT zB) zC (D0G zD) ?_ ?_),(by rw[xA g F.ex];refine⟨f,fd,h1,h2.kp,g,?_⟩;rw[CTU]),(by rw[xA g F.ex];refine⟨f,fd,h1,g,?_⟩;rw[CTU]),(by rw[NK b c];rw[RC i j rfl rfl q];rw[A6Z b c];exact D28 s _ _ zA),CRX CB (BIM (CK7 ys.length) all e && xs.length==ys.length),(by rw[CU1 I.list I.list];rw[CS r d.length f.length]),(by have tm:=zA;have zB:iY iA AIX:=λt zC=>oP tm zD;have tl:=BDO a9d),∀(j:Nat) x v,BLI->JH its v->zA v=AYW,CW ⟨x',BPN,AZJ,zA,J.p,AS an a3⟩,DR g X H4 Y M s4,entryFor_alias (id':=zA) KK rfl BK KK,UO ATP (λv s₁=>xQ BGL (λu s₂=>xQ zA zB s₂) s₁),(by rw[GD zA (FY _ zB zC ?_)];have y:Q0 st d=zD:=by rw[EY Q0 zE]),hQ (CV5==0 && SQ==1) ((AXU)==items.size),(by .subst d;rw[B0I];refine zA CVF hd dd.mapOf ?_;rw[CS5 CQY]),EqV X.K H n x y b,(by have key:∀x:Str,zA->LU (cP x.cps.toList.all c zB)->zC:=λx h1 h2=>zD),(by rw[AFP u d];rw[A7L d];obtain⟨_,b,e'⟩:=key i zA),(by have I2:=BF zA h' h' a h1.objs.size (o:=BQ zB) (t':=tk) k2 BO ⟨zC,os,c,zD,e⟩;refine AG7 h1.objs.size I2 zE),⟨zA a6V a6V d.h e.h f.h g⟩,(by rw[IG rfl K];generalize a2:(ABR)=a at h;rw[D4A]),(by rw[AI5 l hl];refine VM O5 l fs (cE σ (Ex1 λo=>An3 (σ=zA) BG zB)) (RB none mG rfl) zC ?_ ?_),AIU 3 sc_read_terms.nd "group" "names" gO (F8 K (AUZ e b1I KB)),(by .rw[B0N (BMA q (IN b)) wQ (jA (xs.length-(AR)) CY4 b p')];rw[CSE f σ (y xs q)]),(by rw[Z2,D8,D8];exact b9B d g o u),LqE.rec (λi=>zA) (λn=>zB) (RK a b (a+b)) (RK a b (a-b)),(by rw[LC];rw[BTD j zA a];rw[BRU (h₀:=X.base) zB (CTI zC r q (GZ c.kIn)) i b]),c.h qK _ σ H1 _ Q CUF q,(by rintro i v ys H' hv ⟨s,rfl⟩;have hi:i<as.length:=by rw[<-hl];exact IB hv),(by have e0':BT3 (λl p=>l++p) n.toNat its.toArray=BRC n.toNat:=e0),(by obtain⟨p,zA,ns,rss,ss,cs,ps,rfl,hD,hG,zB,k⟩:=h),(by rw[D2K ⟨xs.length,AL,IC,h0⟩];have q:=D2F;rw[D00]),⟨_,rfl,_,rfl,a,y,us,rss,ys,rfl,ha,hI,hy,zA,zB,hs,A7I v zC⟩,D37 CS3 CS3 t zA zB S (g zC f),(by rw[D45 (List.mem_iff_getElem?.mp (zA zB)) r3 zC r3 zD ((zE)) t1]),D48 D Ends R zA (t D R σ H) (DM SD X.A (CUG sts) CS8 (zB X qK R) s),(by rw[D4C];rw[BQ0 h];rw[BI CYI];rw[CSQ AHO];rw[NW (q _ D3U)]),D4D x y v u (BLP LJ zA),W.frame _ s' _ _ zA BFN (DD b zB o e),(by show zA=_;unfold zB;exact zC (i:=i) (List.nodup_cons.mp nd).2 BNS CUW b),(by refine zA (GW o AEY) (a6N m) ⟨BO,List.nodup_nil,(A5Q (nomatch hx)),λj hj=>D24⟩ ?hR),∀(X:Cx),kD->kE->AQ->EH->BTZ i Nat E qH (AN->A4D AUD->CWY->zA),(by subst zA;rw[BTN (W.done s _ _ zB λs' zC=>?_)];rw[tN A.in1 CNY s']),(by obtain⟨v,M,N,rv,q3⟩:=b.after g),λb u q n _ _=>zA,∃(o:Obj) (its:DB) (n:Nat),zA,∀i x z zA H p,aA->CP zs z->zB->ND->zC,(by .obtain⟨_,_,_,_,o,_,_,e,ex,_⟩:=AG9 b;rw[AX o e ex]),(by obtain⟨_,v,e2,m⟩:=p.mem c;rw[B08 q]),#[k0,k1,k2,k3,WE n,k5],if 1+O<VA then 1+O else VA,b0a (f:=f) zA M.makes M.init (AXY M.fn) (wW zB a),AM (a6h xs j n fuel) (A4I zA zB) zC,∃od,zA/\∀name,PySem.W.lookIn name od=BV mA name,FE (a1t CRT (a0R (CSV c a8m CP9))),WC σ (ta σ H (zA tb σ Q)),GP w World h Heap (zA w h) CST,⟨_,rfl,zA,zB,zC,zD,most,_,rfl,rfl,Y,hmo,zE,zF⟩,((∀s' zA,Moved CRH G s s'->zB->zC->CXB s')),BI6->(nJ CUP h'.get?)->BIN h1.objs.size (tW os.toArray c)->CWO->D3R->zA,A2N OkN "read_system" 10 ["text"] spRSy CN,(by rw[QA us rv];obtain⟨zA,zB,rss,rfl,zC,zD,F,hw,q⟩:=h;rw[CYW]),ZY _ rfl _ rfl zA _ rfl zB zC,M1 X o "get" qN e qM,(zA zB (D1J zC []) zD (by show([]++_).Nodup;exact(K3 ns zE).nodup h.nm.nd) (a _)),BDZ (N4 zA h i c1j) d.h g,∀{xs:AA}{us:AI},aH->AI9->zA,(by rw[iZ Builtin.«set_iterator.__next__» (BL6 (wpAny_fieldsOf zA zB ?_))];dsimp only[rawInt];unfold setEntries;rw[OR wpAny_bind zC];rw[wG];simp only[Int.toNat_natCast];rw[A4X a9u D zD zE]),{nx:=λσ2 H2=>De.nx (BEN σ2.set) H2,rt:=AI0},jK t d r zA t d.h r,∀h',Heap.MadeExcOf h h' AET EA rest->zA,FB (upd (VB q1 AXZ) q2 (uX BFC)) q3 [BF8],ABD zA zB D zC n b i zD l m j o,AEH [f,iM,.none,CWB,.none] (UM pl.isEmpty (ATK 6 Value.none) pl),SysAt H' v d.names d.rows d.sides d.capsL d.pricesL,(by rw[yP Z r r];rw[DN (BN1 zA zB zC zD rfl (CW (ES (CW zE))) _ (DGet.k (k:=Sum.inr x) zF)) a2S];have:=aU),(by intro qK σ H1 s1 e s' I h),(by obtain⟨F,d,f⟩:=r;have zA:AX1 zB:=zC;have g:e≠z:=λx=>by subst x;rw[AW zD d d];simp at f),∀v,assign (CN1 o i) X.env v=(zA),(by rw[e2,<-a6c f b r _ e,zA];rfl),b a A outer s H vs Q E zA zB,(by refine kdu_collect zA (CX2 CYD) D (~~~zB) (D2L zC);have:qQ.toList=zD:=zE),gF (SqK k1 K H' a (xs.map ca)/\SqK k2 K H' b (ys.map zA)),(by have h1:zA<=mask:=CZ2;have h2:=a6Q h1;have a:zB<=AZM zC:=zD),AZY p C dx _ zA U.cl zB zC ?_,BF V0 vs (YY d.names.map) as d.names (caps:=[UU]) (λn=>zA) (CZW hnl) A56 (aK zB) rfl (A7G zC zD r Z zE),(by obtain⟨dx,n,r,t,c,q,zA,e1,e2,zB,zC,zD,e,f,g⟩:=h.ex;exact zE),(by rw[BMZ d];refine zA (GU (cW b Q I h) c s1 e)),λp2 r=>⟨u,p2,_,_,rfl,rfl,K5 e1 r,A0,PH (3+2),AS n B⟩,(by rw[BNA];simp only[Bool.and_eq_true,List.all_eq_true,List.mem_range,decide_eq_true_eq,beq_iff_eq];constructor),⟨ne,cs,_,_,_,A0,JM ne.symm zA⟩,(by rw[BON (tx9 n U x X _ zA)]),(by rw[AD7 M L f r N M L]),(by rw[AD7 G D f B L G D]),(by rw[xA a O.ex];rw[ID f fd d ⟨c,h1.at_,h1.fn,b⟩ h2 a]),λH6 S ys hl D P6 f6 L=>?_,(by obtain⟨q1,d⟩:=j _ ys H BO p;rw[AX D0B (~~~a5y h d) AXR]),∀{a b:LLI},G6 a->G6 b->a.Nodup->b.Nodup->(A6B a (v∈b))->a=b,(by rw[AU8 (BMR ABJ I.typeIs PySem.F.slot_dict_keyiterator_next PySem.F.slot_dict_keyiterator_next I.typeIs PySem.F.entry_dict_keyiterator_next PySem.F.args_dict_keyiterator_next_1)]),(by rw[AU8 (BMR ABJ I.typ slot_seti_next slot_seti_next I.typ a0T a1D)]),(by rw[CU1 I.tuple I.tuple];have:=AXO zA X.A (BM1 d.toArray t) (show s.heap.IsTuple c f.toArray from p2) AXE AXL),(by exact⟨_,_,_,[],[],zA,AL,AL,AH8,λz=>AF⟩),(by obtain⟨l,g⟩:=st.en;have p:vE s.TypeIs "enumerate":=A6X;rw[AU8 zA]),(by .subst hj;rw[AIE hi];rw[AW CZ0 e2 e2];rw[AX u r zA]),(by rcases q with⟨k,e⟩|⟨k,c,e,z⟩),∀(a b:DI),a.Nodup->CQ x a (x∈b)->BN4 b.length,(.of (owner:="set_iterator") (n:=zA) (by rw[typeLookup_type,builtinLookup_eq_fast];kernel_rfl) BK BK BK),SetTable.layClean.free mask owner (BH9 mask) dQ (SetTable.bits h),vB CU IO/\EJ CU/\CU≠X.env.locals/\CU∉X.fs/\CRU (IO).data,call_meets F.slot_int_rmul (AUM s zA) F.entry_int_rmul (BX F.args_int_rmul_2) (a5f zB t a its.toArray m dd sl) (RB zC zD ?_),(by rw[CYL d];rw[OR (listUpdate_at d rfl ?_ IC) zA]),(by rw[B0Y CRR CRR BHG (nS d) (BD d) g (AWK x' (FP d))];rw[IR AIH]),(by obtain⟨u,v,rfl,x,a⟩:=y.two;cases x;have f:BP1 CX6:=zA),λzA A outer s H vs Q E zB h=>zC,(by simp at h1 h2;subst h1;subst h2;show zA a BT5 m p=_;unfold zB;rw[zC λv c=>(List.nodup_cons.mp nd).1 (List.of_mem_zip c).1,zD];simp),∀(w:World) (mg:AZ) (fa:qE) (h:Heap),CST->AZE->zA,(by rw[D1Y PySem.F.slot_dict_get PySem.F.entry_dict_get PySem.F.args_dict_get_3 zA zB];rw[l];exact(c.val k).getD i),(by rw[D3K (D2A zA ec i _ s3) a0 D02 zB]),wpAny_Dict_empty (FY QR _ (I.laid (a:=s.heap.objs.size) zA (t':=s.toks) BPW BO zB) (h _ WZ)),∀(qs:XS) (d:Dr),CQ q qs (D39 d.names)->(zA).Nodup->GT (zB+qs.length)->Stps d (CZS qs.map zC) zD,(by obtain⟨o,ho,f⟩:=zA;rw[CSQ (PK ho f)];rw[SJ (EW (zB (DD c o f zC)))]),∀(v:V) (H':Hp) (N:VK),VE->(∀u c,R u->BDP c->Off bS H' c->N u c)->te AG5 H' N,(by obtain⟨m,⟨o,es,ep,zA,r⟩,_⟩:=id I.loc;rw[dU sl zB]),⟨xs,zs,AT0,zs[i],q1,h,zA,CVE⟩,(by rcases a0t r _ _ h with⟨d,e⟩|z),{j:=zA,more:=zB,i,perturb:=pt,dummy:=none},richCompare_meets_room (op:=.Lt) (FZ zA) zB PySem.F.slot_tuple_lt PySem.F.entry_tuple_lt (BX PySem.F.args_tuple_lt_2) zC,q l (~~~b1Z h1 h2) a λi hi=>b i zA,(by .have:=pP;rw[AUF];simp only[List.mem_cons,List.not_mem_nil,or_false];rw[AY (BG4 this) (ATC this)]),(by have zA:t.probe (λi=>(es[i]?.map (·.1)).getD 0) WH (E9 t.mask COH d)=_:=zB;erw [zC];dsimp only),(by exact AU9 f g H1 Q d q1),(by refine a1A (CP3 zA) (CP3 zB) F x w (J _ BOO) ?_),(by refine⟨zA,ys,rfl,gR UJ q y⟩;rw[GJ zB (BQL AVY ys zC) (FX ys) y];exact kk q ys _ zD A0 zE),(by have d:LH vs (R9 (h1.push ACE) v=R9 s.heap v):=λv zA=>zB),⟨_,rfl,rfl,_,zA,rfl,rfl,AG,AF,AS zB zC⟩,(by rw[TD ne cs l t k zA zB];exact⟨ne,cs,l,t,k,zC,zD⟩),k p n q a BO zA c x s,(by refine call_meetsIn PySem.F.slot_dict_get dd.typeIs PySem.F.entry_dict_get (BX PySem.F.args_dict_get_2) zA zB;rw[l];exact CM5 getD rfl),zA a m g st l C d b H,(by rw[tN _ _ zA];rw[AFW (nX slot_list_sort (FZ f) entry_list_sort (a2b (s:=zB) f zC hw q λos j zD=>pR) args_list_sort)];obtain⟨c,zE⟩:=a2a (out:=os.toArray) f;rw[SJ (CD zF)]),(by have f:=e.typeIs;obtain⟨o,zA,n,g,_,hd,hi⟩:=e),vZ ((AHH (min ns.length ms.length) all (λj=>zA) && ns.length==ms.length)) BM9,(by .rw[A3Q its.toList r zA];have e:=r.length;simp only[Array.length_toList]at e;exact b1Q f e),(by .obtain⟨its,r',pl,hz⟩:=zA b;have a:=r'.length;exact zB zC (by simp only[List.size_toArray]<;>omega) (BEG (BD ys.length) ⟨gN,NG List.size_toArray a⟩)),(by have g:=I.land s v zA n CW7 i c.1 (JL e _ (AVO e))),(by rw[A6Y G zA zB p];refine⟨a,b,I,_,rfl,zC G,A0,E6 zD p,cG (0<3),ACZ 3,zE⟩;rw[nK B];rcases B with e|e|e),(by rw[AFG (G4 hb) j u e y u e]),(by obtain⟨a,p,ys,B,rfl,rfl,zA,zB,zC,zD,q⟩:=h),(by rw[AI2 plainObj_wpAny_Assign_Attribute (thn (gG k) λu s1 (mV y b zA q)=>GU (OQ zB s1 H1 _ b q) zC zD zE) j]),(by have r:EqV K (VB S AH1) 1 EU AQV (CJ zA):=EqV.strs (k:=false) (iR B hp) (SqL.of A0)),zA c o (iW I.cne) G h y (I.freeC x c e),(by rw[xT zA e1];have e:=HH e;rw[CV zB];rw[GJ D ((AVY (o:=CJX) r)).upd zC B];rw[IS x BJI n zD n zE];rw[AGU (upd BJI n zF)];rw[yB BJI n zG R D x]),(by rw[BMZ g];refine zA (uD e c i);obtain⟨H1,d,q1⟩:=i),(by rw[ET o h1 h2 id hl];rw[AX o (AH g h1) h2]),(by rw[AUW (field jC 0)];rw[KA zA];show MD _ (jJ (AU0 t) _);rw[BA (show ¬(AU0 t)from Bool.false_ne_true)];rw[AUW (LV field it 1)];rw[KA zB];rw[AUW (CN2 t)];rw[AS1 zC hdl]),(by obtain⟨q1,d⟩:=BQF j CWE;rw[DV (BMA q1 aG) (~~~a5A h hi d) BH6];rw[CSE m ys (AZ7 y)]),(by rintro i x σ H' hx ⟨o,rfl,s',hB⟩),(by refine jD ⟨rfl,zA,zs,a8,A0,JM a6.symm zB,zC,G,zD,aB zE,dE X⟩),BQ8 zA X P i qK Q σ3 B X.xe M (p w) z zB,(by subst k;rw[BU0];rw[RC p ys x y z];exact zA a b c d e f g i j ⟨p,ys,x,y,z⟩),λD R σ H=>ZA ta x (∃a dx fs,IE/\BQ9/\BR6/\VF t vs (sp CPT H2 zA λc _ H'=>D2I (R σ C' H'))),(by .rw[D32 b hb];rw[PY i t CY5];refine BMJ (zA 7 (.int i t));rw[pQ XR (A3O (λv j=>hr v (JC j)))]),(by rw[D3S U T Z W N U T]),["enumerate","zip","dict_itemiterator","dict_reverseitemiterator","odict_iterator","itertools.zip_longest","itertools.pairwise"].contains,(by obtain⟨m',hm,zA⟩:=AH hN zB;obtain⟨b1,b2,b3,b4,b5⟩:=back (pl:=[]) zC),⟨λvs H Q E h=>WB b.len h,λA outer s H a zA vs Q E i g d l j=>(wW (zB AIQ i g d l j) h)⟩,∀H' p ys,ADJ xs.length->CQ9->VE->NV->VJ->tV D05,(((∃n,vc=.ty n/\AQJ kitOne EA n b)∨(∃D,LR vc D/\bP kitOne EA (AK D) b)∨∃(tp:qE) (Ds:EG),LR vc tp/\lV tp Ds.map V.ref/\kitAny K EA (Ds.map Value.ref)=some b)),(by rw[BI (zA λh₂ h1₂ hs₂=>A71)];have hTO₂:CRW h₂:=CRS D.TOi1 D.TOz zB;rw[AGL hTO₂]),(by rw[RC n rfl h1 h2 k];rw[GF (zA (S9 zB) EV)];rw[XQ c]),(by rw[aM c f (h q List.mem_cons_self)];rw[CWK];rw[cY (zA qs zB (λr g=>h r BO0) (BM b) (by rw[wI];show aT+_<=_;exact b9w a)) List.append_assoc];exact .cons (zC c (λz=>CUS b _ z _ List.mem_cons_self rfl) (hY b9h) e f) this),(by rw[AE2 us r1 p1 zA d l zB];rw[r1.length,l.length];rw[JZ SeqAt.EqAt.of_refs c]),A5T zA q7 _ _ rfl A0 (AH zB e7) (CWS Z zC) (AS zD zE),(by rw[show OS Builtin.Dict_items.ownsTuple "dict_keyiterator" by decide,BA Bool.false_ne_true];rw[LW (jJ (AU0 d) _)];have c:¬(AU0 d):=Bool.false_ne_true;rw[BA c];rw[CSK wpAny_dictEntries zA];rw[CSK wpAny_dictEpoch zB];rw[pC];dsimp only;rw[show zC by rw[CV0,Int.toNat_natCast,zD hi]];dsimp only;rw[NI]),⟨_,rfl,_,rfl,zA,_,_,zB,rfl,rfl,zC,zD,rfl,_,rfl,?_⟩,(by obtain⟨x,ex,w⟩:=J9 r1 h1';obtain⟨y,q,z⟩:=J9 l f;exact t j x y ex q (BIH (bW (A.units+1) n) b9p g) w z),(by rw[oK S p8 a6];rw[GJ s8 s7.upd zA a6];rw[IS e8 (upd H6 S zB) p8 zC p8 zD];rw[AY6 (upd H6 S zE) p8 zF H8 s8 e8]),PySem.W.fnOf name qual c body scope G kV i pm an a ct,dI WalksS A.in1 I fp wr G n P St,∀i x ys H,aA->A65->AGX (g x WO H) k f f l (c AR A60 l) (c AR ys f),(by rw[EC us W U zu I.sqk m];obtain⟨ws,B,V,zw⟩:=I.sqk n),(by rw[CTY];obtain⟨xs,l,m⟩:=C;rw[MC D p Q zA l];rw[CTX];have M:=D.length;exact zB (I.ok.hd F) st zC (AVM a0P m M) λh' J=>EW (CTR (BSA J))),∀{P:AB}{vs:AI}{i:Nat}{m:AZ},P.Nodup->bY P->A58->zA,(by refine Eq.trans ?_ (HT.clip_eq i n zA);simp only[sliceBounds,Option.getD_none,ABM CVR,if_true];exact b0C i n),(by rw[NK c d];rw[TD p xs rfl a b fs q];cases d;rcases a with a|a),(by .subst d;rw[B0K f];refine zA (tupleKind_room_in1 j) (a1s I.hok i) hd dd ?_;rw[QV q CQY Option.isSome_map q];rw[CS5 q]),AC6 {s with heap:=h',gens:=g',drawn:=d',toks:=t'},(by obtain⟨_,cs,l,t,k,h1,h2⟩:=h;rw[B0R];rw[AY zA zB]),(by obtain⟨r,b,its,_,e2,n,p⟩:=T.2 i v hi;rw[e2,N3 n p,N3 (a b its n) p]),(by intro i s D C hi f E B hR),(by obtain⟨⟨a4,ah,hs,h1,h2,h3,h4,h5⟩,_,_,_⟩:=id S),IW zA {heap:=zB,gens:=g,drawn:=d,toks:=t,os:=os},(by rintro i σ H' hi ⟨zA,zB,zC,rfl,c1,c2,zD,zE,zF,P',o'⟩),(by rw[DU (uI 1 b8r c) (λp b=>A5T p zA n rfl A0 AL h1 ?_ (DD q H' s e))]),(by .have:=(zA e i k r).same I (LZ c);rw[FK this c SeqAt.EqAt.same _]),uH (names.map λAWI=>if (k==NameKind.free && env.scope.kind==.function && CUY==AU .cell)then(n,NameKind.cell)else AWI),(by refine⟨_,rfl,_,rfl,zA,_,rfl,_,_,rfl,rfl,_,rfl,?_⟩),(by refine⟨_,rfl,zA,_,rfl,zB,_,_,rfl,rfl,_,rfl,nY⟩),(by .rw[MC l pl g zA w];rw[xE J G n hd zB];have d:=l.length;rw[FJ its l g (λD E B k=>wpAny_collect_seq p zC J G hd (λh' k'=>k h' k') (by rw[COY];exact a0P g d))]),(by rw[AVJ H5 s5 zA];rw[rK hx a C hx];obtain⟨l,j,O⟩:=M.2 i a C),(by rw[AW8 zA (AWO e)];rw[uK x H1 g q1 i];rw[GN c q1 q1];cases g;rw[BO7]),(by rw[AW8 wpAny_Call_Name_kw (a2w I i j l ?_ k a)];exact zA (CTI n m q1 (VP f vs n Q c m q1)) g b),∃o8 L R,σ=[ZL,CQ5,AW4,FP fi,CPH,FP gi,EZ p9,EZ p11,o8]/\zA,(by rintro i v ys H' hv ⟨h1,h2,P',o'⟩;rw[A6C CS7 d (f v H' _ P' λu c zA e j=>⟨IN h1,AE5 g,e,o'.trans j⟩)];rw[CZO]),(by intro i s xs O hi r y T d hR),(by .rw[MC f pl d zA g];have a:=f.length;rw[xE j i n hd zB];exact call_list_seq p zC j i hd (λh' c kp e=>fin its f d h' c kp e) (D1H d)),(by refine AX7 (PV b) p b rfl zA rfl _ rfl ?_;rw[a2A,zB];rw[LD ⟨_,rfl,PV b,p,_,_,zC,rfl,rfl,b,rfl,zD,zE,AFR g,DD j z L g,?_⟩]),(by exact⟨_,_,qL,g,rfl,zA,zB,y,I,h1,h2,a0 g CVN zC,~~~c4R C,~~~b9J G⟩),(by rw[A6C CS7 c (d i v as[i] H' _ hv aG s λH2 g=>GZ (s.trans g))];rw[BQR aG]),(by .rintro σ H' ⟨o,rfl,s',hB⟩;rw[oN HP hB];have:=k H' s';rw[A2M hB]),(by rw[D0O (hb A CQE b.kIn (A5M hl)) (wW (F.run X.A X.stack A H2 (JJ CQE) _ _ _ _ hr b.env0 d L K) g)]),(show ETb _ (tOp rRepX (tC (ACM " 1")) (tOp (ABG (DT (i-j))) (tVar 1) D0S)) (E8 LT) 1 from(AY4 b2 ⟨_,rfl,_,_,rfl,rfl,BF0,LT,rfl,by show V.int BIT=_;rw[jS ((BIT)) (EE LT)],AG,AF,q⟩)),(by refine BN1 t U.n1 A54 tn _ rfl (WN M) rfl;have G:AHQ->dF (pE (QM (xH d.names.map)) 0):=λh=>A4J (by rw[AWL BO1];exact b8q h this)),(by obtain⟨v',σ2,H2,b,rv,a⟩:=a;rw[ID v' σ2 H2 CKR rv a]),λh1 h' os c tk k1 k2 e hp zA=>?_,(by obtain⟨nm,bs,zA,ns,qn,hd,sn,sub,ab,col,zB⟩:=cd),(by rename_i C' bm k0 k1 k2 k3 n k5 hmro hs),(by .obtain⟨_,hd,zA,_,dd⟩:=zB;rw[DV dd.typeIs CPY hd];cases q;obtain⟨c,_,_,h1,h2,_⟩:=dd;rw[AX c h1 h2.2.1]),(by .rcases h with⟨nt,p,ns,xs,rfl,_⟩|⟨nt,p,ns,rfl,_⟩<;>rfl),∃f oc od sl kV dc pm an cd ct,zA,(by rw[gT];have q:=zA c d;subst q;simp only[Nat.min_self,Bool.and_eq_true,beq_self_eq_true,and_true,List.all_eq_true,List.mem_range];intro j a;exact f j _ _ pO pO rfl),(by rw[QC (List.nodup_cons.mp e)];have c:=A5Z;rw[cY (zA a (b.erase x) h2 λy d=>WT List.mem_erase_of_ne (λz:y=x=>h1 (yA d)) (h y (JC d))) (List.length_erase_of_mem c)];have:=List.length_pos_of_mem c;rw[BO8]),(by have:L=a:=W3 d l e m λv=>BMQ f n;rw[X1];rw[AX (i.trans o.symm) (j.trans p.symm) rfl]),(by rw[oZ J B (P0 its r)];exact zA M zB J (λi hi=>c4t I.hok (B i hi).2) (by have:=r.length;simp;exact b8z N this) (~~~b8J R) λh' tk xs m g y=>step its r h' tk xs c B m g y),∀(i:Nat) (v:V) (x:α) (H1:Hp) (e:VK),BMW A58 (bY as) (e (f x) H2) (te AG5 H1 e),(by obtain⟨D,t,k⟩:=BTX u H' d.heap s'.heap h' g.base n j XI zA g.funs λb a=>g.stkFree b (r b a);exact zB),(by rw[AD7 y u A j a y u];obtain⟨l,m,D,n,p,q⟩:=CM9;have a:zA:=a),(by obtain⟨p,ra,ca,af,aw,b,L,F,W,rfl,D,k⟩:=h),(by rw[lM Q d];refine zA (thn (h pos qK s σ H _ I d) λf s1 ⟨xs,H1,a,r,z,q⟩=>GZ (BOS z));have c:ABA s1.heap.objs.size:=CPO;refine FY (AK s1.heap.objs.size) zB (a.laid (t':=s1.toks) (jX UR) BO ?_) (q _ c)),(by rw[CTY];obtain⟨xs,x,l,m⟩:=C;rw[MC D p Q zA l];rw[ET u N R D.get m];rw[CTX];refine zB st zC (x:=u) (BM N) λh' g S=>?_;have G:AYC:=CTR (JL f e (VG S.2 b f e));rw[EC o e c d id g];rw[PZ u (D3W UI x G R (EW (λys O=>AJ (zD O l) m)))]),(by obtain⟨n,fd,h1,h2,g,h⟩:=O.ex;exact⟨a8b h m l h1 h2 g .nil zA i.h c j d⟩),(by obtain⟨z,y,zA,r,g,es,ep,e,c⟩:=x;exact⟨z,y,zB,zC,g,es,ep,eR,c⟩),(by rw[AYR];refine AWO hl;rw[kB c g i];obtain⟨a,e,⟨xs,f⟩,q⟩:=q1;rw[DQ];cases g;rw[MC k p j zA f];rw[D41 zB zC c.kept (zD a _)]),(by rw[D01 kind_sorted plain_sorted entry_sorted args_sorted1];rw[xZ Builtin.«sorted» (BMJ (checkCount "sorted" 1 1 _))];rw[jE zA (wpAny_newList ?_ (HG sizeLine_eq a8o q))];have f:AH9 h1.push ACE h1.objs.size ACE:=KC;have a:∀b its,BJM s.heap->IsTup (h1.push ACE) b its:=λb its (PK q1 zB)=>PK (KP (AH k1 q1)) zC),⟨_,rfl,_,_,rfl,rfl,PH zA,yS,zB,[],d,ZW (b3j O),AM a2 hw zC,CWW (aT<=900),hd,BQN,CZH,rf _ zD,zE⟩,(by intro j h t p c u T y g n C),(by obtain⟨_,_,xs,ys,rfl,⟨a,rfl,ha⟩,⟨b,rfl,hb⟩,zA,k⟩:=h),(BF a9f ld a h0 s.heap zA s.heap.objs.size D AYX rows y u hn (show bW (A.units+2) 10 by exact b8Y hu) CYE 0 _ [] CU7 (Nat.zero_le _)),(by rw[LC];refine thn (gG hi) λp s1 (mV y b m q1)=>GU (vM e b) u q n;obtain⟨x,H2,c,l,a,j,ex,g,k⟩:=n;rw[vW l];exact zA f c g m λr d=>FY (.bl zB) H2 d k),(by rw[NK o p];obtain⟨n,b,C,i,⟨a,c,rfl,rfl⟩,q⟩:=h;rw[pJ o p];show MD _ (richCompare zA AV MH);have key:zB X.A s AV MH zC:=zD),(by refine a0S zA r n zB ?_;rw[GM codeAny_handlers_suite];refine CVQ d Q m u;have O:BQO (BHR BPM) Q:=D2U P m j.trans u;rw[BT1 ((zC p).h qK _ _ _ N (O.held p) BRV) a]),(by have l:=s1.trans l;rw[CV ⟨_,rfl,_,rfl,_,rfl,_,_,rfl,rfl,_,rfl,p,_,rfl,iR l b,AS p3 u⟩]),(by rw[AD7 q p r d u q p];obtain⟨f,g,A,j,l,m⟩:=d it AL),(by rw[WQ j k List.pairwise_cons.mp ra];rw[WQ q1 i List.pairwise_cons.mp rb];rw[WQ f g List.nodup_cons.mp na];rw[WQ c d List.nodup_cons.mp nb];have e:x=y:=zA),(by obtain⟨a,y,us,rss,ys,rfl,ha,hI,hy,zA,hl2,hs,k⟩:=h),⟨_,rfl,zA,zB,_,rfl,zC,rfl,_,rfl,zD,zE,ns,rss,ss,cs,ps,rfl,zF,hG,zG⟩,(by obtain⟨σ3,a,g,k⟩:=e;obtain⟨j,i,l⟩:=o σ3 a k;rw[ID j i σ3 a g l]),(by exact E2 ⟨_,rfl,l,_,_,AHF,rfl,rfl,CUO,atc,_,_,rfl,rfl,k⟩),⟨_,rfl,p,g,m,fI,dd,_,_,rfl,B,z,u,D,rfl,zA⟩,(by rcases k with⟨n,rfl,e⟩|⟨D,rfl,e⟩|⟨g,i,rfl,d,e⟩),∀(h:Heap) (tk:Nat) (i j:Nat) (zA zB:qB) (Q E:qH),zC->CP vs zD->JH vs zE->A44 (zF i j) (A3B h)->DM FW A.in1 zG Q E (A3B h),(by .rintro ys H' ⟨h1,h2,P',o'⟩ p hp;exact hd H' p ys h1 h2 P' o' hp),(by .cases a;obtain⟨_,its,r,m,e1,e2,c⟩:=(D2N g (gD i.map V.ref) (AQF g d));have:=a3i r;rw[X1];rw[BRO t w m];obtain⟨n,c⟩:=c;cases e2;cases c;rw[BIC (kia_tup CMA I.kIn f e1 e gW)]),⟨_,rfl,p,_,_,_,rfl,rfl,CUN,a2C,_,rfl,zA,_,rfl,zB,zC,zD,?_⟩,(by rw[CT7 2 ACP];rw[CT7 3 (AK TI)];rw[AGL zA];rw[A36 (II Builtin.SmallTypes.ownedTupleIsFree z)];rw[D42 hz];simp only[if_true];rw[KA wpAny_rule];rw[ASC hz (AK TO)];rw[yH (AIP hz h₁ hz₁ hs₁) hz₁ (AX1 h₁) hz₁];rw[NI];simp only[List.zipIdx_cons,List.zipIdx_nil,List.forIn_cons,List.forIn_nil];rw[BI BPO];rw[BQS zB]),(by obtain⟨it,fp,tn,J,H2,e,zA,T,zB,zC,W,⟨m0,w0⟩,turn⟩:=h2;rw[DQ]),⟨nm,qn,zA,bs,bm,hd,sn,sub,ab,col,dd,k0,k1,k2,k3,k5,zB,zC,zD,zE⟩,∀(a:qB) (A:Around) (outer:HB) (s:qC) (H:Hp) (vs:AA) (Q:VK) (E:XK),BFJ qual uF zA,(by refine PySem.W.methodCall_KW (pl:=pl) (UN (gG he.h) (A52 u E) e s z (BMX i)) ht;rw[BTW G rx P E];rw[BTL rx G P J];rw[D3O J.kp (UN (BQY ha.h G q) (FH j A E) e s z (BMX i)) y w];obtain⟨vs,H2,b,r,K⟩:=E;rw[IR b.kIn];have L:BNY CUM CQF:=B0C;have hl:FO CQF=ps.length:=by rw[EX L.length (AHP K)]),(by rw[HA AZW I R];rw[ZZ (ABP AQK) R];rw[IU e1 H I ADY I ADY];rw[xT (cC I ADY) e1];rw[RT ⟨_,rfl,nt,_,rfl,WN (HH Z),_,_,rfl,rfl,I,_,_,rfl,rfl,e1,jG,jG,by rw[PQ List.length_map];exact b9r J y,AS t ht⟩]),(by have e:=ATL D;rw[CV (AX7 (PV x) n x rfl AG rfl _ rfl oQ)];refine zA;rw[HA (PH 5) N t];have L:=K5 (o:=A2T [wd "line",wd "text",CIO,wd "answer",wd "many"]) x t;refine⟨_,rfl,PV L,n,_,_,zB,rfl,rfl,L,rfl,AG,AG,AFR C,DD j z O C,N,_,_,ZC wd zC,rfl,rfl,UJ,rfl,CXP D t⟩),⟨ok.mod,ok.kind,ok.glob,ok.blt,ok.above,ok.inj,ok.has,ok.cab,ok.hd,ok.frames,ok.stk,ok.exf,ok.bs,ok.bsz,ok.noex,ok.exfs,ok.funs,ok.frf⟩,(by intro qK s σ H x v l m lo hi sl Q I j f pl i h),∃nm q N bs bm hdct sn sub ab col dd k0 k1 k2 k3 k5 qO,A3D C BFG/\yR/\zA,(by obtain⟨nm,q,NN,bs,bm,hdct,sn,sub,ab,col,zA,k0,k1,k2,k3,k5,qO,zB,_,J⟩:=hC.ex),(by have ap:oX A5F (a≠c/\HY c):=λc f=>⟨I.apart (o:=default) m CRV,I.apart (o:=default) n CRV⟩;have J:ZipApart z TI TO g j a b:=⟨D.TIz,D.TOz,D.i1z,D.i2z,D.TITO,D.TIi1,D.TIi2,D.TOi1,D.TOi2,D.i12,AU4 z,AU4 TO,(AU4 g),AU4 j,AU6 z,AU6 TO,AU6 g,AU6 j⟩;obtain⟨ua,ub,p⟩:=st.to;have C:LV s.TypeIs z "zip":=FZ st.zz;rw[AU8 zA]),(by obtain⟨p,C,H',B,a0,h1,h2,Q,S,T,U,W,Y,C',Z,n⟩:=g;cases Z;exact⟨σ,H2,A,p,C,H',B,a0,h1,b,h2,Q,S,T,U,W,Y,n⟩),∀(qK:DA) (s:qC) (σ:St) (H:Hp) (x:V) (xs:AA) (v:qB) (us:AI) (Q:VK),BLP aH zA,(by obtain⟨nm,q,N,bs,bm,hdct,sn,sub,ab,col,dd,k0,k1,k2,k3,k5,qO,lk,_⟩:=Z.cls.ex),(by rw[BTQ a ⟨_,hi,p,dx,_,rfl,g1,ZR zA,p,ra,ca,af,aw,b,L,F,W,rfl,D,k⟩]),(by rw[BTU];rw[ZZ CO4 j];refine⟨_,rfl,p,C,dx,_,_,rfl,HH t,U.cl,zA,zB,tn,u,zC,_,_,_,_,rfl,HH M,A0,zD,L,F,h1,h2,B,BTP e2 ((D.same s1).putK zE g rfl rfl rfl zF zG) (by rw[AZ0];rw[A6E L5])⟩),⟨_,rfl,_,rfl,l,_,zA,_,rfl,rfl,FD zB,rfl,_,_,rfl,rfl,PH zC,x,_,ns,rss,ss,cs,ps,rfl,zD,hG,a8 zE,zF⟩]
local macro_rules|`(~~~$t)=>`(by exact $t)
noncomputable abbrev LLI:=List (List Int)
noncomputable section
inductive LqE where
 |v (i:Nat)|k (n:Nat)|a (x y:LqE)|s (x y:LqE)|m (n:Nat) (y:LqE)|t (y:LqE) (n:Nat)|n (x y:LqE)|x (x y:LqE)|c (x:LqE)|g (x:LqE)
inductive LqR where
 |r (z:Bool) (o:Nat) (x y:LqE)|no (f:LqR)|F
noncomputable def c3q{α:Type}(d:α)(l:tK α):QO α:=List.rec (GA ((λ_:QJ->QJ=>d) λl=>l.mergeSort)) (λx _ f i=>Nat.rec x (λj _=>f j) i) l
noncomputable def M0(ns:QJ)(e:LqE):Nat:=F1A (c3q 0 ns i) n (EPX n) (λ_ n a=>a*n) (RK a b (min a b)) (RK a b (max a b)) DE1 DE1 e
noncomputable def a8x(ns:QJ)(zs:DC)(e:LqE):Int:=F1A (c3q 0 zs i) DO (EPX DO) (λ_ n a=>a*DO) E8X E8X (λx _=>EE vO) (λ_ a => - a) e
noncomputable def b5a(ns:QJ)(zs:DC):JN LqR
 |A3H true 0=>B64<=C1A
 |A3H true 1=>B64<C1A
 |.r true _ x y=>B64=C1A
 |DG2 0=>DZ2
 |DG2 1=>DZ7
 |.r false _ x y=>ENN
 |B3C=>¬B8D
 |.F=>False
noncomputable def J4:DC->(JU)->Int
 |[],_=>0
 |fH,ρ=>a*ρ 0+J4 l (λj=>ρ OC)
noncomputable def a3E:DC->DC->DC
 |[],m=>m
 |fH,[]=>fH
 |fH,b::m=>(a+b)::a3E l m
noncomputable def b0c(k:Int)(l:DC):DC:=l.map (k*·)
noncomputable def a0W(l m:DC):DC:=a3E l (b0c NH m)
noncomputable def b8l(j:Nat):DC:=MY List.replicate++[1]
theorem R3:∀(l m:DC) (ρ:JU),J4 (a3E l m) ρ=AFE+CAS
 |[],m,ρ=>(B4H Int.zero_add)
 |fH,[],ρ=>(B4H Int.add_zero)
 |fH,b::m,ρ=>by rw[a3E,J4,J4,J4,R3 l m,Int.add_mul];omega
theorem a0I(k:Int):∀(l:DC) (ρ:JU),J4 (b0c k l) ρ=k*AFE
 |[],ρ=>(B4H Int.mul_zero)
 |fH,ρ=>by rw[b0c,List.map_cons,J4,J4,Int.mul_add,<-a0I k l,Int.mul_assoc];rfl
theorem J5(l m:DC)(ρ:JU):J4 (a0W l m) ρ=AFE-CAS:=by rw[a0W,R3,a0I];omega
theorem a4A:AJ2 j ρ JU (EEF ρ=ρ j)
 |0,ρ=>by rw[MJ (1*ρ 0+0=_)]
 |OC,ρ=>by show 0*ρ 0+EEF _=_;rw[MW (a4A j)]
noncomputable def a2P(ns:QJ)(zs:DC)(j:Nat):Int:=dS j 0 1 (if j % 2=1 then(EE (c3q 0 ns (j / 2)))else c3q 0 zs (j / 2-1))
noncomputable abbrev LqA:=tK (LLI×DC)
noncomputable def b2h(f:DWU)(p q:LqA):LqA:=p.flatMap λx=>q.flatMap λy=>nF f PN y.2 λz=>(HZ++XI++aI,z.2)
noncomputable def a7a(f:DYW)(p:LqA):LqA:=p.map λx=>(HZ,f PN)
noncomputable def a0n:DYT
 |AKM=>(DGE D5N)
 |A6T=>DGF
 |AKZ=>BSX E6H
 |AL0=>BSX [(BN6,A5E),nA BN7]
 |ALO=>DRW
 |AOA=>DRW
 |BYU=>EDK p q
 |BYV=>EDK q p
 |.c _=>B63
 |.g _=>B63
noncomputable def a2R:DYT
 |AKM=>(DGE (2*i+2))
 |A6T=>DGF
 |AKZ=>EAB E6H
 |AL0=>EAB (A3P A5E)
 |ALO=>DRX
 |AOA=>DRX
 |D6L=>B63
 |D6M=>B63
 |.c x=>a0n x
 |.g x=>a7a (b0c NH) (a2R x)
noncomputable def a1F(ρ:JU)(p:LqA)(i:Int):Prop:=∃x∈p,CQ l HZ B2I/\AGI PN
theorem G9{ρ:JU}{l:DC}{i:Int}(h:C46):B8T (A3P l) i:=(KS D62 ((E21)) h)
theorem a1o{ρ:JU}{f:DYW}{p:LqA}{i j:Int}(h:EIV)(a:∀l,C46->J4 (f l) ρ=j):a1F ρ (a7a f p) j :=
 let ⟨x,hx,h1,h2⟩:=h;(KS (AOJ x hx) h1 (a _ h2))
theorem a0m{ρ:JU}{f:DWU}{p q:LqA}{i j k:Int}(h:EIV)(h':a1F ρ q j)(g:∀l m,C46->J4 m ρ=j->B8T (f l m) k):B8T (b2h f p q) k:=by
 rw[T6 x n h1 h2];obtain⟨y,o,b,c⟩:=h';obtain⟨z,r,d,e⟩:=AM g h2 c;refine KS (ALH x n (ALH y o (AOJ z r))) (AS l a) e;rw[DR0]
 .rw[DR0]
  .exact h1 l a
  .exact b l a
 .exact d l a
theorem a3D{ρ:JU}{l m p q:DC}{i:Int}(h:(B2I/\AGI p)∨(0<=CAS/\AGI q)):B8T [([l],p),([m],q)] i:=by
 rw[EX0]
 rw[ENQ List.mem_cons_self]
 rw[ENQ B2V]
theorem T5(ns:QJ)(zs:DC):∀e,a1F AA7 D71 (BH (M0 ns e))
 |AKM=>EZW A8A ((2*i+1) / 2)
 |A6T=>EVO
 |AKZ=>(AXW T5 AWR DXC)
 |AL0=>(CHS (_/\_=EE DYZ) (_/\PD=EE DYZ))
 |ALO=>(AP4 AWR E4M)
 |AOA=>(AP4 AWR ELN)
 |BYU=>CHS DS4 DS4
 |BYV=>CHS DS5 DS5
 |.c _=>B1V
 |.g _=>B1V
theorem a1p(ns:QJ)(zs:DC):∀e,a1F AA7 D72 (a8x ns zs e)
 |AKM=>EZW BNR ((2*i+2) / 2-1)
 |A6T=>EVO
 |AKZ=>(AXW a1p B5W DXC)
 |AL0=>(AXW a1p B5W (D0K J5))
 |ALO=>(AP4 B5W E4M)
 |AOA=>(AP4 B5W ELN)
 |D6L=>B1V
 |D6M=>B1V
 |.c x=>ARL T5
 |.g x=>AP4 (ARL a1p) (by rw[a0I,h];rw[MJ (_ = - B64)])
noncomputable def c8P(z:Bool)(o:Nat)(p q:DC):AK8 :=
 match z,o with
 |true,0=>[BN7]
 |true,1=>[BAU AVI]
 |true,_=>[[AVI,A5E]]
 |false,0=>[BAU A5E]
 |false,1=>[BN6]
 |false,_=>[BAU AVI,BAU A5E]
noncomputable def c6Q(z:Bool)(e:LqE):LqA:=if z then D72 else D71
noncomputable def c3r(b:Bool):LqR->AK8
 |CBA=>EEM x λp=>EEM y λq=>GS (c8P b o IO CZ) (p.1++q.1++·)
 |B3C=>c3r (! b) f
 |.F=>if b then[] else[[]]
noncomputable def a4v(ρ:JU)(c:LLI):Prop:=∀l∈c,B2I
noncomputable def c6M(ns:QJ)(zs:DC)(z:Bool)(e:LqE):Int:=if z then a8x ns zs e else M0 ns e
noncomputable def b9O(o:Nat)(i j:Int):Prop:=match o with|0=>ACY|1=>i<j|_=>jH
theorem b9N{ns zs z o x y}:BIY CBA↔b9O o (C73 x) (C73 y):=by
 match z,o with
 |true,0=>rw[BUD]
 |true,1=>rw[BUD]
 |true,_+2=>rw[BUD]
 |false,0=>rw[MJ (DZ2↔D5Y<=BH A48)]
 |false,1=>rw[MJ (DZ7↔BH vO<D5Z)]
 |false,_+2=>rw[MJ (ENN↔D5Y=D5Z)]
theorem a3C{ρ:JU}{l:DC}(h:B2I):B9M [l]:=λx a=>AJ A6O h
theorem a4B{ρ:JU}(h:BAX):J4 [NH] ρ = NH:=by show NH*ρ 0+0 = NH;rw[h];rfl
theorem c3s{ρ:JU}(h0:BAX){b:Bool}{o:Nat}{p q:DC}{i j:Int}(hp:AGI p)(d:J4 q ρ=j)(h:if b then E7H else ¬E7H):∃c∈c8P b o p q,a4v ρ c:=by
 match b,o,h with
 |true,0,h=>rw[AM0 (a3C (by have h:ACY:=h;rw[MW J5]))]
 |true,1,h=>rw[AM0 (a3C (by have h:i<j:=h;rw[BTA]))]
 |true,_+2,h =>
  have h:i=j:=h;rw[AM0 (λl a=>by
   rw[A1N]
   .rw[MW J5]
   .rw[A6O,J5];omega)]
 |false,0,h=>rw[AM0 (a3C (by have h:¬ACY:=h;rw[BTA]))]
 |false,1,h=>rw[AM0 (a3C (by have h:¬i<j:=h;rw[MW J5]))]
 |false,_+2,h =>
  have h:¬jH:=h;rw[mU z j]
  rw[DOT List.mem_cons_self]
  rw[DOT B2V]
theorem b0g(ns:QJ)(zs:DC)(z:Bool)(e:LqE):a1F AA7 (c6Q z e) (C73 e):=by
 cases z
 .exact T5 ns zs e
 .exact a1p ns zs e
theorem a2Q{ρ:JU}{c d:LLI}(h:a4v ρ c)(h':a4v ρ d):B9M (c++d):=λl a=>EBW (h l) (h' l)
theorem a4z(ns:QJ)(zs:DC):GP b Bool f LqR (UM b B8D (¬B8D)) (∃c∈c3r b f,a4v AA7 c)
 |b,CBA,h=>by
  obtain⟨p,i,h1,h2⟩:=DNJ x;obtain⟨q,j,a,d⟩:=DNJ y;rw[oZ g e (c3s (b:=b) (o:=o) rfl h2 d (AH2 b9N h h))];exact DX (ALH p i (ALH q j (AOJ c g))) (a2Q (a2Q h1 a) e)
 |true,B3C,h=>a4z ns zs false f h
 |false,B3C,h=>a4z ns zs true f (Classical.not_not.mp h)
 |true,.F,h=>h.elim
 |false,.F,_=>⟨[],D62,E21⟩
noncomputable def c6P:A6W->LqR->AK8
 |[],g=>c3r false g
 |C5W,g=>(c3r true f).flatMap λc=>nF c6P fs g (c++·)
noncomputable def b2I:DOC QJ
 |0,P=>P []
 |CB,P=>EHK Nat b2I
noncomputable def b2H:DOC DC
 |0,P=>P []
 |CB,P=>EHK Int b2H
theorem b9R{P:JN QJ}(h:DM9):∀n,b2I n P
 |0=>h []
 |CB=>E2T b9R
theorem b9Q{P:JN DC}(h:DM9):∀n,b2H n P
 |0=>h []
 |CB=>E2T b9Q
noncomputable def M5:Nat->Nat->tK LqE->A6W->DNW
 |0,c,_,rs=>(c,rs)
 |f+1,c,st,rs =>
  match A5C,st with
  |0,_=>(mB,rs)
  |1,st=>EKI C1E
  |2,DFE=>EKI (n*28+C1E)
  |3,eZ=>fY AKZ
  |4,eZ=>fY AL0
  |5,y::DFE=>fY ALO
  |5,A6T::y::st=>fY AOA
  |6,eZ=>fY BYU
  |7,eZ=>fY BYV
  |8,AR1=>fY (.c x)
  |9,AR1=>fY (.g x)
  |10,eZ=>C5I 0
  |11,eZ=>C5I 1
  |12,eZ=>C5I 2
  |13,eZ=>C5H 0
  |14,eZ=>C5H 1
  |15,eZ=>C5H 2
  |16,st=>(match rs with|C1M=>AU7 (.no r) | []=>(nA c))
  |17,st=>AU7 .F
  |18,AR1=>fY (.a x (.k 1))
  |i+19,st=>fY AKM
  |_,_=>(nA c)
noncomputable def c4Z(c:Nat):DNW:=M5 99 (EE3 mB CVP) [] []
noncomputable def c3m(c:Nat):A6W×LqR:=match (c4Z c).2 with|g::fs=>(fs.reverse,g) | []=>([],.F)
noncomputable def c3n(rows:LLI):Nat->Nat->DC->DC×Nat
 |0,c,s=>(s,c)
 |f+1,c,s=>if A5C=0 then(s,mB)else c3n rows f mB (a3E s (rows.getD D8A []))
noncomputable def c6O:A40 DC
 |[]=>false
 |fH=>CJ (a<0) && l.all (· == 0)
noncomputable def c3o(b0b:LLI):AK8->Nat->Bool
 |[],_=>true
 |C1M,c=>let p:=c3n (r++b0b) 99 c [];c6O (dS A5C 0 (r.foldl a3E []) CU) && c3o b0b rs IO
noncomputable def b0b(n:Nat):LLI:=AZ5 (b8l D5N)
noncomputable def c5a(c:Nat):Bool:=c3o (b0b DNV) (c6P DML DTT) (c4Z c).1
theorem c3l(ns:QJ)(zs:DC)(n:Nat):a4v AA7 (b0b n):=λl a=>by
 rw[dZ i AJQ];rw[a4A,a2P,BNR,A8A];exact Int.natCast_nonneg _
theorem b3p{ρ:JU}{rows:LLI}(h:B9M rows):∀(f c:Nat) (s:DC),EJ2->0<=J4 (c3n rows f c s).1 ρ
 |0,_,_,a=>a
 |f+1,c,s,a=>by
  rw[c3n];split
  .exact a
  .refine b3p h f _ _ ?_;rw[R3];rw[JZ Int.add_nonneg a];rw[List.getD_eq_getElem?_getD];cases e:rows[D8A]? with
   |none=>exact Int.le_refl 0
   |some l=>exact ML h l e
theorem b3u{ρ:JU}:∀(r:LLI),E50->∀s,EJ2->0<=J4 (r.foldl a3E s) ρ
 |[],_,_,h=>h
 |l::r,o,s,h=>b3u r (λx a=>o x wD) _ (AJ R3 (Int.add_nonneg h (o l List.mem_cons_self)))
theorem b9P:GP l DC ρ JU (EK l.all ((· == 0))) (J4 l ρ=0)
 |[],_,_=>rfl
 |fH,ρ,h=>by
  rw[List.all_cons,Bool.and_eq_true,beq_iff_eq]at h;rw[J4,CY,EJ8,Int.zero_mul];rfl
theorem c3p{ρ:JU}(h0:BAX):∀l,EK c6O l->AFE<0
 |[],h=>AVL
 |fH,h=>by
  rw[c6O,Bool.and_eq_true,decide_eq_true_eq]at h;rw[J4,h0,EJ8];omega
theorem b3t{ρ:JU}(h0:BAX){b0b:LLI}(b:B9M b0b):GP ls AK8 c Nat (c3o b0b ls c=true) (∀r∈ls,¬E50)
 |C1M,c,h,x,a,o=>by
  rw[DHS c3o];rw[A1N]
  .have h1:=c3p h0 _ CY;split at h1
   .rw[LF (b3u _ o [] (Int.le_refl 0))]
   .rw[LF (b3p (a2Q o b) 99 c [] (Int.le_refl 0))]
  .exact b3t h0 b rs _ EL x a o
noncomputable def c1p(c:Nat)(ns:QJ)(zs:DC):FC A6W LqR
 |[],g=>∀(_:E28:=by rw[OP]),BIY g
 |C5W,g=>B8D->EG2
noncomputable def c8Y(c:Nat):Prop:=b2I DNV λns=>b2H (EE3 0 C1E) λzs=>c1p c ns zs DML DTT
theorem b0f(c:Nat)(ns:QJ)(zs:DC):GP fs A6W g LqR ((E28->∀l∈c6P fs g,¬a4v AA7 l)) EG2
 |[],g,h=>λe=>Classical.byContradiction λn=>let ⟨l,hl,o⟩:=a4z ns zs false g n;h e l hl o
 |C5W,g,h=>λa=>let ⟨l,hl,o⟩:=a4z ns zs true f a
  b0f c ns zs fs g λe d hd o'=>h e _ (ALH l hl (AOJ d hd)) (a2Q o o')
theorem lq(c:Nat):c8Y c :=
 b9R (λns=>b9Q (λzs=>b0f c ns zs _ _ λh=>b3t rfl (c3l ns zs _) _ _ h) _) _
noncomputable def c6N:=AC 0xb3eb5166d937a68ddd889b932c75b48c89bc1c18c83fa377b498c6f6
noncomputable def b9e:=AC 0xa4ba10f8b9aaa23fe6745df3696
noncomputable def c8O:=AC 0x1dadce3b96adde22b20d5aecdd7fb9d583acac808b8357
noncomputable def c4Y:=AC 0x1165b1b3ce034b06367ef41c7896aedeb826db0b5a84e01b6d7
noncomputable def S6:=AC 144439500438
noncomputable def a3V:=AC 143959432150
noncomputable def c4X:=AC 0x2a496af476bacbb87d8aaea98e9bd7
noncomputable def c4W:=AC 0x2411bd36af6a4c89b31f33196
noncomputable def c4V:=AC 0x9f9415d05e925b361387d0d957
noncomputable def b3s:=AC 0x5a83856bc27217
noncomputable def c4U:=AC 0x5e20d502b831f110f5b5355e96
noncomputable def a3U:=AC 0x69c5bc76984c8a6865
noncomputable def c4T:=AC 0x47be9ef104752405c3e57d44ec8d5c03c7a8ad0709569a12a46d80e5
noncomputable def c4S:=AC 0x356a0bc591c1eb8f002acb4775b756
noncomputable def b0e:=AC 0x6baf40fc6e45beee945d6
noncomputable def c4R:=AC 84022310212842263
noncomputable def b8x:=AC 0x145201e96cf31d3fc0d7d8
noncomputable def b3r:=AC 4030852203478
noncomputable def b8o:=AC 0x35c99e4ab265aeecc3a202bd6
noncomputable def c4Q:=AC 0x7a12c98bd94c4b1d37eb07fcc72267
noncomputable def c4P:=AC 0x40c03c4e71f96fe215312af5b915bbd6
noncomputable def c4O:=AC 0xd6d31091ff5bea844357
noncomputable def c4N:=AC 0x119033b1dd71f9a50a135d7
noncomputable def c4M:=AC 0x1d8dc0517c7b2c43d6e3d57
noncomputable def a2O:=AC 0x2289b5b3c93a8b65
noncomputable def a1l:=AC 769280510573
noncomputable def b3q:=AC 0x20a633afe86eefd7
noncomputable def a0P:=AC 0x172b971a68aea17d7
noncomputable def b8n:=AC 0x9e5f5b26f203217
noncomputable def b8m:=AC 0x70f77092e797
noncomputable def b0d:=AC 0x5bc25c72379eb64cabd6
noncomputable def a8w:=AC 144888813974
noncomputable def a5A:=AC 0x25d7e66cf7d551d8
noncomputable def a5z:=AC 5175046550
noncomputable def b2g:=AC 0x110182f857a19eb4346957
noncomputable def b9M:=AC 0x1861cf47cc6858a413459854b3237
noncomputable def b9L:=AC 0xcef898c40917cea9d7d514f2a536f8595658182a8768
noncomputable def a5y:=AC 0x675856bd81d7
noncomputable def b9K:=AC 0x3f674193ba81ecdbf5bd61aae0ede
noncomputable def a3B:=AC 144900688438
noncomputable def b9J:=AC 0x18c7ff9581b164a5c0b58
noncomputable def b2f:=AC 0xb4da95e581797
noncomputable def b2e:=AC 0xbc72b1b687f8bfdcaa64d6
noncomputable def b9I:=AC 0x7f7eb796fb65
noncomputable def a1n:=AC 769325994333
noncomputable def b9H:=AC 0x46f57eb49b9d0268a6e
noncomputable def b9G:=AC 0x2998483403e854a4263542a6
noncomputable def b9F:=AC 0x5a894099a5cf96
noncomputable def a8v:=AC 0x69c5bc7698610e42a5
noncomputable def b9E:=AC 0x482873c8beffed6a3bacf50d7
noncomputable def b2d:=AC 0x182b90fcef282f9b4a75c027080e6
noncomputable def b2c:=AC 0x22a8bcca752f15d7
noncomputable def b9D:=AC 0x107789e8c0bdaed6
noncomputable def b2b:=AC 0x14be69a978ba0e7fb103aae0ede
noncomputable def b9C:=AC 0x9e702b8f4116236
noncomputable def b9B:=AC 0x44e9554cb418534f355cb7500b15be164b1d5abf11f17d70
noncomputable def b2a:=AC 4435037299254
noncomputable def b1Z:=AC 0x67aa0706d8d7
noncomputable def a5x:=AC 157452382614
noncomputable def a1m:=AC 0x25d403fe3fab12a6
noncomputable def b9A:=AC 0x5a802defbfbd25
noncomputable def b9z:=AC 0xca63c6d13e45b6b12a6
noncomputable def a8u:=AC 0x800e5f2d166d
noncomputable def b9y:=AC 0x13c5d0795e2eba0dc8226
noncomputable def b9x:=AC 0x1e89567ef79c52acf6ec0e7119239
noncomputable def b1Y:=AC 0x16f807a4ef7ff25d7
noncomputable def b9w:=AC 0x245826cd69ebe073d9e4319c95d6
noncomputable def b9v:=AC 206570917141
noncomputable def b9u:=AC 0x236354bf47898caaae0ede
noncomputable def b9t:=AC 0x178fd825f76589bc673f558
noncomputable def a8t:=AC 0x16b5b582023af60fd5e3aa312a7
noncomputable def b9s:=AC 0x70f7709291d7
noncomputable def a0f:=AC 0x6cb97565e8327e160fbc80e6
noncomputable def a8s:=AC 0x172b97b4569533d57
noncomputable def a5w:=AC 0xb7c2afa073acae36
noncomputable def b1X:=AC 0x6c602aea18de2c7abaae0ede
noncomputable def b9r:=AC 0x3deab3264832f3522ae0ede
noncomputable def b9q:=AC 0xbfb09e935c0822f66ceabefd99
noncomputable def b9p:=AC 0x25e1be12b2e825d7
noncomputable def b9o:=AC 0x236354650b65a90eae0ede
noncomputable def b1W:=AC 21539854668445
noncomputable def b9n:=AC 0xa094c5a5635664e6918d6
noncomputable def b9m:=AC 0x1df6526e7032b02996
noncomputable def b1V:=AC 0x238079d3484c5f55c1de26
noncomputable def b9l:=AC 0x1ccf59f7ad1b835d7
noncomputable def a8r:=AC 0x839a5686ce36
noncomputable def b9k:=AC 0xa09421c7e155bf06b85d6
noncomputable def b9j:=AC 0x172d6e8e249bbe357
noncomputable def b9i:=AC 4435082775958
noncomputable def b9h:=AC 0x182b90fcef282f641173ae59c95d6
noncomputable def b9g:=AC 0x14be69751e0aff9ad45d6ae0ede
noncomputable def b9f:=AC 0x288f8178d1cb167d57
noncomputable def b9d:=AC 0x293bb7095db0e1eb3b119238
noncomputable def b1U:=AC 0x238079d3484c5f55bd8366
noncomputable def b9c:=AC 32118051910982
noncomputable def b9b:=AC 0x6c60235c09d8f0fe16ae0ede
noncomputable def b9a:=AC 0x346f0d4f75f31a08e6d
noncomputable def b1T:=AC 0x172b97b9735581397
noncomputable def W6:=AC 0x172d6f1d49958d957
noncomputable def b8Z:=AC 0x699d416caec397242aa682a6
noncomputable def b8Y:=AC 0xca65c96b0ddc318fb26
noncomputable def b8X:=AC 144439478486
noncomputable def b8W:=AC 158394231606
noncomputable def b8V:=AC 0xb985cdd2ad21fbb63a7
noncomputable def b8U:=AC 0x9eda9cec3cd6
noncomputable def b8T:=AC 0x67725e0ff625
noncomputable def a2v:=AC 769379053605
noncomputable def b8S:=AC 0x6cb974c83285df0e7ddc80e6
noncomputable def b1S:=AC 5406958829974
noncomputable def b8R:=AC 6557125
noncomputable def b8Q:=AC 0x6c602e27d5e02f6b32ae0ede
noncomputable def b8P:=AC 0x46fb2449b0f43d55ed7
noncomputable def a3A:=AC 97357957335552678
noncomputable def b1R:=AC 221527175382
noncomputable def b1Q:=AC 0x16f80705e67efa1d7
noncomputable def b8O:=AC 0xb208e33320b65
noncomputable def b8N:=AC 1147073325638
noncomputable def b8M:=AC 0x714920dc3e97
noncomputable def b8L:=AC 0x4d5c44b53a3ccfb65
noncomputable def b8K:=AC 0x14be665c1cb8a64a2d86eae0ede
noncomputable def b8J:=AC 0x73a90811be779b12a6
noncomputable def b8I:=AC 32118344927062
noncomputable def b1P:=AC 7171781
noncomputable def b8H:=AC 5029156809686
noncomputable def b1O:=AC 0x697483a900296e0edd
noncomputable def b8G:=AC 4412211399037
noncomputable def b1N:=AC 0x696e11a66fe76e0edd
noncomputable def a8q:=AC 21542665123925
noncomputable def a3z:=AC 27474311005
noncomputable def a8p:=AC 0x2289b5b3c93a35a5
noncomputable def a8o:=AC 0x3b8637485acc7304fa642a5
noncomputable def a2u:=AC 0xebc0913cf6236
noncomputable def b8F:=AC 0x89ad3f99645d
noncomputable def b8E:=AC 0x2d58e6067b736e696480e5
noncomputable def b8D:=AC 0x226c080b3c6523cd
noncomputable def a3y:=AC 0x69679fa3dfa56e0edd
noncomputable def b8C:=AC 0x20b2ce15d36a2125
noncomputable def b8B:=AC 0x69679fa3debf76a0ad
noncomputable def b1M:=AC 0x226afaa78d5523cd
noncomputable def b8A:=AC 32496130329686
noncomputable def b8z:=AC 0x1861d376767851fc6bb20b46480e6
noncomputable def b8y:=AC 0x839a558087f6
noncomputable def b1L:=AC 0x696ad8a527c66e0edd
noncomputable def b8w:=AC 0x6977bcaa484a6e0edd
noncomputable def b8v:=AC 0x143ed912b3244b604ace5
noncomputable def b8u:=AC 10091397
noncomputable def b8t:=AC 0x6901786fb26ce6d
noncomputable def b8s:=AC 0x4c8dc09a5dee596a5
noncomputable def b1K:=AC 0x20008c7bf484f1a4ff9a0c140a24edf02d25
noncomputable def b8r:=AC 0x226afaa958500dad
noncomputable def a8n:=AC 0x698e4bb341316e0edd
noncomputable def b1J:=AC 174587420
noncomputable def b1I:=AC 174585068
noncomputable def b8q:=AC 0xb7c3bd02eb9bfe6d
noncomputable def a8m:=AC 176429820
noncomputable def a8l:=AC 176433740
noncomputable def a3x:=AC 173971980
noncomputable def b1H:=AC 0x25a7241abb8523cd
noncomputable def b8p:=AC 177049180
noncomputable def b1G:=AC 175818300
noncomputable def a3w:=AC 173356540
noncomputable def a5v:=AC 175202860
noncomputable abbrev qA:=@List
noncomputable abbrev qB:=@PySem.Value
noncomputable abbrev qC:=@PySem.Shared
noncomputable abbrev qD:=@Option
noncomputable abbrev qE:=@PySem.Addr
noncomputable abbrev qF:=@PySem.W.Frag
noncomputable abbrev qG:=@PySem.Program
noncomputable abbrev qH:=FC PySem.Value PySem.Shared
noncomputable abbrev qI:=DC
noncomputable abbrev qJ:=Option Nat
local macro_rules|`(def $i:declId $b*:$t $v:declVal)=>`(theorem $i:declId $b*:$t $v:declVal)
noncomputable def L2.nd(l:qA PySem.Str)(h:l.Nodup:=by rw[OP]):l.Nodup:=h
namespace L2
open PySem PySem.Spec PyProof.Rows
variable {A:Around}{C a b dx:qE}{E Q:qH}{K:qF}{M:Model}{P:qG}{base h h':Heap}{body:IV}{c e l tg:Expr}{ch fp:EG}{es:BN}{f:EEE}{fd:FuncData}{i k n t':Nat}{kw:rA}{mA mg:AZ}{op:CmpOp}{qK:DA}{pl:kU}{pos:Pos}{ps:AB}{s:qC}{u:qB}{us:AI}{w:World}{x:Str}
noncomputable abbrev Key:=Sum Int Str
noncomputable def a7d:Key->qB->Bool
 |BW8,v=>Value.isInt k v
 |B29,v=>Value.isStrOf x v
noncomputable def c9o(w:World):Key->Int
 |BW8=>hashInt k
 |B29=>hashStr w x
def G4:∀{k:Key}{v:qB},a7d k v=true->(∃i t,k=Sum.inl i/\v=A77)∨(∃x t,k=Sum.inr x/\v=B6X)
 |CW i,v,h=>by
  rw[RP t (Value.isInt_shape (k:=i) (v:=v) h)];rw[MA (oB i t e)]
 |B29,v,h=>by
  rw[RP t (Value.isStrOf_shape (x:=x) (v:=v) h)];rw[QY (oB x t e)]
def b5e(i:Int)(t:Tok):EIF a7d:=xX a7d Value.isInt
def b5d(x:Str)(t:Tok):EIG a7d:=xX a7d Value.isStrOf
def c6X(a b:Int):B06 DVT a b:=by
 rw[GC a b]
 rw[BXE]
 .have h:¬DVT:=λq=>e (Sum.inl.inj q);rw[A6P];exact ZJ beq_eq_false_iff_ne.mpr e
def c6U(a b:Str):AMD DVU (a=b):=by
 rw[GC a b]
 rw[BXE]
 .have h:¬DVU:=λq=>e (Sum.inr.inj q);rw[A6P,AJS]
def c6W(a:Int)(b:Str):dF (CY1 Sum.inr):=DIO
def c6V(a:Str)(b:Int):dF (CY2 Sum.inl):=DIO
noncomputable def F3(prog:qG)(w:World):AD5 PySem.KeyKind Key where
 is:=a7d
 hash:=c9o w
 inj:=λv a b ha hb=>by
  rw[EWF ha]
  .rw[F4N]
   .rw[AU3 _];rw[e1]
   .exact A5H
  .rw[F4N]
   .exact A5H
   .rw[AU3 _];rw[e1]
 byValue:=λk v h=>by
  rcases G4 h with⟨i,t,rfl,rfl⟩|⟨x,t,rfl,rfl⟩<;>rfl
 pyHash:=λhv h=>by
  rw[AFG (G4 hv) i t rfl x t rfl]
  .exact wpAny_pyHash_int h
  .exact wpAny_pyHash_str h
 eqBool:=λhu hv h=>by
  rw[EWF hu]
  .rw[EXO]
   .rw[B3W c6X wpAny_eqBool_int]
   .rw[FF c6W h (WB (SeqAt.EqAt.int_str i t y u) h)]
  .rw[EXO]
   .rw[FF c6V h (WB (SeqAt.EqAt.str_int x t j u) h)]
   .rw[B3W c6U wpAny_eqBool_str]
 «strs»:=λk x t v h=>by
  rw[AFG (G4 h) i u e y u e]
  .exact A5H
  .rw[AU3 _]
   subst e1;cases v<;>rfl
def a9Y(prog:qG)(w:World)(i:Int)(t:Tok):EIF DVJ:=b5e i t
def a9X(prog:qG)(w:World)(x:Str)(t:Tok):EIG DVJ:=b5d x t
inductive V where
 |non|bl (b:Bool)|int (i:Int)|str (x:Str)|byt (b:D7S)|flt (b:UInt64)|ref (a:qE)|ty (n:String)
 deriving DecidableEq
variable {v:V}{vs xs:AA}
noncomputable def RelV:DT8
 |.non,u=>C5U
 |aC,u=>B3T b
 |NQ,u=>AR7 A77
 |TQ,u=>AR7 B6X
 |.byt b,u=>DG3 Value.bytes
 |.flt b,u=>DG3 Value.float
 |AV,u=>AQ8
 |.ty n,u=>E3S
noncomputable abbrev Vals:FC AA AI:=Paired RelV
def Vals.length{xs:AA}{us:AI}(r:aH):A39 us.length:=BXR
def Vals.get:∀{xs:AA}{us:AI}{i:Nat}{x:V},aH->aA->∃u,CP us u/\aV
 |_,_,_,_,.nil,e=>BP3
 |_,_,0,_,.cons r _,e=>by simp at e;rw[DQ];exact CD r
 |_,_,AR,x,B9N,e=>by
  rw[MB u h1 h2 (BF Vals.get i i x x t D82) u BNS h2]
def Vals.set{x:V}{u:qB}(r:aV):BTV i (Vals (xs.set i x) (us.set i u))
 |_,_,_,.nil=>.nil
 |_,_,0,B9N=>A9Y
 |_,_,AR,.cons q t=>.cons q (Vals.set r i t)
def Vals.append{ys:AA}{a:AI}(h:aH)(s:OU ys a):OU B02 (us++a):=by
 induction h with
 |nil=>exact s
 |cons r t b=>exact .cons r b
def Vals.take:EDV xs.take us.take
 |_,_,0,_=>.nil
 |_,_,aT,.nil=>.nil
 |_,_,CB,A9Y=>.cons r (Vals.take n t)
def Vals.drop:EDV xs.drop us.drop
 |_,_,0,r=>r
 |_,_,aT,.nil=>.nil
 |_,_,CB,B9N=>Vals.drop n t
noncomputable def RelO:FC eU LS
 |SK,AJK=>OH
 |none,none=>True
 |_,_=>False
noncomputable def KV{κ:Type}:FC KN A0W:=Paired λ(p:C7E) (q:κ×qB)=>CU=EB/\E5X
noncomputable def kV:Key->V
 |CW i=>NQ
 |B29=>TQ
inductive HO where
 |lst (xs:AA)
 |tup (xs:AA)
 |dK (qL:KM)|dT (qL:YD)
 |set (S:A40 Int) (n:Nat)
 |ins (C dx:qE) (fs:QF)
 |own (x:qE)
 |xd (fs:QF)
 |met (f x:qE)
 |rng (lo hi:Int)
 |frz (o:Obj) (u:HO)
 |tbl (ps:DB)
 |ext (φ:JN Heap)
variable {o:HO}
noncomputable abbrev Hp:=qE->BVM
variable {H H':Hp}
noncomputable def upd(H:Hp)(a:qE)(o:HO):Hp:=ENH a AHE
def A0:L1 H a o a o:=by rw[EY upd FU]
def A5(h:BWX):upd H a o b=H b:=by rw[EY upd bC]
def a2F{u:HO}:AK7 A97 u=A5S u:=by
 funext b;unfold upd;split<;>rfl
def L7{u:HO}(h:B5Z)(h':ATW)(d:o≠u):AMJ:=by
 intro e;rw[DQ];rw[FF h h' (d (Option.some.inj h'))]
def A7(h:B5Z)(h':LI):AMJ:=by
 intro e;rw[DQ];rw[AW h h' h']
noncomputable def IsTp(h:Heap)(a:qE)(items:DB):Prop:=∃o:Obj,QI/\(o.cls,o.dict)=(dC,none)/\∃n,o.data=CLA
def IsTp.tup{items:DB}(x:IsTp h a items):IsTup h a items:=let ⟨o,e,c,d⟩:=x;(rM e (congrArg Prod.fst c) d)
def IsTp.new(h:Heap)(items:DB):IsTp (h.push (cU items)) h.objs.size items:=E90
section
variable (P:qG)(w:World)
noncomputable def ObjOk(H:Hp)(h:Heap)(a:qE):JN HO
 |BNN=>aO/\∃(its:AI) (n:Nat),wV/\XJ AGP
 |B2M=>aO/\∃its:AI,wV/\IsTp h a its.toArray
 |B70=>CHJ
 |B71=>A5N/\A64/\∃xs:ANS,
   Paired (λ(p:WJ×V) (q:D27)=>ETE) qL xs /\
   ∃o es ep,QI/\o.ExactDict/\o.data=B92/\es.toList=xs.map (entryOfKey (tupleKind A50))/\C4G
 |E2Q=>h.SetOf D8W a S n
 |iG=>DQ1/\D8O/\C7J/\XJ C45 /\
   ∃mA,AOZ/\(CG0)/\DWR
 |.own _=>∃o,QI
 |DYJ=>∃mA,h.Ns1 a mA/\CG0
 |.rng lo hi=>∃t u v,XJ BK2
 |AX4=>QI/\ObjOk H h a u
 |.tbl ps=>DFL
 |.met f x=>XJ (C4V WR)
 |.ext φ=>φ h/\(∃o,QI)/\∀h1 h2:Heap,φ h1->(∀o,A3J h1.get?->A3J h2.get?)->φ h2
noncomputable def HOk(H:Hp)(h:Heap):Prop:=∀a o,B5Z->B7K
#where
def ObjOk.lt(x:B7K):B6I:=by
 cases o with
 |lst xs=>rw[DZX];rw[fR]
 |tup xs=>rw[BUI p];exact p.tup.lt
 |dK qL=>rw[BBM];rw[fR]
 |dT qL=>rw[BBM];rw[fR]
 |set S n=>rw[EHP];rw[fR]
 |ins C dx fs=>rw[DZY];rw[fR]
 |own y=>obtain⟨_,e⟩:=x;rw[fR]
 |xd fs=>rw[DZZ];rw[fR]
 |rng lo hi=>rw[BUI e];rw[fR]
 |frz ob u=>obtain⟨e,_⟩:=x;rw[fR]
 |tbl ps=>rw[EQB]
 |met f y=>rw[EQB]
 |ext φ=>obtain⟨_,⟨_,e⟩,_⟩:=x;rw[fR]
def Paired.mapP{α β:Type}{F G:FC α β}{l₁:DI}{l₂:A7W}(h:Paired F l₁ l₂)(f:∀a b,F a b->G a b):Paired G l₁ l₂:=by
 induction h with
 |nil=>rw[AFN]
 |cons r t c=>exact .cons (AH f r) c
def ObjOk.stay(x:B7K)(k:BM3 ((b=a∨DQ0)))
  (i:∀b,DQ0->tR b .own a) (j:CFW):AOL H' h' a o:=by
 induction o with
 |lst xs=>rw[BCI x];rw[EO z its n r eR]
 |tup xs=>obtain⟨z,its,r,g,e,c⟩:=x;rw[ID z its r g eR c]
 |dK qL=>rw[F70 vs vs r]
 |dT qL =>
  rw[F70 xs xs (ET2 p q (AH j z.2.1))]
 |set S n=>obtain⟨g,es,ep,t,e,c⟩:=x;rw[ID g es ep t eR c]
 |ins C dx fs =>
  obtain⟨d,z,ne,e,mA,⟨od,es,ep,e2,c⟩,r⟩:=x;exact⟨i _ d,z,ne,eR,mA,CE8 (AM k (DH d) e2) c,r⟩
 |own y=>rw[HN g e x g eR]
 |xd fs=>obtain⟨mA,⟨od,es,ep,e,c⟩,r⟩:=x;rw[AX mA (CE8 eR c) r]
 |rng lo hi=>obtain⟨t,u,v,e⟩:=x;rw[FJ t u v eR]
 |frz g u l=>rw[HN e q x eR (l q)]
 |tbl ps =>
  rw[EUC DFL D0U]
 |met f y =>
  rw[EUC (XJ (C4V (AK y))) (C4V (AK y))]
 |ext φ=>obtain⟨p,⟨o,e⟩,st⟩:=x;rw[AX (AH st p λo q=>AM k HK q) (iK eR) st]
def HOk.lt(x:TW)(e:B5Z):B6I:=(x a o e).lt
def HOk.fresh(x:TW)(e:C1K):A01:=by
 cases q:H a with
 |none=>rfl
 |some u=>exact sV (Nat.lt_of_lt_of_le (x.lt q) e)
def HOk.kept(x:TW)(k:B8H):AQM h':=λa o e =>
 BSI x (TC _ q BAB) BME λ_ _ q=>q
def HOk.laid(x:TW)(k:B8H)(hp:C1K)(new:AOL A97 h' a o):AB9 A97 h':=jX (by
 have f:=x.fresh hp;rw[VT d a]
 .subst d;rw[HM A0];exact new
 .rw[A5 d]at e;exact AGN x u (λc v _ q=>k c v q) (λc q=>B60 f) λc xs q=>B60 f)
noncomputable def Rd(H:Hp)(a:qE)(u:HO):Prop:=cQ u∨∃o,cQ AX4
def Rd.ok{u:HO}(r:CAT)(x:TW):AFK u:=by
 rcases r with r|⟨o,r⟩
 .exact x a u r
 .obtain⟨_,q⟩:=x a _ r;exact q
noncomputable def Mut:JN BVM
 |AJC .lst=>True
 |AJC .dK=>True
 |AJC .dT=>True
 |AU (BX .set)=>True
 |AU (iF .ins)=>True
 |AJC .ext=>True
 |_=>False
section
variable {x e:qE}{o':HO}
def HOk.write(ok:TW)(j:CAO)(m:CF2)(k:DNE)(l:CFF)
  (new:AOL DP7 h' x o'):AB9 DP7 h':=UY u (by
 have d:∀c y,AE7 c y->c≠x:=EUP y
 have f:∀c xs,B39 c->c≠x:=EUP xs
 rw[VT g x]
 .subst g;rw[A32 A0];exact new
 .rw[A5 g]at q;rw[VT a e]
  .have q':AE7 b x:=by
    rw[CA m]
    .exact pA a.trans z g
    .rw[AE a z]
   rw[AW q q' q'];rw[HN v n l v (AJ a n)]
  .refine(ok b u q).stay (λc v i r=>k c v ?_ r) (λc r=>JM (d c b r) r) λc xs r=>JM (f c xs r) r
   rw[cH i i]
   .exact a
   .rw[PJ];rw[CA m]
    .exact d c b i z
    .rw[iX i];exact g rfl)
#where
structure Un(fs ex:EG)(H H':Hp)(h h':Heap):Prop where
 keep:EF0 (b∉fs) AJR
 slot:EF0 DCT DXK
 free:B44 QD LI AYU jF
 there:tU QD AYU DX8
 tups:CFW
 frzs:F01
 tbls:ETJ
section
variable {fs fs' ex ex':EG}{H1 H2:Hp}{h1 h2:Heap}{x e:qE}
def Un.any(u:BMT H1 h1){a:Obj}(q:YU h.get? a)(n:LI)(d:AYU):∃sl,YU h1.get? {a with slots:=sl}:=by
 rw[XT DCT]
 .exact EZ9 u.slot
 .rw[AY a.slots (EZ9 u.keep)]
def Un.kept(k:B8H):C78 H :=
 ⟨BBA a CCB,BBA a ⟨a.slots,CCB⟩,λ_ _ _ n _=>n,λb a q _=>⟨a,CCB⟩,ATA q,RK _ q q,λ_ ps q=>C51 q⟩
def Un.refl:BMT H h:=Un.kept λ_ _ q=>q
def Un.laid(k:B8H)(hp:C1K)(c:A01):C78 A97 where
 keep:=BBA u BAB
 slot:=BBA u (D52 BAB)
 free:=ER4 (A5 (Nat.ne_of_lt (iE q hp)))
 there:=TC q _ ⟨u,BAB⟩
 tups:=UY xs (B60 c)
 frzs:=TC xs q (B60 c)
 tbls:=UY ps (C52 (mS q c) q)
def Un.write(c:CAO)(j:CF2)(k:DNE)(d:CFF):C78 C0K:=by
 have i:∀b,LI->AHK:=λb n z=>CWF n c c
 have g:∀b,LI->AHL:=λb n z=>by
  subst z;rcases j with r|r
  .exact i b n r
  .rw[AW n r r]
 have f:ACW ATW (¬Mut (some u)) AHK:=λb u q nm z=>by subst z;rw[q]at c;exact nm c
 refine⟨F1T EL7,F1T (D52 EL7),ER4 (A5 (i b n)),A92 q _,
  UY xs DJC,TC xs q DJC,UY ps (C52 (A5 D1X) q)⟩
 rw[VT a e]
 .subst a;exact d
 .rw[AY u (k b u a q)]
#where
noncomputable def trk(h:Heap)(H:Hp):EG:=BHP h.objs.size λa=>(H a).isSome
noncomputable def a8H(h:Heap)(H:Hp):Heap:=PySem.W.hideAll h (trk h H)
def b5n(h:Heap)(H:Hp):(a8H h H).objs.size=h.objs.size:=BX PySem.W.hideAll_size
def c0y{o:Obj}(e:QD)(n:LI):BW1 h :=
 PySem.W.hideAll_get _ e λa=>by
  have q:B1P H b:=DAW a;rw[n]at q;simp at q
def c3c{o:Obj}(e:BW1 h):QD/\LI:=by
 have e':QD:=PySem.W.of_hideAll CBS e;rw[IR e'];cases q:H b with
 |none=>rfl
 |some x =>
  have a:b∈CBS:=List.mem_filter.mpr ⟨BUZ List.mem_range.mpr e',IN q⟩;have z:FV (CS6 h) b:=PySem.W.hideAll_none CBS a;rw[HM z]
noncomputable def c4s(g h:Heap)(L:qE):DA:=C4K h.objs.size λa=>if a=L∨B1P g.get? a then none else(DJQ a (a,o))
noncomputable def rest(g h:Heap)(L d:qE):DA:=(cP (c4s g h L).filter p (CU≠d))
structure Mod(K:qF)(mg:AZ)(base:Heap):Prop where
 kin:C21
 glob:CNH
 blt:∃mb,base.Ns builtinsNs mb/\EGN mb
 nolimit:base.NoLimit
structure Cx where
 prog:qG
 w:World
 K:qF
 mg:AZ
 base:Heap
 A:Around
 N:AB
 s₀:qC
 H₀:Hp
 env:Env
 outer:HB
 stack:HB
 ex:EG
 fn:Str->Bool
 calm:Bool
 pn:DA
 xe:qH
variable {X:Cx}
noncomputable def frs(l:HB):EG:=l.filterMap (·.frame)
noncomputable abbrev Cx.fs(X:Cx):EG:=frs X.outer
noncomputable def Vis(sc:Scope)(x:Str):Prop:=CZ7 (CXO∨B2L sc.names.lookup)
noncomputable def Loc(sc:Scope)(x:Str):Prop:=DWQ
noncomputable def c9A(env:Env)(h:Heap)(m:AZ)(x:Str)(u:qB):Prop :=
 (ARX env.kindOf/\IY m u)∨((AFY env.kindOf∨B2L env.kindOf)/\∃c,BYG/\mM h.IsCell c u)
structure Cx.Ok(X:Cx):Prop where
 mod:EQ8
 kind:D4P X.env.scope.kind
 glob:X.env.globals=mainGlobals
 blt:X.env.builtins=builtinsNs
 above:AUE X.env.locals
 inj:CH7 A37 X.env.cells.lookup
 has:∀x,(AFY X.env.kindOf∨B2L X.env.kindOf)->∃c,A37
 cab:∀x c,BGQ->A37->X.s₀.heap.objs.size<=c
 hd:EH->KY X.A.handled
 frames:X.A.frames=some X.stack
 stk:X.stack=X.outer∨(X.stack=X.env::X.outer/\AO6)
 exf:ZD X.ex (AEZ/\AGM (c≠b))
 bs:B7E (D6Y/\DO9)
 bsz:X.base.objs.size<=X.s₀.heap.objs.size
 noex:B7E DAZ
 exfs:ZD X.ex B3P
 funs:X.s₀.heap.FunFrames X.base X.outer
 frf:ZD X.fs DO9
structure Inv(X:Cx)(qK:DA)(σ:AK3)(H:Hp)(s:qC):Prop where
 ok:X.Ok
 os:s.os=X.s₀.os
 bare:DEL
 base:Un X.fs X.ex X.H₀ H X.s₀.heap s.heap
 loc:∃m,DUK/\∀(i:Nat) (x:Str) (v:V),fB->B80->AMO->∃u,OH/\c9A X.env s.heap m x u
 cell:AGM (C9G s.heap.IsCell)
 free:EJ X.env.locals
 freeC:AGM (EJ c)
 pin:BJU F3L
 hok:D1W s.heap
 len:σ.length=X.N.length
section
variable {σ:AK3}
def Cx.Ok.nofr(ok:X.Ok){o:Obj}(e:HV X.base.get?):B3P:=λa=>by
 have:=(ok.funs.mem a).1;rw[CAU]
def Inv.bs(I:AN):B7E DSK:=λb o e =>
 ⟨I.base.keep b o C29 DPG (I.ok.nofr e) DBX,I.base.free b o C29 DPG DBX⟩
def Inv.bk(I:AN):B7E LA:=GW o (ADM I.bs)
def Inv.mod(I:AN):EQ8:=I.ok.mod
def Inv.kIn(I:AN):X.K.In s.heap:=I.ok.mod.kin.keeps I.bk
def Inv.lt(I:AN):mT X.env.locals:=let ⟨_,hn,_⟩:=I.loc;hn.lt
def Inv.sz(I:AN):AUE s.heap.objs.size:=Nat.le_trans I.ok.above (Nat.le_of_lt I.lt)
def Inv.nofs(I:AN)(h:DGN):a∉X.fs:=λb=>by
 rw[AY5 c (I.ok.funs.mem b)];exact sV (iE c (DB1 I.sz))
def Inv.cne(I:AN):C49 X.env.locals:=λx c e z=>by
 rw[EOA d];obtain⟨m,⟨o',es,ep,b,a,_⟩,_⟩:=I.loc;rw[cJ z b d d];rw[AW a hd hd]
def Inv.funs(I:AN):DMB X.outer:=by
 have all:∀(l:HB),CQ b AG3 DCU->X.s₀.heap.FunFrames X.base l->DH8 X.base:=by
  intro l;induction l with
  |nil=>intro _ _;trivial
  |cons env r m =>
   intro f h;obtain⟨g,⟨L,o,d,i,j,hd⟩,k⟩:=h;have a:L∈X.fs:=f L (by rw[ES9 List.mem_cons_self]);rw[RP sl (E2V (I.base.slot L o j (I.ok.frf L a) a) L)];rw[AX g ⟨L,_,d,i,e,hd⟩ (m (λb c=>f b (by rw[ES9 BWZ])) k)]
 exact all X.outer (λ_ c=>c) I.ok.funs
def Inv.stack(I:AN):DMB X.stack:=by
 rw[EHS a]
 .rw[AE e I.funs]
 .rw[e];rw[BUJ b I.loc];refine .cons (B15 I.ok.kind) a b ?_ I.funs;exact Heap.get?_none_of_le (CX4 I.ok.above)
def Inv.stkSub(I:AN):yL nG (X.env.locals::X.fs):=λb a=>by
 rw[EHS c]
 .rw[FF e a wD]
 .rw[e]at a;unfold frs at a;rw[jP List.filterMap_cons c a a]
def Inv.stkFree(I:AN):B42 LI:=λb a=>by
 rcases List.mem_cons.mp (I.stkSub b a)with e|a
 .rw[AE e I.free]
 .rw[AY5 ho (I.ok.funs.mem a)];exact E2V (I.base.free b o ho (I.ok.frf b a)) b
def Inv.step{g':eD}{d':Drawn}(I:AN)
  (g:CGR)
  (keep:EJS B3P AJR)
  (t:EJS DCU DXK) (free:B44 xM LA LI jF)
  (there:tU xM LA DX8)
  (D:CFW) (A:F01) (C:ETJ)
  (ns:∀m,DUK->CWJ h'.Ns) (E:C2G) (L:DEM) :
  F5R:=by
 have B:ATT X.s₀.heap.get? AEZ:=GW o (ATC (iE e I.ok.above));have j:tU D6Y DAZ xM:=λb o e a w=>by
  rcases(g b w).1 with z|z
  .exact a z
  .exact sV (iE e z)
 have f:AGM (∀v,s.heap.IsCell c v->h'.IsCell c v):=λx c e v (PK y hd)=>by
  have h:c∉ch:=EYV;by_cases G:c∈X.fs
  .rw[aJ sl (F4R t)];exact DX q hd
  .rw[AX o (F4R keep) hd]
 refine⟨I.ok,I.os,L,⟨E8H,E8H,BB6 n a,A3G e a,AG4 (D b xs (I.base.tups b xs e)),JL xs e (A b o xs (gP I.base.frzs xs)),B7R⟩,?_,B8G,?_,B8G,pN J,E,I.len⟩
 .exact keep b o DBY w BQC (B5X w a) DY2
 .obtain⟨sl,e1⟩:=BPA w a;rw[HN F e2 (t b _ DBY w BQC e1 DY2) F e2]
 rw[EPY (EAS free (ZV I.base.free n a))]
 rw[EPY (EAS there)]
 .obtain⟨m1,e1⟩:=BO6 I.base.tbls;rw[HN M e2 (C b _ e1) (m1++M) (NG e2 Array.append_assoc)]
 .rw[C7I hn hl];rw[DV m (ns m hn) (ER3 K)];rw[XU r l (hl i x v e1 e2 K)];rw[DV u r ?_];rcases l with l|⟨k,c,e,z⟩
  rw[GE l]
  rw[CAJ (EW8 _)]
 .rw[HN v z BP8 v (EW8 v)]
 .obtain⟨m,⟨o,_,_,y,_⟩,_⟩:=I.loc;exact free _ o (DTC g) y I.free
 .rw[EOA y];exact free c o EYV y (iW I.freeC)
 .rw[BCV J];have h:CU∉ch:=λz=>pI ((g CU z)) p J rfl;rw[EO (keep CU IO ne nf h e n) (free CU IO h e n) ne nf d]
def Inv.un(I:AN)(u:BI1 X.fs [] h')(f:C2G):AC6 BIW:=by
 rw[F3Z g (u.any g I.free AL)];exact BTR (ch:=[]) RE (xS d _ n (vX u.keep d AL)) (xS d _ n (vX u.slot d AL)) (λb o _ e n=>u.free b o e n AL) (JL _ e (ZV u.there AL)) u.tups u.frzs u.tbls (λk i=>by
  obtain⟨o',es',c,a,j⟩:=i;rw[AW g a a];rw[EO _ es' c h j]) f I.bare
def Inv.call{g':eD}{d':Drawn}(I:AN)(u:BI1 nG ch h')(i:C2G)(l:DEM)
  (d:CGR) :
  F5R:=by
 rw[F3Z j (u.any j I.free λz=>BNK (d _ z))];exact I.step (ch:=ch) d (λb o h k a e n=>vX u.keep (λz=>(List.mem_cons.mp (I.stkSub b z)).elim h k) a) (xS _ a n (u.any e n a)) (λb o a e n=>D2M u.free) (JL a e (ZV u.there a)) u.tups u.frzs u.tbls (λv q=>by
  obtain⟨o',es',g,f,t⟩:=q;rw[AW j f f];rw[EO _ es' g h t]) i l
def Inv.turned{it:qE}(I:AN)(k:A31 BWY LA)(j:EJ it)(f:it≠X.env.locals)
  (h1:it∈X.ex∨AUE it) (h2:C49 it) (g:BJU (CU≠it)):D7B:=by
 have d:AME BWY:=DRY j
 refine BTR (ch:=[it]) (iB h) (DQQ CDA) (DQR CDA) (gA n n)
  (DU4 CDA) C8R E8Y (GW ps (C51 e)) (AJJ i) (jX ?_) I.bare
 .rw[RD e b it h]
  rw[DQ];rw[FJ h1 f h2 g]
 .rw[xE es ep ho r i];rw[CGQ (Ne.symm f)]
 .rw[CFU u DXJ];rw[CA a]
  .rw[AE z (AG2 d)]
  .exact d c _ z
def Inv.tok(I:AN)(t:Nat):gB (A27 t):=BF I.un h' s.heap t' t Un.refl I.hok
def Inv.kept{t':Nat}(I:AN)(k:DLI):D7B:=I.un (Un.kept k) (I.hok.kept k)
def Inv.laid{a:qE}{o:HO}{t':Nat}(I:AN)(k:DLI)(hp:DGN)(new:ObjOk X.prog X.w A97 h' a o) :
  BVW A97:=I.un (Un.laid k hp (I.hok.fresh hp)) (I.hok.laid k hp new)
def Inv.write{x e:qE}{o:HO}{t':Nat}(I:AN)(d:CAO)(c:CF2)(k:ACW AHL BOK ARK)(a:CFF)
  (new:ObjOk X.prog X.w C0K h' x o):BVW C0K:=I.un (Un.write d c k a) (I.hok.write d c k a new)
def Inv.weak{σ':AK3}(I:AN)(hl:σ'.length=σ.length)(w:∀(i:Nat) v,DK7->B80):lI σ' H s :=
 (CMM I.ok (jK m hn hl' I.loc m hn (λi x v e1 e2 a=>hl' i x v e1 (w i v e2) a)) I.pin (hl.trans I.len))
def Inv.pins_of{pins':DA}(I:AN)(h:∀p∈pins',F3L):Inv X pins' σ H s :=
 COF I.ok (λp a=>EBW (λz=>AUN (aN z)) (h p))
def a5t{N:AB}(c:N.Nodup){j:Nat}(a:bY N)(b:wA N):jH:=by
 obtain⟨h1,e1⟩:=D6P;obtain⟨h2,e2⟩:=D7W;exact SN List.getElem_inj c (e1.trans e2.symm)
def a6L{Q:kO}(I:AN)(Y:X.N.Nodup)(hi:fB)(t:A9L)(r:OH)
  (h:∀s',C7U CC1->(∃a,CRQ s'.heap/\(a=X.env.locals∨A6U X.env.cells.lookup))->BJ4) (hf:AA1:=by rw[tE]):EQT:=by
 rw[ET m O Z id I.loc];rw[F0K F]
 rw[ERI]
 have cne:=I.cne;have g:∀{a:qE}{h':Heap},(∃o,DG8/\A01)->C8S->DXV:=λ{a h'} ha f b ob e=>by
  obtain⟨_,_,w⟩:=ha;rw[CFU ob (λc L l q=>VG XC c ?_ q)];rw[PJ];rw[cH l l]
  .rw[HM w]
  .rw[AW w l l]
 rcases t with B|B
 .refine wpAny_storeName_local B O (FH h' P f) F;obtain⟨oL,_,_,R,_⟩:=id O;refine h _ (F1I (DX P (CFR W N)) DLC ⟨oL,R,I.free⟩) (DX f HK)
  .exact AEP XC I.ok.above (B5X C t)
  rw[EPN I.ok.above]
  rw[EPM I.ok.above]
  .rw[A9T hj]
   rw[F3G (A24 B AL)]
   .rw[F53];rw[F3H]
    rw[F02 (y≠x) Y]
    rw[CAJ E6O]
  .rw[HN L z (AUV I.cell) L E6O]
  .rw[BCV S];rw[EO (DW0 ne) n ne nf d]
 .have hfn:BGQ:=by
   rw[CA hf]
   rw[OD]
   .rw[AW z B B]
  rw[AJ5 c l (I.ok.has x (.inl B)) L z (I.cell x c l)];refine wpAny_storeName_cell I.ok.kind B l z (FH h' D f);rw[ET oc G J id z];refine h UI (F1I ⟨m,O.sameBut f (Ne.symm (cne x c l)),CFR W N⟩ (vD y K) ⟨oc,G,I.freeC x c l⟩) (AY1 f (DH l))
  .exact AEP XC CFN (B5X C t)
  rw[EPN CFN]
  rw[EPM CFN]
  .rw[A9T hj]
   rw[F3G (A5P (CW B) c l D)]
   .rw[F53];rcases q with q|⟨k,K,e,z'⟩
    rw[GE q]
    .rw[iP ⟨k,K,e,z'.sameBut f ?_⟩];rw[PJ];exact hj (a5t Y e1 (A20 I.ok.inj e l ▸ hi))
  .rw[CS hcc K c]
   .subst hcc;exact ES D
   .rw[HN w2 z2 (I.cell y K e) w2 (z2.sameBut f hcc)]
  .rw[BCV S];refine⟨DW0 ?_,n,ne,nf,d⟩;intro q;rw[q,G]at e;have q':oc=IO:=BKM;exact d L (PU q' J)
def a2I{Q:kO}(I:AN)(b:X.N.Nodup)(hi:fB)(d:A9L)(r:OH)
  (h:B7Q (C7U CC1)) (c:AA1:=by rw[tE]):EQT :=
 EZB a6L (λs' a _=>h s' a)
def Inv.call'{s':qC}(I:AN)(i:BPC)(u:BM0 nG ch)(d:A13)(h:jM)
  (a:CGR):kZ:=by
 obtain⟨h',g,f,t',o'⟩:=s';have e:o'=s.os:=i;rw[pT (BF I.call g' g t' t' (d':=f) u d h a)]
#where
noncomputable abbrev XK:=qB->CPB
noncomputable abbrev St:=AK3
variable {σ:St}
noncomputable abbrev VK:=BWT
noncomputable abbrev TE:=St->A2F
variable {ta te:TE}
noncomputable abbrev TT:=B84 VU
noncomputable abbrev TA:=B84 vS
variable {t:TA}
structure Ends where
 nx:QT
 rt:VK
 bk:QT:=AI0
 ct:QT:=AI0
variable {D:Ends}
noncomputable abbrev TS:=Ends->QT
variable {tb:TS}
inductive EP(X:Cx)(qK:DA)(σ:St)(Q:VK)(u:qB)(s':qC):Prop
 |mk (v H':_) (_:kZ) (_:OH) (_:B2N):DLG
noncomputable def TP(X:Cx)(qK:DA)(σ:St)(Q:VU)(b:Bool)(s':qC):Prop:=∃H',kZ/\GL b
inductive AP(X:Cx)(qK:DA)(σ:St)(Q:vS)(us:AI)(s':qC):Prop
 |mk (vs H':_) (_:kZ) (_:A0C) (_:GL vs):AP X qK σ Q us s'
noncomputable def SP(X:Cx)(qK:DA)(D:Ends)(f:Flow)(s':qC):Prop :=
 match f with
 |.next=>C5R D.nx
 |.brk=>C5R D.bk
 |.cont=>C5R D.ct
 |.ret u=>∃v σ' H',BGZ/\OH/\D.rt v H'
noncomputable def PE(X:Cx)(e:Expr)(t:TE):Prop :=
 AEQ Q VK (B5I (aW bR))
noncomputable def PT(X:Cx)(e:Expr)(t:TT):Prop :=
 AEQ Q VU (B5I (ECP bR))
noncomputable def PW(X:Cx)(e:Expr)(t:TT):Prop :=
 BTZ whole AWF Q VU (B5I (ECP whole))
def PW.pt{t:TT}(h:DKX):DKW:=h _
noncomputable def PA(X:Cx)(es:BN)(t:TA):Prop :=
 BTZ pos Pos Q vS (B5I (ABY (BU2 DIM) AP))
noncomputable def PS(X:Cx)(st:Stmt)(t:TS):Prop :=
 ELX (lH exec st)
noncomputable def PSs(X:Cx)(st:IV)(t:TS):Prop :=
 ELX (CUG st)
def thn{α:Type}{t:BZY}{Q b:B2Z}(h:DEE)(c:ENO):E9O:=eS h c
section
inductive tVar(i:Nat)(σ:St)(H:Hp)(Q:VK):Prop
 |mk (v:_) (_:B80) (_:AL5):kT tVar i
noncomputable def tC(v:V):TE:=WC _ AL5
def b7n(g:fB)(o:AMO)(hd:GH:=by decide)(d:CAH:=by decide):DOJ:=by
 rw[LC];rw[aM v h h];rw[C7I n j];rw[XU r l (j i x v g e o)];have fin:nZ u s:=CCF;rcases l with⟨b,k⟩|⟨b,c,f,a⟩
 rw[CAA (wpAny_loadName_local I.ok.kind b n k fin)]
 .rcases b with b|b
  rw[CAA (wpAny_loadName_cell I.ok.kind b f a fin)]
  rw[CAA (wpAny_loadName_free I.ok.kind b f a fin d)]
def c6i{i j pos}:BA1 NQ (C0T .int):=EDB wpAny_Constant_int NQ
def c8C{b j pos}:BA1 B2D (tC (.bl b)):=DQV Constant_bool aC
def c6g{j pos}:BA1 .none DM1:=DQV Constant_none .non
def c6e{x j pos}:BA1 TQ E4Q:=EDB Calls.Constant_str TQ
noncomputable def Gl(X:Cx)(x:Str):Prop:=IY X.env.kindOf .globalImplicit
def L3(I:AN)(a:MM)(b:C40)(h:MK u)
  (hd:GH:=by decide):DLX :=
 Calls.Name_function_global I.ok.kind a (Calls.loadGlobal_global EEW b h) hd
def a2w(I:AN)(a:MM)(b:AKX)(d:C3Z)(h:MK u)
  (c:A7D:=by decide) (hd:GH:=by decide):DLX:=by
 rw[kI h1 h2 I.mod.blt];exact Calls.Name_function_global I.ok.kind a (Calls.loadGlobal_builtin EEW b (HG I.ok.blt h1.keeps I.bk) (VG h2 x c d) h) hd
def c2E(a:MM)(b:C40)(r:OH)(hd:GH:=by decide):DOK :=
 AXT (L3 I a b CCF hd)
def c2J(a:MM)(b:AKX)(d:C3Z)(r:OH)(c:A7D:=by decide)(hd:GH:=by decide):DOK :=
 AXT (a2w I a b d CCF c hd)
variable {a b:Expr}{tb:TE}
noncomputable def PC(X:Cx)(op:CmpOp)(a b:Expr)(t:TE):Prop :=
 B8L VK (AV7 ->
  F0W (compareOp op v u) BOV)
inductive tBI(Q:VU)(x:V)(H1:Hp):Prop
 |mk (c:_) (_:B90) (_:Q c H1):CB5 tBI
noncomputable def tB(t:TE):TT:=B9V t tBI
def c6k{t:TE}(h:EWN)(h1:AMW:=by rw[EYC]):DY B4T t:=APE Q hw (wpAny_Compare1 (B56 Q I hw) h1)
def b6U{t:TE}(h:EWN)(h1:AMW:=by rw[EYC]):iO B4T (tB t):=by
 rw[lM Q hw];refine wpAny_isTrue_Compare1 (thn E35 λv s1 h1=>thn h1 λu i h2=>GU h2 c j g) h1;rw[kB e f g];rw[GN d q q1];rw[C7H f H1 e q]
variable {tA tB':TT}{rest:BN}
noncomputable def c8o(t u:TT):TT:=B6Z (C3M u (Q false H1))
noncomputable def tOr(t u:TT):TT:=B6Z (UW c (Q true H1) (AWU u))
noncomputable def c8j(t:TT):TT:=B6Z DKO
def pw_and1(b:ANN):C54 KJ tA:=by
 rw[F30 isTrue_and];cases c with
 |true=>exact isTrue_and_nil e
 |false=>exact e
def pw_or1(b:ANN):C55 KJ tA:=by
 rw[F30 isTrue_or];cases c with
 |false=>exact isTrue_or_nil e
 |true=>exact e
def pw_and(e:ANN)(f:C54 iD tB'):C54 yQ (c8o tA tB'):=by
 rw[F4T isTrue_and];cases c with
 |true=>rw[F47]
 |false=>rw[AX H1 d q1]
def pw_or(e:ANN)(f:C55 iD tB'):C55 yQ (tOr tA tB'):=by
 rw[F4T isTrue_or];cases c with
 |true=>rw[AX H1 d q1]
 |false=>rw[F47]
def c5R(b:ANN):iO DR7 DYK:=by
 rw[B43 isTrue_not (cW b (λc H1=>DKO) I h)]
inductive tAndVI(tb:TE)(σ:St)(Q:VK)(x:V)(H1:Hp):Prop
 |mk (c:_) (_:B90) (_:C3M tb (A06 false H1)):EYN tAndVI
noncomputable def c4z(ta tb:TE):TE:=F24 tAndVI
inductive tOrVI(tb:TE)(σ:St)(Q:VK)(x:V)(H1:Hp):Prop
 |mk (c:_) (_:B90) (_:UW c (A06 true H1) (AWU tb)):EYN tOrVI
noncomputable def c8i(ta tb:TE):TE:=F24 tOrVI
inductive tNotVI(Q:VK)(x:V)(H1:Hp):Prop
 |mk (c:_) (_:B90) (_:A06 (! c) H1):CB5 tNotVI
noncomputable def c9I(ta:TE):TE:=B9V ta tNotVI
def c6f{op}{t:TE}(h:DY a t):ALT op KJ t:=APE Q hw (BoolOp_one (B56 Q I hw))
def c6n(e:VX)(f:ALT .And iD tb):ALT .And yQ DR3:=by
 rw[F65 BoolOp_and];cases c with
 |true=>exact VP f Q d q1
 |false=>exact FY DEN H1 d q1
def c8A(e:VX)(f:ALT .Or iD tb):ALT .Or yQ DR4:=by
 rw[F65 BoolOp_or];cases c with
 |false=>exact VP f Q d q1
 |true=>exact FY CJJ H1 d q1
noncomputable def tIf(t:TT)(ta tb:TE):TE:=B6Z (C3M ta (AWU tb))
def b7r(i:iO c tA)(f:VX)(g:sW):DY DX1 E3F:=by
 rw[AW8 wpAny_IfExp (uD i d j)];rw[aM H1 q1 j];cases d with
 |true=>exact VP f Q e q1
 |false=>exact VP g Q e q1
#where
noncomputable def SqL(K:qF)(H:Hp)(a:qE)(xs:AA):Prop :=
 Rd H a (.lst xs) ∨
  F1U (DG9/\AEJ "list"/\B38/\o.data=DE3/\D6A/\E29)
noncomputable def SqT(K:qF)(H:Hp)(a:qE)(xs:AA):Prop :=
 Rd H a (.tup xs) ∨
  F1U (DG9/\DIL/\o.data=DE3/\D6A/\E29)
noncomputable def c9y:qB->eU
 |.none=>AU .non
 |B2D=>BV .bl b
 |CA6=>FP i
 |E1F=>C1P
 |.bytes b _=>BV .byt b
 |.float b _=>BV .flt b
 |AV=>ZL
 |LP n=>BV .ty n
 |_=>none
def RelV.abs{x:V}(r:aV):BW c9y u x:=by
 cases x with
 |non=>rw[A0Q]
 |bl _=>rw[A0Q]
 |int _=>rw[A9K]
 |str _=>rw[A9K]
 |byt _=>rw[A9K]
 |flt _=>rw[A9K]
 |ref _=>rw[A0Q]
 |ty _=>rw[A0Q]
def RelV.inj{x y:V}{u:qB}(r:aV)(q:LJ):x=y:=D5C r.abs.symm.trans q.abs
def Vals.inj{xs ys:AA}{us:AI}(h:aH)(h':A8W):B6U:=by
 induction h generalizing ys with
 |nil=>cases h';rfl
 |cons r t a=>cases h' with|cons r' t'=>rw[r.inj r',a t']
section
variable {ys:AA}
def SqL.of(h:uQ a):fK:=xK h
def SqT.of(h:A0J):bG:=xK h
def Inv.list(I:AN)(h:DX4):DXN PlainL:=by
 rcases h with h|⟨o,its,n,c,b,hd,d,f,r⟩
 .rw[BCI (h.ok I.hok)];rw[FJ its r (IZ n e rfl rfl rfl) z]
 rw[F4J ⟨o,n,EF3,b,hd,AJY⟩]
def Inv.tuple(I:AN)(h:DQF):DXN IsTup:=by
 rcases h with h|⟨o,its,n,c,b,d,f,r⟩
 .rw[EC z its r p h.ok I.hok];rw[FJ its r p.tup z]
 rw[F4J ⟨o,EF3,b,n,AJY⟩]
def Inv.list_inj(I:AN)(h:DX4)(h':D08 ys):B6U:=by
 obtain⟨its,r,⟨o,n,e,_,_,d⟩,_⟩:=D77;obtain⟨b,f,⟨o',g,e',_,_,c⟩,_⟩:=I.list h';rw[EXW]
 rw[EQQ]
 rw[EFG]
def Inv.tuple_inj(I:AN)(h:DQF)(h':A7B a ys):B6U:=by
 obtain⟨its,r,⟨o,e,_,n,d⟩,_⟩:=D78;obtain⟨b,f,⟨o',e',_,g,c⟩,_⟩:=I.tuple h';rw[EXW]
 rw[EQQ]
 rw[EFG]
#where
noncomputable abbrev Cx.wish(X:Cx)(E:qH):Cx:={X with xe:=E}
noncomputable abbrev Cx.nox(X:Cx):Cx:=X.wish λ_ _=>False
def Cx.Ok.wish(ok:X.Ok)(E:qH):EIB :=
 F7U
def Cx.Ok.unwish(ok:EIB):X.Ok :=
 F7U
def Inv.wish(I:AN)(E:qH):DS1:=B98 (I.ok.wish E)
def Inv.unwish(I:DS1):AN:=B98 I.ok.unwish
def SP.unwish{D:Ends}{f:Flow}{s':qC}(h:SP CWV qK D f s'):COD f:=by
 cases f with
 |next=>rw[CGZ]
 |brk=>rw[CGZ]
 |cont=>rw[CGZ]
 |ret u=>rw[EQW I r];rw[ID v σ' H' I.unwish r q]
def PSs.nox{st:IV}{t:TS}(h:E37 PSs):DKY:=λqK s σ H D I hw =>
 EW0 B56
section
variable {st:Stmt}{rest:IV}{t u:TS}
noncomputable def c4u:TS:=A3I AD1
noncomputable def c1A(t u:TS):TS:=A3I DMR
def c2g:PSs X [] c4u:=ELU (D4F C8T)
def b6W(h1:C4N)(h2:PSs X rest u):PSs X (A2G st) (c1A t u):=by
 rw[EZH D1K];cases f with
 |next =>
  obtain⟨σ',H',a,q⟩:=q;exact h2 qK s1 σ' H' D a q
 |ret v=>exact q
 |brk=>exact q
 |cont=>exact q
def c2f(h1:C4N):PSs X [st] t:=by
 rw[EZH D];cases f with
 |next=>rw[A7X q]
 |ret v=>exact q
 |brk=>exact q
 |cont=>exact q
noncomputable def b6v:TS:=A3I (D.bk σ H)
def b7b:EJ9 PS:=ELU (wpAny_Break C8T)
def Inv.quiet(I:AN):OS interactive X.env:=xX interactive I.ok.kind
noncomputable def c4v(te:TE):TS:=yX te _ DDP
def c2i(b:sR)(c:B67 e:=by rfl):PS X E44 (c4v te):=by
 rw[dD];exact wpAny_Expr_any (A1E b a d (dY H1 a q1)) I.quiet c
noncomputable def c5A(te:TE):TS:=A3I (ZG te D.rt)
def c5T(b:sR):PS X DXR (c5A te):=by
 rw[dD];exact wpAny_Return_some (A1E b a c ⟨x,σ,H1,a,c,q1⟩)
noncomputable def c9H:TS:=λD _ H=>D.rt .non H
noncomputable def c8k(c:TT)(t u:TS):TS:=yX c b (UW b (t D σ H1) (u D σ H1))
def c8x{a b:IV}{tc:TT}(i:DUL)(f:PSs X a t)(g:PSs X b u):PS X (D06 .If) (c8k tc t u):=by
 rw[dD];refine wpAny_If (uD i d j);rw[aM H1 q1 j];cases d with
 |true=>exact VP f D e q1
 |false=>exact VP g D e q1
#where
noncomputable abbrev TG:=V->St->DI8
noncomputable abbrev TGs:=AA->St->DI8
noncomputable def PG(X:Cx)(target:Expr)(t:TG):Prop :=
 API v V u qB QT OH (kT t v ->
  UO (assign target X.env u) E85)
noncomputable def PGs(X:Cx)(ts:BN)(t:TGs):Prop :=
 API vs AA us AI QT A0C (kT t vs ->
  UO ((assignInOrder ((assignEach ts X.env).map (·.2)) us)) E85)
noncomputable abbrev c1o:=V->V->V->AED DCF
noncomputable def c7Q(X:Cx)(t:c1o):Prop :=
 ∀(qK:DA) (s:qC) (σ:St) (H:Hp) (o i v:V) (ov iv u:qB) (Q:DCF),AN->E5N->E1N->OH->EVD t ->
  UO (setItem ov iv u) (λ_ s'=>∃H',kZ/\Q H')
noncomputable abbrev TIp:=AMB
noncomputable def PIp(X:Cx)(op:Operator)(t:TIp):Prop :=
 F1M (YJ t ->
  aW (inplaceOp op v u))
noncomputable def B1(i:Nat):TG:=λv σ H Q=>Q CC1 H
def c2C(b:X.N.Nodup)(hi:fB)(d:A9L)(c:AA1:=by rw[tE]):E0Q PG:=by
 rw[ZE v u r];exact wpAny_assign_Name (EZB a2I (λs' a=>KS H a h))
noncomputable def b2q:TGs:=λvs σ H Q=>BWL/\Q σ H
inductive gCons(t:TG)(u:TGs)(vs:AA)(σ:St)(H:Hp)(Q:QT):Prop
 |mk (v r:_) (_:vs=v::r) (_:OY t v λσ' H'=>u r σ' H' Q):gCons t u vs σ H Q
def c2A:PGs X [] b2q:=by
 rw[ZE vs a r];rw[dU e h];rw[DQ];cases r;exact assignInOrder_nil C8T
def b7m{t:TG}{u:TGs}(h1:AW1 PG)(h2:PGs X es u)
  (b:EPS:=by rfl):DMD PGs t:=by
 rw[ZE vs d r];rw[T6 v f e1 h];subst e1;cases r with
 |cons r rr =>
  rw[b];refine assignInOrder_cons (GU (cW h1 _ _ _ I r h) _ s1 c);obtain⟨σ1,H1,a,q1⟩:=c;exact h2 qK s1 σ1 H1 _ _ Q a rr q1
inductive gTup(K:qF)(n:Nat)(t:TGs)(v:V)(σ:St)(H:Hp)(Q:QT):Prop
 |mk (a xs:_) (_:AGC) (_:bG) (_:xs.length=n) (_:kT t xs):ZG (gTup K n t v) Q
def c6a{t:TGs}(g:EH)(h:DOQ)
  (j:CFS:=by rfl) (c:CH4:=by rfl):EQN (gTup X.K n t):=by
 intro qK s σ H v u Q I r hw;obtain⟨a,xs,e1,l,i,hw⟩:=hw;subst e1;cases r;rw[MC d m q I.tuple l];refine assign_Tuple_tuple DA0 m (by simp[j,<-i,d.length]) c λh' p=>?_;have f:AYC:=I.kept (t':=s.toks) λb o e=>gP p AIK;exact E7E H xs _ Q f AJY hw
noncomputable def c8W(to ti:TE)(t:c1o):TG:=λv σ H Q=>ZA to o (VF ti i (t o i v H2 λH3=>Q σ H3))
def c6b{o i:Expr}{to d:TE}{t:c1o}(l:A0O)(hi:DY i d)(m:c7Q X t)
  (k:F2R (do
   let a <-holding [v] (eval o X.env)
   let b <-holding [v,a] (eval i X.env)
   standAt pos
   holding [v,a,b] (setItem a b v)
   release [v,a,b] []):=by rw[fU]):A2D PG .Subscript o i (c8W to d t):=by
 rw[ZE v u r];rw[k];rw[AFW (uD l a c)];rw[kB f q c];rw[AFW (C4P f b z c)];obtain⟨y,H2,g,w,n⟩:=c;rw[OR wpAny_standAt (DST (GU (AE8 m z x y v a b u _ g q w r n) _ A c))];rw[kI j p c];exact wpAny_release (dY e j p)
noncomputable def b1a(te:TE)(g:TG):TS:=yX te x (ECI D.nx)
def c5W{g:TG}(b:sR)(c:DQJ)(d:EL2:=by rfl)(hw:EZ3:=by rfl)
  (h1:EDS:=by rfl):ADV PS tg e CBT:=by
 rw[dD];refine wpAny_Assign_stores (AWO b) d hw;rw[kB a f i];rw[AE h1 (thn (VP c x v _ a f q1) λ_ j q=>q)]
def c5S{pos':Pos}(c:X.N.Nodup)(hi:fB)(j:A9L)(d:sR)(g:E8E:=by rfl)(f:AA1:=by rw[tE]) :
  ADV PS BOH e DRQ:=by
 rw[AI2 wpAny_Assign_Name (nU d l) g];obtain⟨y,H1,a,k,q1⟩:=l;exact a2I a c hi j k (λm b=>KS H1 b q1) f
noncomputable def c4y(to ti te:TE)(tget:AMB)(tip:TIp)(tset:c1o):TS:=yX to o (VF ti i (tget o i H2 λx H3=>te σ H3 λy H4=>tip x y H4 λz H5=>tset o i z H5 λH6=>mR H6))
noncomputable def c7R(X:Cx)(t:AMB):Prop :=
 D4D o i ov iv (AN->E5N->E1N->t o i H Q ->
  aW (getItem ov iv))
def c2k{o i:Expr}{to m:TE}{b:AMB}{g:TIp}{c:c1o}{op:Operator}{tpos:Pos}(G:A0O)(hi:DY i m)(F:c7R X b)(E:sR)(hp:PIp X op g)(J:c7Q X c)
  (C:∀f d new,augStore i f d new=(do holding [new,f,d] (setItem f d new);release [new,f,d] [];pure .next):=by intros;rfl):PS X (ELC op) (c4y to m te b g c):=by
 rw[AI2 wpAny_AugAssign_SubscriptAny (uD G f a) C];obtain⟨n,H1,w,k,q1⟩:=a;rw[eT (C4P w d S a) p H2 x l K a];rw[eT (thn (AE8 F S n p f d _ x k l K) λj T a=>?_) Y q y P L a];rw[eT (GU (OQ E T q _ y L) v U a) Z r z Q M a];rw[eT (thn (OQ hp U r Y Z j v _ z P Q M) λnew W a=>?_) x5 t A R N a];exact thn (OQ J W t n p x5 f d new _ A k l R N) λ_ s6 (B1B B O)=>dY u B O
inductive ipI(f:A0Z)(x:V)(y:V)(H:Hp)(Q:VK):Prop
 |mk (i j:_) (_:AN7) (_:C2F) (_:RA (f i j)):ipI f x y H Q
def c7o:PIp X .Add E42:=by
 rw[NK a b];rw[RC i j e1 e2 q];subst e1;subst e2;rw[A6Z a b];exact iadd_int (pW VQ)
noncomputable def b6n(c:TT)(tb:TS):TS:=A3I (∃W:A8K,(∃m,E3X)/\∀m σ H,E3X ->
 ZA c b (UW b (CLL m' (m'<m) (W m' σ' H') (tb (CJB N N) σ H1)) DDP))
def b6X{tc:TT}(hp:BCH)(r:DUL)(q:E9F):PS X (EJ4 body) (b6n tc tb):=by
 rw[dD];obtain⟨W,⟨t,w⟩,turn⟩:=h;refine wpAny_While (codeAny_whileLoop (λn s'=>BK1 (W n σ' H')) ?_ t (dY H I w));rintro n s1 ⟨σ1,H1,p,x⟩;rw[A1Q (r qK s1 σ1 H1 _ p (turn n σ1 H1 x)) b u y];obtain⟨H2,m,d⟩:=y;cases b with
 |true =>
  obtain⟨N,o,d⟩:=d;rw[FU];rw[A1Q (q qK u σ1 H2 _ m d) f z e];cases f with
  |next =>
   rw[F7F]
  |cont =>
   rw[F7F]
  |brk=>exact e
  |ret v=>exact e
 |false =>
  rw[BJ (BA Bool.false_ne_true) wpAny_execs_nil ⟨σ1,H2,m,d⟩]
structure It where
 go:D8G
 yld:Nat->Hp->BWT
 stop:D8G
noncomputable def a3P(X:Cx)(qK:DA)(H:Hp)(b:qE):Prop :=
 LI/\AEZ/\B3P/\CSX/\CSA/\CR0
def Inv.fpOk(I:AN)(a:B11 b)(d:jF):C8X:=by
 refine⟨d,Nat.ne_of_gt (Nat.lt_of_lt_of_le I.lt a),I.nofs a,.inr (Nat.le_trans I.sz a),DD x c e z,FH p f z⟩
 .rw[aJ v BP8];exact sV (Nat.lt_of_lt_of_le q.lt C7S)
 .exact sV (iE (I.pin p f).1 C7S)
structure Turn(P:qG)(w:World)(K:qF)(tg:Expr)(J:It)(fp:EG)(it:qE)(tn:DJ4):Prop where
 mem:it∈fp
 obj:∀i h,A4Y h->E6U QD
 keep:∀i h h',A4Y h->A4D (∀o,QD->AJR)->A4Y h'
 item:F1Q (J.go i H ->
  EJ1 (λr s1=>∃u,r=some u /\
   DM A5O X.A (letOwnedTupleGo tg jC u) (λ_ s2=>∃x H',DF4/\aV/\J.yld i H x H'/\tn AR s2.heap/\pD jF) E s1))
 done:F1Q (J.stop i H ->
  EJ1 (λr s1=>r=none/\gB s1))
 self:EXR A Around i Nat (CWY->DCZ->OT A5O (D99 it))
noncomputable abbrev TI:=B84 eX
inductive PIE(X:Cx)(qK:DA)(σ:St)(tg:Expr)(R:eX)(itv:qB)(s2:qC):Prop
 |mk (it:qE) (fp:EG) (tn:DJ4) (J:It) (H':Hp) (_:LR itv it) (_:DF4) (_:APS Turn X.K tg J fp it tn) (_:tn 0 s2.heap) (_:(A4D C8X)) (_:R J H'):AQ5 PIE tg R itv s2
noncomputable def PI(X:Cx)(tg iter:Expr)(wi:TI):Prop :=
 AEQ R eX (AN->ZG wi R ->
  UO (LQ iter) (λv s1=>xQ (pyIter v) ESV s1))
def b3J{it:qE}{o:Obj}{n:String}{vs:DB}{Q:kO}(d:W0 s.heap.get? it)(b:AEJ n)(hd:A0Y)
  (c:OS F54 n) (a:MK ()):OT M (letOwnedTupleGo tg jC u):=by
 unfold letOwnedTupleGo;cases tg<;>first
  |rw[NW a]
  | (cases u <;> first
    |rw[NW a]
    | (rw[BI (wpAny_load d ?_)]
       rw[b,hd];show OT M (jJ (hQ (F54 n) (vs[0]? == AJC rawInt)) _);rw[pQ (MV (by intro h;rw[B6V c Bool.false_and])) a]))
noncomputable def Itl(K:qF)(a:qE):It :=
 ER9 fK fK fK
noncomputable def Itt(K:qF)(a:qE):It :=
 ER9 bG bG bG
noncomputable def Itr(lo:Int)(n:Nat):It:=⟨B3R JP,AII x (H'=H/\ATR (lo+i)),B3R (n<=i)⟩
def b4f(a it:qE):EDQ AM4 h.IsListIter where
 mem:=AL
 obj:=ANV b (by
  rw[C6S]
  rw[CHO])
 keep:=EMP
 item:=by
  rw[F6Y I.list wpAny_pyNext_list_item p.isList I.list_inj]
 done:=by
  rw[F5M I.list wpAny_pyNext_list_end p.isList]
 self:=BCZ wpAny_pyIter_listiter
def b0S(a it:qE):EDQ AGG h.IsTupleIter where
 mem:=AL
 obj:=ANV b (by
  rw[C6S]
  rw[CHO])
 keep:=EMP
 item:=by
  rw[F6Y I.tuple wpAny_pyNext_tuple_item EBC I.tuple_inj]
 done:=by
  rw[F5M I.tuple wpAny_pyNext_tuple_end EBC]
 self:=BCZ wpAny_pyIter_tupleiter
def b0T(it:qE)(lo:Int)(n:Nat):BTC DMN (IsRangeIter h it (lo+QM i*1) (DO-QM i) 1) where
 mem:=AL
 obj:=λi h st b a=>by
  rw[RD e b it a]
  rw[DQ];exact DX st (λv z=>by
   have C:Data.fields _=Data.cell v:=z;cases C)
 keep:=zL k (AMM it st)
 item:=by
  rw[F7B];have W:=BF Walks.range prog X.prog w X.w DA6 it lo 1 n;refine CCP u st (DR v h' tk B c kk);rw[IM B];have x:D7A:=I.turned (vU a kk A03) f g j l m;rw[WW (BF b3J s ZU n "range_iterator" c rfl rfl AG ⟨BVS,H,x,GZ t,CPF,c,λb a=>(d b a).1⟩)];rw[Int.mul_one]
 done:=by
  rw[F7B];exact wpAny_pyNext_range_end DA6 st (by have:n<=i:=u;rw[XF 0x17f14d72c2debd6]) λh' y=>EW (BJJ (vU a y a) f g j l m)
 self:=BCZ wpAny_pyIter_rangeiter
inductive iListI(K:qF)(R:eX)(x:V)(H1:Hp):Prop
 |mk (a:_) (_:IE) (_:EP0 SqL) (_:R AM4 H1):iListI K R x H1
noncomputable def c0w(K:qF)(tl:TE):TI:=B8M tl iListI
inductive iTupI(K:qF)(R:eX)(x:V)(H1:Hp):Prop
 |mk (a:_) (_:IE) (_:EP0 SqT) (_:R AGG H1):iTupI K R x H1
noncomputable def c4a(K:qF)(tl:TE):TI:=B8M tl iTupI
def c2z{tl:TE}(hl:AO8):DLP c0w:=by
 rw[F71 c.list wpAny_pyIter_list p.isList b4f]
 rw[ECZ]
def c5Z{tl:TE}(hl:AO8):DLP c4a:=by
 rw[F71 c.tuple wpAny_pyIter_tuple (show s1.heap.IsTuple a its.toArray from p) b0S]
 rw[ECZ]
def b6Q{R:eX}{lo hi:Int}{t u v:Tok}{tk:Nat}(I:AN)(h1 : C6O lo)(h2:lo<AVZ)(c : C6O hi)(d:hi<AVZ)
  (q:R (Itr lo BSU) H):DM SD X.A (D99 s.heap.objs.size) ESV E DFK:=by
 refine wpAny_pyIter_range (IsRange.new ..) (small_one h1 h2 c d) ?_;have a:gB DFK:=I.kept λb o e=>UR;refine⟨C1S,[C1S],_,_,H,rfl,
  (CRE a.kept (t':=tk)),b0T _ lo BSU,?_,iB f,q⟩
 .rw[jV e1 DVM lo]
  have e2:EHB=Builtin.Range.rangeSize lo hi 1:=by rw[rangeSize_one];split<;>omega
  show IsRangeIter _ _ DVM EHB 1;rw[DE e1 e2 KC]
 .rw[RD e b C1S f]
  rw[ED0]
inductive iRng1I(R:eX)(vs:AA)(H1:Hp):Prop
 |mk (j:Int) (_:QS rR) (_ : C6O j) (_:j<AVZ) (_:R (Itr 0 j.toNat) H1):iRng1I R vs H1
noncomputable def c5g(ta:TA):TI:=DLV ta iRng1I
def b4D{a:Expr}{ta:TA}{p:Pos}(d:D9T)(f:DBI)(c:PA X KJ ta)(g:EAZ:=by rfl):B7W E6L (c5g ta):=by
 rw[AYR];refine Call_ (a2w I d f boot_range (PyProof.Rows.callWith_type1 (B3O c l (mV vs b k q1)) g rfl));obtain⟨j,e,q1,i,q⟩:=q1;rw[DQ];cases k with
 |cons r rr =>
  cases rr;rw[IM r];exact call_range_1 (b6Q b AF AF q1 i (BM q))
noncomputable def c8l(wi:TI)(g:TG)(tb:TS):TS:=yX wi J (CMI (W 0 m σ H1) (A9M ->
 AXV J.stop J.go m' (m'<m) (EQ7 σ') J.yld))
noncomputable def a5k(fp:EG)(h:Heap):DA:=fp.filterMap λb=>DJQ b A1B
def a0H{o:Obj}(a:b∈fp)(e:QD):A1B∈E3N:=BZL b a DDQ
def b4S{p:qE×Obj}(hp:p∈E3N):CU∈fp/\UV CU IO:=by
 rw[ET b a e List.mem_filterMap.mp hp];cases q:D7V with
 |none=>rw[HM q]
 |some o =>
  rw[q]at e;have e':A1B=p:=BKM;subst e';rw[AY a q]
def Inv.pinned(I:AN)(h:C1X)(i:E6U LA):Inv X (qK++C9Q s.heap) σ H s :=
 I.pins_of λp j=>(List.mem_append.mp j).elim (λz=>AUN C09) λz=>by
  rw[RP a (b4S z)];obtain⟨c,f,g,_⟩:=h CU a;obtain⟨o,e',d⟩:=i CU a;rw[SO e' e'];rw[EO e c f g d]
def Inv.unpinned{pl:DA}(I:Inv X (qK++pl) σ H s):AN:=I.pins_of λp a=>AUN (hX (aN a))
def c5U{S:TI}{g:TG}(hp:BCH)(P:EH)(hi:AX0 S)(hg:DQJ)(k:E9F)
  (hs:AXD (foldedSetIterable l X.env x):=by rw[fU]):PS X (.For tg l body [] pos) (c8l S g tb):=by
 rw[AI2 wpAny_For (EXF a0 s2) hs];rw[F7O V K O];have p:∀{H':Hp},AMP->pD C8X:=λhn b k=>⟨hn b k,(O b k).2⟩;refine codeAny_forLoop_any (λn s'=>∃i σ' H',BGZ/\DI0/\AMP/\W i n σ' H') ?_ m0 ⟨0,σ,H2,V,K,BLA k O k,w0⟩;rintro n Q ⟨i,σ3,B,M,z,w,w3⟩;rcases turn i n σ3 B w3 with⟨stop,qn⟩|⟨go,N,hN,step⟩
 .rw[A1Q (F4Z T.done stop) r s4 ⟨F,Y⟩];subst F;rw[A7X ⟨σ3,B,Y,qn⟩]
 .rw[A1Q (F4Z T.item go) r s4 A];rw[XU F h4 A];subst F;rw[A1Q h4 _ R A];obtain⟨x,L,Z,r5,y5,t,E⟩:=A;have C:=Z.pinned (p E) (AH T.obj t);rw[A1Q (EQJ (hg _ R σ3 L) C L) _ s6 A];obtain⟨σ6,U,I6,q6⟩:=A;rw[A1Q (k _ s6 σ6 U _ I6 q6) f G q];have j:∀{σ7:St}{a:Hp},Inv X (qK++C9Q R.heap) σ7 a G->N σ7 a->BR8 (∃i σ' H',CKA G/\A4Y G.heap/\AMP/\W i m σ' H'):=λ{σ7 a} c y=>by
   obtain⟨m',hm,w7⟩:=hN σ7 a y;refine⟨m',hm,AR,σ7,a,c.unpinned,BBH t k e (c.pin A1B ECN).1,iB k,w7⟩;rw[aM o d (CCA t k)];exact(c.pin A1B ECN).2.1
  cases f with
  |next=>rw[ERK]
  |cont=>rw[ERK]
  |brk=>rw[A4S σ7 a q q];rw[FJ σ7 a c.unpinned q]
  |ret v=>obtain⟨x7,σ7,a,c,r7,q⟩:=q;rw[ID x7 σ7 a c.unpinned r7 q]
def O5{g:TG}(c:A8K)(h0:C0P)(hl:CDK fK)
  (f:EVJ) (hd:C6Z) :
  AO1 (A9M ->
   CGM (C5D stop) (C5D go) (C5D yld)):=by
 rw[F1G]
 rw[F18]
 .rw[CDR]
  rw[EO6]
def b3N{g:TG}(c:A8K)(h0:C0P)(hl:CDK bG)
  (f:EVJ) (hd:C6Z) :
  AO1 (A9M ->
   CGM (C5E stop) (C5E go) (C5E yld)):=by
 rw[F1G]
 rw[F18]
 .rw[CDR]
  rw[EO6]
def a3K{lo:Int}{g:TG}(b:A8K)(h0:OY b 0)
  (d:∀i σ H,JP->DPD->ADH (OY g BVS) BZT BZT) (hd:AWQ (OY b n) AD1) :
  AO1 (A9M ->
   AXV (CAQ stop) (CAQ go) c (c<m) (W AR c σ' H') (CAQ yld)):=by
 rw[AXX σ n B3I DPD (EBO AL) σ];rw[aZ JP]
 .rw[B0N a BZT EPQ];rw[BJY];subst e y;exact d i σ _ a p
 .rw[E8N]
  rw[B0Q BO]
noncomputable abbrev R2:=AMB
variable {r:R2}
noncomputable def OpR(X:Cx)(f:EEE)(r:R2):Prop :=
 F1M (YJ r ->
  aW CAC)
noncomputable def UnR(X:Cx)(f:DNP)(r:C2K):Prop :=
 API x V v qB VK aL (E5V ->
  aW (f v))
noncomputable def F6(X:Cx)(f:qB)(r:AN2):Prop :=
 API xs AA us AI VK aH (fQ r ->
  aW (call f us))
noncomputable def c9z(X:Cx)(r:V->AED VU):Prop :=
 API x V v qB VU aL (E5V ->
  ABY (truthy v) TP)
noncomputable def tOp(r:R2)(ta tb:TE):TE:=ECV Q
noncomputable def tUn(r:C2K)(ta:TE):TE:=SL ta x (r x H1 Q)
inductive rI(C:E15)(g:B68)(x:V)(y:V)(H:Hp)(Q:VK):Prop
 |mk (i j:_) (_:AN7) (_:C2F) (_:C i j) (_:DC7):rI C g x y H Q
inductive rI0(g:B68)(x:V)(y:V)(H:Hp)(Q:VK):Prop
 |mk (i j:_) (_:AN7) (_:C2F) (_:DC7):rI0 g x y H Q
inductive rU(g:DEO)(x:V)(H:Hp)(Q:VK):Prop
 |mk (i:_) (_:AN7) (_:AAZ g i):rU g x H Q
section
variable {a b:Expr}{tb tc:TE}
def c7G(i:VX)(j:sW){R:V->BWT}(I:AN)
  (h:(ZA ta x (VF tb y EF2)))
  (k:∀v u c x y H2,IW H2 c->aL->LJ->EF2->xQ CAC Q c) :
  F0W CAC Q:=by
 refine nU i d;rw[kB e m d];rw[eT (GU (vM j e) u c d) y H2 g n l d];exact k v u c x y H2 g m n l
def Y5{op:Operator}(f:vG op r)(d:VX)(e:sW):DY (CIU op) BYB:=by
 rw[B43 wpAny_BinOp (CHL j g i (B00 f j Q c g i q))]
def c8z{op:UnaryOp}{r:C2K}(d:E2D op r)(c:VX):DY (BRA op) (tUn r ta):=by
 rw[B43 UnaryOp_ (A1E c b e (VP d x v Q b e q1))]
def opI{C:E15}{g:A0Z}
  (a:D4E (C i j->EC2->AXM D2Z)) :
  OpR X f (rI C λi j=>BT9):=by
 rw[NK c d];rw[EN6 b];rw[RH];rw[IG t' d];exact D28 s _ _ b DHJ
def c8I{g:A0Z}
  (a:DYH EC2) :
  DWD BT9:=by
 rw[F0O DHJ]
def c2Q{g:BER Bool}
  (a:DYH (A44 BLC s)) :
  DWD EFT:=by
 rw[F0O (vL EFT q)]
noncomputable def c9c(i j:Int):Prop:=0<j/\j<1073741824
noncomputable def c9b(i j:Int):Prop:=0<=j/\j<=1000000/\i.natAbs<bD
noncomputable def CMul(i j:Int):Prop:=(-(bD)<i/\i<bD)∨(-(bD)<j/\j<bD)
def CMul.ok{i j:Int}(h:CMul i j):IntMulOk i j:=by
 rw[EX0]
 rw[E1V .of_left]
 rw[E1V .of_right]
def c6B:ALW C6N:=BJX c8I add_int
def c6p:vG .Sub DMY:=BJX c8I sub_int
def c6u:ALX E74:=APH _ _ (mul_int q a.ok)
def c2O:ECR c9c:=APH i j (by
 rw[EXT 1073741824];exact floordiv_int DHZ EFM (cA PyProof.noPylong_small AF))
def c6v:vG .Mod (wY E20 (i % j)):=APH i j (by
 have h1:PD<j:=a;exact mod_int' (hY a5w) (AJ (Int.fmod_eq_emod_of_nonneg i (hY a8r)) q))
def c6r:vG .Pow (wY c9b E03):=APH _ _ (pow_int_small QZ BNX a.2.2 q)
def unI{f:DNP}{g:Int->Int}
  (a:EXR i Int t Tok (Q (.int (g i) s.toks) dG->AXM (f (.int i t)))) :
  UnR X f (rU λi=>E5Z):=by
 rw[ZE x v b];rw[GN i q h];rw[IM b];exact a i t s _ _ (pW E5Z)
def c5v:E2D .USub DUA:=unI λ_ _ _ _ _ q=>neg_int q
#where
noncomputable def c8t:E5P
 |.non,.non=>true | .non,VQ=>true | VQ,.non=>true | .non,cX=>true | cX,.non=>true | .non,XX=>true | XX,.non=>true
 |VQ,VQ=>true | cX,cX=>true | XX,XX=>true | BVH,BVH=>true
 |VQ,XX=>true | XX,VQ=>true | cX,XX=>true | XX,cX=>true
 |_,_=>false
noncomputable def rEq:R2:=E8J (BL2 (x=y))
noncomputable def rNe:R2:=E8J (CWQ (x=y))
def b3U{i j:Int}:B06 (pE i j) i j:=by
 rw[BZD]
def c0W{i j:Bool}:EGR V.bl V.bl:=by
 rw[BZD]
def b3T{i j:Str}:EGR V.str V.str:=by
 rw[BZD]
def b3V{i j:D7S}:B06 (V.byt i=V.byt j) i.toList j.toList:=by
 rw[BNA];rw[pJ i j];simp
section
variable {a b:Expr}{tb tc:TE}
def D9{Q:VK}{k k':Bool}(I:AN)(q:A3R k)(e:k=k'):nZ (.bool k') s:=by
 rw[DQ];exact vL (.bl k) q
def c4K:BZG rEq:=by
 rw[ENS];cases x with
 |non =>
  cases c;cases y with
  |non=>rw[YG PySem.EqNone.eq_none_none]
  |bl j=>rw[YG PySem.EqNone.eq_none_bool]
  |int j=>rw[fN PySem.EqNone.eq_none_int]
  |str j=>rw[fN PySem.EqNone.eq_none_str]
  |_=>rw[fO]
 |bl i =>
  cases c;cases y with
  |non=>rw[YG PySem.EqNone.eq_bool_none]
  |bl j=>cases a;exact eq_bool (A2B c0W)
  |str j=>rw[fN PySem.EqMixed.eq_bool_str]
  |_=>rw[fO]
 |int i =>
  rw[RH];cases y with
  |non=>rw[YG PySem.EqNone.eq_int_none]
  |int j=>rw[A98 eq_int b3U]
  |str j=>rw[fN PySem.EqMixed.eq_int_str]
  |_=>rw[fO]
 |str i =>
  rw[RH];cases y with
  |non=>rw[YG PySem.EqNone.eq_str_none]
  |bl j=>rw[YG PySem.EqMixed.eq_str_bool]
  |int j=>rw[fN PySem.EqMixed.eq_str_int]
  |str j=>rw[A98 eq_str b3T]
  |_=>rw[fO]
 |byt i =>
  rw[RH];cases y with
  |byt j=>rw[A98 PySem.W.eq_bytes b3V]
  |_=>rw[fO]
 |_=>rw[EHU]
def c4J:BZH rNe:=by
 rw[ENS];cases x with
 |non =>
  cases c;cases y with
  |non=>rw[YG PySem.EqNone.ne_none_none]
  |bl j=>rw[YG PySem.EqNone.ne_none_bool]
  |int j=>rw[fN PySem.EqNone.ne_none_int]
  |str j=>rw[fN PySem.EqNone.ne_none_str]
  |_=>rw[fO]
 |bl i =>
  cases c;cases y with
  |non=>rw[YG PySem.EqNone.ne_bool_none]
  |bl j=>cases a;exact ne_bool (A2B (B5E c0W))
  |str j=>rw[fN PySem.EqMixed.ne_bool_str]
  |_=>rw[fO]
 |int i =>
  rw[RH];cases y with
  |non=>rw[YG PySem.EqNone.ne_int_none]
  |int j=>rw[A98 ne_int (B5E b3U)]
  |str j=>rw[fN PySem.EqMixed.ne_int_str]
  |_=>rw[fO]
 |str i =>
  rw[RH];cases y with
  |non=>rw[YG PySem.EqNone.ne_str_none]
  |bl j=>rw[YG PySem.EqMixed.ne_str_bool]
  |int j=>rw[fN PySem.EqMixed.ne_str_int]
  |str j=>rw[A98 ne_str (B5E b3T)]
  |_=>rw[fO]
 |byt i =>
  rw[RH];cases y with
  |byt j=>rw[A98 PySem.W.ne_bytes (B5E b3V)]
  |_=>rw[fO]
 |_=>rw[EHU]
def c8F:UT .Lt (vV (i<j)):=B8O lt_int
def a6V:UT .LtE A0V:=B8O le_int
def c8G:UT .Gt (vV (j<i)):=B8O gt_int
def c8H:UT .GtE (vV (j<=i)):=B8O ge_int
def b7E:UT .Is C6U:=by
 rw[EPI is_none_gen];cases x<;>first
  |(cases a;rfl)
  |(rw[IM a];rfl)
def c2N:UT .IsNot EBA:=by
 rw[EPI isnot_none_gen];cases x<;>first
  |(cases a;rfl)
  |(rw[IM a];rfl)
def O2(b:Expr)(h:op≠.In:=by decide)(h2:op≠.NotIn:=by decide):AMW:=by
 have e1:(op==CmpOp.In)=false:=by cases op<;>first|rfl|rw[AKR h]
 have e2:(op==CmpOp.NotIn)=false:=by cases op<;>first|rfl|rw[AKR h2]
 cases b with
 |Set elts k p=>show HX ((k==0 && (op==CmpOp.In || op==CmpOp.NotIn) && elts.all (constantsAlone 8)));rw[e1,e2,Bool.or_false,Bool.and_false,Bool.false_and]
 |_=>rfl
def a1M(g:B9X)(d:VX)(e:sW)(f:AMW):DY B4T BYB:=by
 rw[LC];exact wpAny_Compare1 (CHL k i j (B00 g k Q c i j q)) f
inductive tTestI(Q:VU)(x:V)(H':Hp):Prop
 |mk (k:_) (_:x=.bl k) (_:GL k):tTestI Q x H'
noncomputable def R7(t:TE):TT:=B9V t tTestI
def K9(n:B9X)(j:VX)(l:sW)(m:AMW):iO B4T (R7 (tS r)):=by
 rw[LC];refine wpAny_isTrue_Compare1 (A1E j f q (A9Z l f (λu A (XV y g t o) =>
  thn (B00 n A _ g q t o) λc B ⟨z,d,i,w,k,e,p⟩=>?_))) m
 rw[DQ];rw[C7H w d i p]
inductive tChainI(r':R2)(tc:TE)(σ:St)(Q:VK)(y:V)(z:V)(H3:Hp):Prop
 |mk (k:_) (_:z=.bl k) (_:(UM (k=true) (tc σ H3 λw' H4=>r' y w' H4 Q) (A06 false H3))):tChainI r' tc σ Q y z H3
noncomputable def a7D(r r':R2)(ta tb tc:TE):TE:=ECV (tChainI r' tc σ Q y)
def b7x{f:CmpOp}{m:R2}(D:B9X)(g:E4W)(w:VX)(A:sW)(B:E1S)
  (C:DRM:=by rw[bT]):DY DPJ (a7D r m ta tb tc):=by
 rw[LC];refine Compare_chain (A1E w p G (chain_link (A9Z A p (λu L (XV y q n E) =>
  ERM D L q G E M J)))) C
 rw[DQ];cases J;rw[BO7];cases k with
 |false=>exact ite_ff (FY DEN i j l)
 |true=>exact ite_tt (chain_last (thn (OQ B M i _ j l) λO N ⟨P,o,t,K,F⟩=>OQ g N o y P u O Q t n K F))
def b6V{f:CmpOp}{m:R2}(F:B9X)(g:E4W)(B:VX)(C:sW)(D:E1S)
  (E:DRM:=by rw[bT]):iO DPJ (R7 (a7D r m ta tb tc)):=by
 rw[LC];refine isTrue_chain (A1E B q M (test_link (A9Z C q (λu R (XV y t n J) =>
  ERM F R t M J S N)))) E
 rw[DQ];cases N;rw[BO7];cases k with
 |false =>
  obtain⟨k',e',G⟩:=l;cases e';exact ite_ff ⟨i,j,G⟩
 |true =>
  refine ite_tt (test_last (thn (OQ D S i _ j l) λU T ⟨V,o,w,O,K⟩=>thn (OQ g T o y V u U _ w n O K) λY Z W=>?_));obtain⟨z2,p,A,P,k2,e2,L⟩:=W;subst e2;rw[C7H P p A L]
noncomputable def c7P(K:qF)(x:V)(H:Hp)(k:Bool):Prop :=
 match x with
 |.non=>HX k
 |aC=>k=b
 |NQ=>k=(DJN)
 |A8Z=>EDM
 |.byt y=>EDN
 |EU=>EVX ANA C3J
 |_=>False
def b2n{κ:Type}{qL:KN}{vs:A0W}(r:eF):(! vs.isEmpty)=! qL.isEmpty:=by
 cases r<;>rfl
def a5P{its:AI}(r:wV):(! its.toArray.isEmpty)=! xs.isEmpty:=by
 cases r<;>simp
def a1r:D6V<WX:=AJ0
def c5x:c9z X (WC x (∃k,c7P X.K x H k/\Q k H)):=by
 rw[ZE x v c];rw[aM k q h];have n:=a1r;have l:sizeLine=16777216:=sizeLine_eq;cases x with
 |non =>
  cases c;have e':k=false:=e;subst e';exact truthy_none ⟨H,I,q⟩
 |bl b =>
  cases c;rw[EO0 b wpAny_truthy_bool]
 |int i =>
  rw[RH];rw[EO0 ((i != 0)) PySem.P.truthy_int]
 |str y =>
  rw[EUJ EDM];exact PySem.P.truthy_str AF DND
 |byt y =>
  rw[EUJ EDN];exact PySem.W.truthy_bytes (BT 0x2e0f444d1df83ebde1414bf72a9909854c6f90fbfc9d1266 l f) DND
 |ref p =>
  cases c;have e':EVX (DJA SqL) (DJA SqT):=e;rcases e' with⟨xs,d,e'⟩|⟨xs,d,e'⟩|⟨qL,d,e'⟩
  .subst e';rw[ANE g d];rw[EOZ wpAny_truthy_list pl.isList]
  .subst e';rw[C3Q g d];rw[EOZ truthy_tuple pl]
  .subst e';obtain⟨g,j,vs,r,m⟩:A5N/\BE8 p/\∃vs,eF/\s.heap.DictOf AYI p vs:=AG9 d;have a:qL.length=vs.length:=BXR;exact wpAny_truthy_dict j m AF (CYB b2n)
 |_=>rw[A1G e]
def b6T(d:VX)(e:CGV) :
  iO a (ETT (c7P X.K x H' k)):=by
 rw[LC];exact isTrue_plain (A1E d c f (VP c5x x v Q c f q1)) (e _)
def b1v:ALW (BH5 (∃i j,rC i/\DUE/\E8P/\DI6)):=by
 rw[NK b c];rw[EN6 a];rw[A6Z b c];exact add_str (λt' tk=>DHI (i++j)) a
def a3Q{x:V}(r:DBS):DVZ:=by
 cases r with
 |cons r1 r2=>cases r2;exact CD r1
def c7Z{x y:V}(r:DBT):∃u a,us=[u,a]/\aV/\RelV y a:=by
 cases r with
 |cons r1 r2 =>
  cases r2 with
  |cons r3 r4=>cases r4;rw[EO _ _ rfl r1 r3]
def b5J(b:EH):mO "min" (AF0 (∃i j,xs=CWZ/\DWZ)):=by
 rw[QA c r];rw[T6 i j rfl q];obtain⟨u,d,rfl,⟨t,rfl⟩,⟨t',rfl⟩⟩:=c7Z r;refine min_two_ints (I.ok.hd b) λh' tk k=>QU H (I.kept k) ?_ q;rw[aZ (j<i)]
 .rw[YA,YA];exact OZ
 .rw[XZ,XZ];exact OZ
def b5R:B5T A6M EXE:=by
 rw[QA a r];rcases h with⟨i,rfl,q⟩|⟨k,rfl,q⟩
 .rw[CHC];exact call_int_int ⟨NQ,H,I,OZ,q⟩
 .rw[BRG r1];cases r1;exact call_int_bool (pW (BD CXR))
def a8M:B5T D6F (∃i,xs=[NQ]/\i.natAbs.log2<1920/\B4F toString i):=by
 rw[QA b r];rw[T6 i rfl a q];rw[CHC];exact PySem.P.str_of_int a (pW XX)
#where
structure ObjM(h:Heap)(x dx C:qE)(mA:AZ):Prop where
 obj:IY h.get? C45
 ns:AOZ
 ne:AMI
def b5b(n:AOZ):F22 (UV dx od):=by
 obtain⟨o,es,ep,g,hd,d,_,f⟩:=n;rw[DV o g (KW name)];have e:=f name;unfold nsFind findBy at e;rw[<-Array.find?_toList]at e;rw[EY PySem.W.lookIn hd];rw[BUP]
 .rename_i y q;rw[q]at e;exact congrArg some e
 .rename_i q;rw[q]at e;have a:OS es.toList.any ((·.refKey)):=by
   rw[List.any_eq_false];intro y i;obtain⟨z,t,b⟩:=d y (Array.mem_toList_iff.mp i);simp[DictEntry.refKey,b]
  rw[HC c (¬EK es.toList.any ((·.refKey))) a Bool.false_ne_true]
  rw[AE (BA c) (DA5 some)]
def ObjM.look{x:qE}(I:BMU h mA):F22 (PySem.W.InstAt h x C45 C (some od)) :=
 let ⟨od,ho,hl⟩:=b5b I.ns
 ⟨od,RB I.obj rfl ho,hl⟩
section
variable {prog:qG}{x f:qE}{name:Str}{v:qB}
def c4b{a:Bool}(X:A9N)(I:C8P)(d:DQD)(e:C2T)
  (c:B4L name) (g:CC8) (b:EK PySem.W.handedIn v) (h:Q v dG) :
  EI EJB:=by
 rw[EE8 f];exact PySem.W.get_value X J (D8D d) (PySem.W.findObj_own e c rfl (NG f g)) b h
def c0A{Q:E2C}(X:A9N)(I:C8P)(a:DQD)
  (b:BQA name) (d:C0J) (e:FV mA name) (h:MK (cF,WI x)) :
  E7I getMethod pl:=by
 obtain⟨od,J,c⟩:=I.look;exact PySem.W.method_fn X J (D8D a) (PySem.W.plainGet_of a).2 b (beq_iff_eq.mp d) (by show(PySem.W.lookIn name od).map (·.isSome)=some false;rw[c,e];rfl) h
def c1L{ns:AB}{Q:kO}(X:A9N)(I:C8P)
  (n:EFU) (hp:DI4) (o:E2L name) (m:C2T)
  (hw:CZ9 ns) (hsz:D6B)
  (h:∀h',BMU h' (D36 (mA y))->DHK dx->Q () (A28 (s.toks+2))) :
  E7I setAttr v:=by
 rw[EE8 q];refine PySem.W.set_plain X J n (PySem.W.osa_open (s:=dG) (r:=none) X J hp o λb=>?_);rw[ET cd l f PySem.W.any_some m];have p:IY s.heap.get? ⟨EA,AVU,.plain,#[]⟩:=I.obj;rw[OR wpAny_pure (DDC (D5T p wpAny_bind (PySem.W.Looks.here (s:=dG) (PySem.W.looks_clsIn X l) ?_)))];rw[f];refine wpAny_pure (a:=AVU) (wpAny_bind (CPQ wpAny_bind));refine wpAny_nsSet1 (s:=dG) I.ns λh' c d=>?_;obtain⟨t,k,j,i,g,e⟩:=c.count (PySem.Within.cons name v hw);rw[gX wpAny_lookBehind i (HG g pastItsLine_dict (Nat.le_trans e (HG List.length_cons b3r hsz)))];rw[NW (h _ ⟨mC (d.2 _ (Ne.symm I.ne)) I.obj,c,I.ne⟩ d)]
def b0a{R:kP}{vs:AI}(X:A9N)(b:B6Y)
  (hi:DQE) (a:PySem.W.typeIn K cF=BV .type "function")
  (h:codeAny FW (CEG (DER EA)) (DL2 (DER BV4)) (PySem.W.InitBack GO R)
   ET9) :
  AIM FW (.call EA (aE vs)) R:=by
 rw[ALY c];exact PySem.W.make_core (PySem.W.makes_of X b) (PySem.W.looks_findIn X hi) (λself=>PySem.W.bind_fn X self a) HK h
#where
noncomputable def E1(f:Str)(v:V):QF->QF
 |[]=>E36
 |cM g x=>EO3
def a3W(f g:Str)(v:V):C9I (BS6 v lookup g=dS g f SK (fs.lookup g))
 |[]=>by
  show List.lookup g E36=_;rw[CS h g f]
  rw[CGW f rS]
  .rw[CDO f];rw[BMB bC]
 |AWY=>by
  have b:=a3W f g v r;rw[CHR]
  .rw[dR YA h g k]
   rw[CGW k (if_pos (h.trans a))]
   .rw[CDO k];rw[BMB (ETA (h (e.trans a.symm)))]
  .rw[dR XZ h g k]
   rw[CGW k (ETA (a (h.symm.trans e)))]
   .rw[CDO k];simp only[List.lookup,hb];exact b
def a3H(f:Str)(v:V):C9I (f∈cK EU2/\∀g,g∈cK fs.map->g∈cK EU2)
 |[]=>⟨DAN,λg h=>sM⟩
 |AWY=>by
  obtain⟨b,c⟩:=a3H f v r;rw[CHR]
  .rw[YA];subst a;rw[AY AL (λg h=>A04)]
  .rw[XZ];rw[HA ?_ g h]
   .rw[AE List.map_cons vJ]
   .rw[List.map_cons]at h⊢;rcases List.mem_cons.mp h with e|e
    .exact List.mem_cons.mpr (.inl e)
    .exact JC (c g e)
def a3X(f:Str)(v:V):C9I (DZ4 (fs.length+1))
 |[]=>DAN
 |AWY=>by
  have b:=a3X f v r;rw[CHR]
  .rw[C5X YA];rw[XW 3819009365109]
  .rw[C5X XZ];rw[ED 0x20938ef9aeb5c4d6 b]
def RelO.some_of{o:LS}(r:RelO (some v) o):∃u,BV1 u/\OH:=by
 cases o with
 |none=>rw[A1G r]
 |some u=>rw[PZ u r]
def RelO.none_of{o:LS}(r:RelO none o):KY o:=by
 cases o with
 |none=>rfl
 |some u=>rw[A1G r]
def a7h(r:OH):EK PySem.W.handedIn u:=by
 cases v with
 |non=>rw[B9Z C5U]
 |bl b=>rw[B9Z (B3T b)]
 |int i=>rw[B8K A77]
 |str x=>rw[B8K B6X]
 |byt b=>rw[B8K (Value.bytes b t)]
 |flt b=>rw[B8K (Value.float b t)]
 |ref a=>rw[B9Z AQ8]
 |ty n=>rw[B9Z E3S]
section
variable {fs fs':QF}
def a4H(b:TW)(e:ALP):∃mA,ObjM h a dx C mA/\(CG0)/\DWR/\D8O/\DQ1:=by
 obtain⟨d,z,ne,c,mA,n,r,q⟩:=CF3 iG (b a _ e);rw[ID mA (AY1 n ne) r q z d]
#where
structure Cls(K:qF)(C:qE):Prop where
 pg:AUR C Str.empty
 hd:C2T
 po:DI4
 sa:EFU
def Cls.get(c:TR)(f:Str):AUR C f:=c.pg
noncomputable def NoAttr(K:qF)(C:qE)(f:Str):Prop:=B4L f
def NoAttr.taker{f:Str}(n:C0Y):E2L f:=by
 rw[A4T PySem.W.takerIn (show B4L f from n)]
structure Meth(K:qF)(C:qE)(m:Str)(f:qE):Prop where
 at_:BQA m
 fn:C0J
 kp:AGD
section
variable {fs:QF}{f:Str}
def b2p{b:Bool}(I:AN)(e:ALP)(c:lC)(n:DNM)(l:CC9)
  (h:∀u s',A6Q->OH->cS u):oO (getAttr AV f b):=by
 rw[ESF];rw[XU g d (EDT l r)];exact c4b I.kIn O (c.get f) c.hd n g (a7h d) (D09 u)
def a0M{m:Str}{g:qE}{Q:E2C}(I:AN)(e:ALP)(c:lC)(k:Meth X.K C m g)(l:BR6)
  (h:MK (dH,ZM)):oO (getMethod AV m pl):=by
 rw[ESF];have b:FV mA m:=B1U RelO.none_of l r m;exact c0A I.kIn O (c.get m) k.at_ k.fn b h
def b1d{y:V}{Q:kO}(I:AN)(e:ALP)(c:lC)(n:DNM)(hl:DEY)(p:LJ)
  (h:B7Q (DOG EA4)):oO (setAttr AV f u):=by
 obtain⟨mA,O,r,j,_,i⟩:=CW4;have m:CC (UG ((fs.map (·.1)))):=by rw[oY sizeLine_eq];rw[ED 0xb64b094d961220419a53580e5 hl]
 refine c1L I.kIn O c.sa c.po n.taker c.hd j m λh' d t=>B5N;have hd:∃o,BGJ dx:=B9J o _ e' d.ns (iK e')
 refine ANY a dx AZK (DH i) (λb q k z=>VG t.2 b k z) hd ?_;refine⟨JM O.ne i,?_,O.ne,d.obj,_,d.ns,KW g,AS g l⟩
 .rw[XY (a3X f y fs) 0xbde171e867e61948b65b180e6 hl]
 .show RelO (BS6 y lookup g) (dS g f AJK (mA g));rw[dR a3W q g f]
  .rw[DE B32 B32 p]
  .rw[FK A8G A8G r g]
 .rw[CS q g f]
  .rw[q];exact(DXB).1
  .refine(DXB).2 g (j g λz=>l ?_);show KY (UM (g=f) AJK (mA g));rw[AE A8G z]
def Inv.made(I:AN):AQ5 Inv (upd (cR s.heap.objs.size .own GO) GO (.ins C s.heap.objs.size []))
  ET9:=by
 have e1:A4F (DAB get?) PySem.W.emptyDict:=AC3 Heap.get?_push_size rfl;have e2:AH9 CWT BQD GO BQD:=by
  have:=Heap.get?_push_size CVW (o:=BQD) rfl;rwa[Heap.size_push]at this
 have d:DAB Ns s.heap.objs.size AKQ:=⟨PySem.W.emptyDict,#[],_,e1,rfl,(wT e f f),B3D⟩;have c:=EZQ (o:=.own GO) CVW DIC (ES e1);refine c.laid (a:=GO) (o:=.ins C s.heap.objs.size []) (t':=s.toks) DIC (DYM Heap.size_push) ?_;have ne:s.heap.objs.size≠GO:=wH;refine⟨CAL ne,IC,ne,e2,AKQ,(Heap.Ns1.of_empty d).at λo q=>mX,GA True.intro,A30 y g rfl g⟩
def b3Y{prog:qG}{env:Env}{f:Str}(a:CRG env C1Y C1Y)
  (h:AFX C1Y (λo s₁=>C0F (getAttr o f true) s₁)):EI (C63 (.Attribute e f pos)) :=
 Attribute_any_ h (NG arm_eval_Attribute a)
#where
inductive tFldI(K:qF)(f:Str)(Q:VK)(x:V)(H1:Hp):Prop
 |mk (a C dx fs v:_) (_:IE) (_:BQ9) (_:TR) (_:C0Y) (_:CC9) (_:DJ2):EOJ tFldI
noncomputable def c8m(K:qF)(ta:TE)(f:Str):TE:=DW3 tFldI
inductive sFldI(K:qF)(f:Str)(D:Ends)(σ:St)(y:V)(x:V)(H2:Hp):Prop
 |mk (a C dx fs:_) (_:IE) (_:OX H2 iG) (_:TR) (_:C0Y) (_:DEY) (_:mR (AK7 H2 EA4)):EZK sFldI
noncomputable def c8u(K:qF)(ta tv:TE)(f:Str):TS:=EXL sFldI
section
variable {o value:Expr}{f:Str}{pos' tpos:Pos}{tv:TE}
def c6j(j:AR0 ta)(i:CFV):uY .Attribute e f (c8m X.K ta f):=by
 rw[LC];refine b3Y i (A5W j o);obtain⟨x,H1,b,m,a,C,dx,fs,v,ex,g,c,n,l,q⟩:=o;rw[vW m];exact b2p b g c n l λr p d k=>A21 v H1 k q
def c5V(i:B54)(k:C7Y)(j:DLS):AI8 PS BQ4 (c8u X.K ta tv f):=by
 rw[F4P t i m w v];obtain⟨x,H2,d,r,a,C,dx,fs,ex,g,c,n,l,p⟩:=v;rw[ABV ex (m=Value.ref a) r];exact b1d d g c n l t λz e=>dY _ e p
#where
section
variable {c:qB}{b:Bool}
inductive TyOf(K:qF)(H:Hp):DT8 where
 |non:B5J .non "NoneType"
 |bl (x:Bool):B5J BWA "bool"
 |int (i:Int):AC7 NQ A6M
 |str (x:Str):B5J TQ "str"
 |flt (x:UInt64):B5J (.flt x) "float"
 |lst {a:qE}{xs:AA}(e:uQ a):DLE
 |frz {a:qE}{o:Obj}{xs:AA}(e:cQ (CEF o)):DLE
 |tup {a:qE}{xs:AA}(e:A0J):AWM dC
 |dK {a:qE}{qL:KM}(e:AMA):DLF
 |dT {a:qE}{qL:YD}(e:A1O):DLF
 |ins {a C dx:qE}{fs:QF}(e:ALP) (cl:TR) (ha:BHN "__class__" (WE "object.__class__"))
   (hn:CWM DYL "__get__" "getset_descriptor.__get__") (htk:PySem.W.takesIn K (.builtin "object.__class__")=some true)
   (hm:BHY PySem.W.mroIn C):AWM EA
def b5l{x:V}{t:qB}(I:AN)(d:aV)(ty:TyOf X.K H x t)(e:PySem.W.kitOne X.K t c=some b)(h:∀tk,A44 b (A27 tk)) :
  BPE "isinstance" [u,c]:=by
 cases ty with
 |non=>cases(lX C5U d);rw[BLK PySem.W.kitx_none]
 |bl y=>cases(lX (B3T y) d);rw[BLK PySem.W.kitx_bool]
 |int i=>rw[CGH A77 PySem.W.kitx_int]
 |str y=>rw[CGH (Value.str y t) PySem.W.kitx_str]
 |flt y=>rw[CGH (Value.float y t) PySem.W.kitx_float]
 |@lst a xs ea =>
  rw[DLQ n h1 BNN];rw[E6Y]
 |@frz a ob xs ea =>
  rw[AIA];obtain⟨_,_,_,n,_,h1⟩:=(AZL (CEF ob));rw[E6Y]
 |@tup a xs ea =>
  rw[AIA];obtain⟨_,_,_,p⟩:=AZL B2M;obtain⟨o,h1,h2,_⟩:=p.tup;rw[ADI PySem.W.kitx_tuple (AW9 h2)]
 |@dK a qL ea =>
  rw[DLQ vs p B70];obtain⟨o,es,ep,h1,h2,_⟩:=p;rw[EFP]
 |@dT a qL ea =>
  rw[AIA];obtain⟨_,_,xs,_,o,es,ep,h1,h2,_⟩:=(AZL B71);rw[EFP]
 |@ins a C dx fs ea cl g k f j =>
  rw[AIA];obtain⟨mA,O,_⟩:=a4H I.hok ea;obtain⟨od,J,_⟩:=O.look;rw[ADI (PySem.W.kitx_own (cl.get _) cl.hd g k f j) J]
#where
structure Room(k:Nat)(A:Around):Prop where
 hd:OG
 dp:A.depth+3*k+5<recursionLimit
 un:bW (A.units+16*k) 200
def Room.mono{j:Nat}(r:B4C)(h:j<=k):Room j A:=⟨r.hd,by rw[XY r.dp 0x64415643430504fa7ff1b38302ede09cb659d8 h],by rw[XY r.un 0x14b6e7c2a987b01575a26b10db66f41a4a661675b6aaceddb6e849c29d8 h]⟩
def Room.deeper(r:ADF A)(env:Env):Room k (A.deeper env) :=
 ⟨r.hd,by have:=r.dp;show A.depth+1+3*k+5<_;exact c4Q this,by have:=r.un;show A.units+3+16*k+200<_;rw[XF 0xdb249e9b697533b97f4cb9a712c4506337d27]⟩
def b1F:EAF depth A.depth:=by
 first|rfl|simp[Around.under,Code.weight,Code.isCreation,Code.isGuard,Code.isCaller,Code.frames,Code.isFrame,guardIds]
def b1E:EAF units A.units:=by
 first|rfl|simp[Around.under,Code.cUnits,Code.frames,Code.isFrame]
def Room.make(r:ADF A)(C:qE)(us:AI)(kw:rA):Room k (A.under D17) :=
 ⟨r.hd,by have:=r.dp;rw[BJ b1F c4Q this],by have:=r.un;rw[AE b1E (lq 0x478e91d4b4b88e647596796a3ae06337d27 this)]⟩
def Room.depth(r:B4C):A.depth<recursionLimit:=B17 r.dp 0x497e2cc6bcadd448b33ef9667
noncomputable def a0X:TA:=C4R []
noncomputable def a3R(ta:TE)(tr:TA):TA:=SL ta x (VF tr xs (Q IF H2))
def c6o:PA X [] a0X:=λ_ _ _ _ H Q I h=>EH7 Calls.spliced_nil
def c2K(c:sR)(d:B5P)(f:CG:=by rfl):C66 PA a3R:=by
 rw[BMZ pos];rw[f];show MD _ (BU2 ((false,bR)::DIM));refine Calls.spliced_cons (A5W c k);rw[kB a i k];exact thn (AU9 d pos H1 _ a q1) λm l (XV xs b j g)=>XV IF b (.cons i j) g
noncomputable def c5z(t:TA):TE:=E7Q (tV (AHS p xs))
noncomputable def b4i(t:TA):TE:=E7Q (DB9 xs)
def c6c{x1}(h:B5P):uY .Tuple es x1 (c5z t):=by
 rw[F6X wpAny_Tuple_spliced (AHS s1.heap.objs.size xs)];rw[FJ z f r E90]
def c6h(h:B5P):DY E5W (b4i t):=by
 rw[F6X wpAny_List_spliced (AJZ s1.heap.objs.size xs)];rw[EO z f 0 r KC]
noncomputable abbrev Sp:=AA->Hp->FC VK XK
variable {sp:Sp}
noncomputable abbrev CXT:=HB->Hp->qC->XK->qH
variable {CX:CXT}
structure Env0(P:qG)(w:World)(K:qF)(mg:AZ)(base:Heap)(A:Around)(outer:HB)(s:qC)(H:Hp):Prop where
 frames:CMV outer
 mod:Mod K mg base
 bs:ATT base.get? DSK
 bsz:base.objs.size<=s.heap.objs.size
 funs:BKE base outer
 frf:ZD oG LI
 hok:AQM s.heap
 bare:DEL
inductive CE(outer:HB)(P:qG)(w:World)(H:Hp)(s:qC)(Q:VK)(u:qB)(s':qC):Prop
 |mk (v H':_) (_:BPC) (_:jM) (_:D0V) (_:C6M) (_:OH) (_:B2N):CHV
noncomputable def CR(CX:CXT)(outer:HB)(P:qG)(w:World)(H:Hp)(s:qC)(Q:VK)(E:XK)(r:Result)(s':qC):Prop :=
 match r with
 |AS2 u=>CHV
 |AJG=>False
 |BW3=>DXO s'
structure FnOk(P:qG)(w:World)(K:qF)(mg:AZ)(base:Heap)(CX:CXT)(k:Nat)(f:qE)(fd:FuncData)(ps:AB)(sp:Sp):Prop where
 len:bM
 run:∀(A:Around) (outer:HB) (s:qC) (H:Hp) (args:Args) (us:AI) (vs:AA) (Q:VK) (E:XK),B4C->C8Z->BJQ args (ps.zip us)->A0C->WP ->
  AIM A5O (DL2 args) (CR CX outer P w H s Q E)
def Env0.make{outer:HB}(e:C8Z)(C:qE)(us:AI)(kw:rA) :
  CTF (CEG (aE CQG)):=⟨by first|exact e.frames | (simpa[Around.under,Code.envs,Code.isFrame,pushEnvs]using e.frames),e.mod,e.bs,e.bsz,e.funs,e.frf,e.hok,e.bare⟩
section
variable {s':qC}
def Inv.env0(I:AN):ABS Env0 X.base X.A X.stack s H :=
 ⟨I.ok.frames,I.ok.mod,I.bs,DV6,I.stack,I.stkFree,I.hok,I.bare⟩
def Inv.after{Q:VK}(I:AN)(h:CE X.stack X.prog X.w H s Q u s'):DLG:=by
 obtain⟨v,H',os,a,un,c,r,q⟩:=h;rw[uK f g t e s'];obtain rfl:e=s.os:=os;rw[EO v H' (BF I.call h' f g' g (d':=d) (t':=t) (ch:=[]) un c a BRH) r q]
#where
noncomputable def a9e(sp:Sp)(dvs:AA)(E:XK)(t:TA):TE:=SL t vs (sp B5M H1 Q E)
inductive tMethI(C:qE)(m:Str)(sp:Sp)(dvs:AA)(E:XK)(t:TA)(σ:St)(Q:VK)(x:V)(H1:Hp):Prop
 |mk (a dx fs:_) (_:IE) (_:BQ9) (_:BR6) (_:(VF t vs (sp (x::(vs++dvs)) H2 Q E))):ETX E t σ Q x H1
noncomputable def a2G(C:qE)(m:Str)(sp:Sp)(dvs:AA)(E:XK)(ta:TE)(t:TA):TE:=AYV ta (ETX E t σ Q)
noncomputable def b2U(C:qE)(sp:Sp)(dvs:AA)(E:XK)(t:TA):TE:=SL t vs (∀x dx,B4P->DCQ->AMI ->
 ERL EAA)
noncomputable def Binds(K:qF)(fd:FuncData)(ps:AB)(ds:AI):Prop :=
 ∀(s:qC) (us:AI),A9N->BDR DU3->BJQ BGN (ps.zip C99)
def Binds.all(h:∀us:AI,CLW->CMK fd):A3Z:=λs us _ a=>by
 rw[List.append_nil]at a⊢;exact .of_eq (h us a)
noncomputable def Y2(CX:CXT)(X:Cx)(E:XK):Prop:=∀(qK:DA) (σ:St) (H:Hp) (s:qC) (e:qB) (s':qC),AN->CX X.stack H s E e s'->X.xe e s'
section
variable {f:qE}{dvs:AA}{ds:AI}{E:XK}{m:Str}{p qN:Pos}{o:Expr}
def b1p{Q:VK}(F:tG)(g:fF)(c:A1H)(hd:A1K)(i:sZ)
  (I:AN) (r:A0C) (h:sp B5M H Q E):aW (LV call f us):=by
 have b:OU B5M C99:=r.append hd;have d:DU3=ps.length:=by rw[EX b.length (AHP h)]
 rw[A5L (wW (F.run X.A X.stack s H BGN C99 B5M Q E g I.env0 (c s us I.kIn d) b h) a)];cases r with
 |error e=>exact i qK σ H s e s' I a
 |ok fl =>
  cases fl with
  |ret u=>exact I.after a
  |next=>rw[YI]
  |brk=>rw[YI]
  |cont=>rw[YI]
def a8b(F:tG)(n:fF)(j:MM)(m:wN x f)(l:PySem.W.keepIn X.K cF=true)(g:A1H)(hd:A1K)(o:sZ)
  (d:fS) (a:GH:=by decide) (i:CG:=by rfl) (b:GG:=by rfl) :
  AZP (a9e sp dvs E t):=by
 rw[F1B m l u];exact b1p F n g hd o c r q
def b3n(w:B54)(c:lC)(j:EBE)(F:tG)(y:fF)(v:A1H)(hd:A1K)(A:sZ)(p:fS)
  (d:CG:=by rfl) (b:GG:=by rfl)
  (z:LQ B41=(do
   let ov <-eval o X.env
   standAt qN.atName
   let (f,first) <-holding [ov] (getMethod ov m pl)
   callWith pos f first (backTo pos (starEach (e::es) X.env)) (backToKw pos (keywordEach [] X.env))):=by rfl) :
  DY (tX ASH) (EYY t):=by
 rw[CBX (A5W w J) z];rw[BTW g D n J];rw[BTL D g n j];rw[D3O j.kp (thn (AU9 p pos H1 _ g q) λG K (XV vs i r B)=>GZ i.kIn) d b];exact BF b1p us (AV::G) vs CPT F y v hd A i B0C B
def b7o(i:B54)(c:lC)(d:EBE)(F:tG)(j:fF)(g:A1H)(hd:A1K)(p:sZ)
  (n:LQ B8F=(do
   let ov <-eval o X.env
   standAt qN.atName
   let (f,first) <-holding [ov] (getMethod ov m pl)
   callWith pos f first (backTo pos (starEach [] X.env)) (backToKw pos (keywordEach [] X.env))):=by rfl) :
  DY B8F (EYY a0X):=by
 rw[CBX (A5W i t) n];rw[BTW b r e t];rw[BTL r b e d];exact PySem.W.callWith_K0 (first:=ZM) b.kIn d.kp (BF b1p us ZM vs ZM F j g hd p b DWA q)
structure Mk(K:qF)(C f:qE):Prop where
 makes:B6Y
 init:DQE
 fn:C0J
 kp:C4U
def a9A{Q:VK}(M:C76)(F:tG)(m:A12)(j:A1H)(hd:A1K)
  (n:sZ) (I:AN) (r:A0C)
  (h:∀x dx,BWE->BWF->AMI->ERL BC6) :
  aW DWC:=by
 rw[AD c (h GO s.heap.objs.size C6C WZ wH) b (EJO I)];have d:OU (D0Z C10) E4F:=.cons rfl (r.append hd);have l:ZN ANB ds=ps.length:=by
  rw[CAR d.length (AHP c)]
 rw[A5L (F20 I.kIn (CCW (JJ ANB) E4F _ _ E (B8B m.make)
  (B8B b.env0.make) (j _ ANB b.kIn l) d c))]
 cases r with
 |error e=>exact n qK σ _ _ e s' b a
 |ok fl =>
  cases fl with
  |ret u =>
   obtain⟨v,H',g,p,i,o⟩:=b.after a;subst i;rw[AY p (FY C10 H' g o)]
  |next=>rw[YI]
  |brk=>rw[YI]
  |cont=>rw[YI]
def c2D(M:C76)(F:tG)(m:A12)(j:MM)(l:DN6)(g:A1H)(hd:A1K)(n:sZ)
  (d:fS) (a:GH:=by decide) (i:CG:=by rfl) (b:GG:=by rfl) :
  AZP (EYM t):=by
 rw[F1B l M.kp o];exact a9A M F m g hd n c r q
def b7p(M:C76)(F:tG)(e:A12)(c:MM)(d:DN6)(b:A1H)(hd:A1K)(g:sZ)
  (a:GH:=by decide):DY DL9 (EYM a0X):=by
 rw[LC];rw[BTD c d a];exact PySem.W.callWith_K0 I.kIn M.kp (a9A (us:=[]) M F e b hd g I .nil h)
#where
section
variable {f:qE}{ks:AB}{E:XK}{m:Str}{p qN kpos:Pos}{o:Expr}{kws:APW}{tk:TA}{nm:A85}
variable {g:EIA}{gV:EBU}
#where
structure FnScope(N P:AB)(sc:Scope):Prop where
 kind:D4P sc.kind:=by rfl
 co:HX sc.isCoroutine:=by rfl
 gen:HX sc.isGenerator:=by rfl
 nd:N.Nodup:=by rw[OP]
 pre:N.take P.length=P:=by rfl
 par:JY P DWQ:=by rw[OP]
 nofree:ZF sc.names (y.2≠.free):=by rw[OP]
def a7s{a:B2U}{x:Str}:EXP (C59 binds)
 |[],_,_=>rfl
 |DMW,m,h=>by
  rw[EJN bindL a7s]
  .rw[ETK]
   simp[this]
  .rfl
def a7u{a:B2U}{x:Str}:EXP (C5A binds)
 |[],_,_=>rfl
 |DMW,m,h=>by
  rw[EJN bindC a7u]
  .rfl
  .rw[ETK]
   simp[this]
def a7t{a:B2U}{x:Str}{v:qB}:F5N (ARX a ->
  iL (C59 BJ7))
 |[],_,_,_,_,h,_,_=>sM
 |HU,[],_,_,_,_,h,_=>sM
 |B6D,B4Q,0,m,nd,h1,h2,b=>by
  rw[F3R bindL bindL a7s B2B]
 |B6D,B4Q,AR,m,nd,h1,h2,b=>by
  rw[F1O (C59 BT5) bindL a7t]
def a7v{a:B2U}{x:Str}{v:qB}:F5N (a x≠AU .local ->
  iL (C5A BJ7))
 |[],_,_,_,_,h,_,_=>sM
 |HU,[],_,_,_,_,h,_=>sM
 |B6D,B4Q,0,m,nd,h1,h2,b=>by
  rw[F3R bindC bindC a7u B2A]
 |B6D,B4Q,AR,m,nd,h1,h2,b=>by
  rw[F1O (C5A BT5) bindC a7v]
noncomputable def start(N:AB)(vs:AA):St:=vs.map some++ATK (N.length-vs.length) none
noncomputable def E4(CX:CXT)(P:qG)(w:World)(K:qF)(mg:AZ)(base:Heap)(N:AB)(qual:Str)(scope:Scope)(f:qE)(cd:qB)(A:Around)(outer:HB)(s:qC)(H:Hp)(E:XK):Cx where
 prog:=P
 w:=w
 K:=K
 mg:=mg
 base:=base
 A:=ESQ
 N:=N
 s₀:=s
 H₀:=H
 env:=BOE
 outer:=outer
 stack:=AQD s.heap.objs.size
 ex:=[]
 calm:=true
 fn:=GA true
 pn:=[]
 xe:=λe s'=>DM A5O ESQ (leaving BOE e) (λ_ s''=>DXO s'') (λe' s''=>CX outer H s E e' s'') s'
def b0E{a:Scope}(h:AFY a.names.lookup):∃c,AUP n a.names []:=by
 have q:=PySem.W.cellsFrom_some a.names n [] (.inl h);exact Option.isSome_iff_exists.mp q
def b5m{N:AB}{qual:Str}{scope:Scope}{f:qE}{cd:qB}{outer:HB}{s1:qC}{E:XK}
  (S:EKD) (hd:OG) (d:C8Z) (hl:CJ3) (r:A0C)
  (x:InCallC s s.heap.objs.size (EZL bindL) (cellsFrom GO scope.names []) (EZL bindC) s1) :
  Inv DFP [] AR9 H s1:=by
 have o:ps.length<=N.length:=by rw[AZF S.pre];rw[gU List.length_take];rw[XF 0xd3c6d869c5cf4d6]
 obtain⟨h1,tk,rfl,t⟩:=x.done;have j:∀b:qE,b∉(DFP).ex:=wT b z (C9L z);refine⟨⟨d.mod,S.kind,rfl,rfl,BO,DP y z c h1 h2,AE5 g,DD y c _ h,GA hd,Around.frames_deeper d.frames,DJW,EKO,d.bs,d.bsz,λb _ _=>j b,EKO,d.funs,d.frf⟩,
  rfl,d.bare,Un.kept t,(DX x.toInCall.ns (DR i y v h1 h2 F)),λy c h=>ES (x.cell y c h),DAV,FH y c h,wT p l (show p∈tP DA from l),d.hok.kept t,?_⟩
 .exact name_of_addr x.apart (PySem.mem_of_lookup h1) (PySem.mem_of_lookup h2)
 .have g:BW scope.names.lookup y .cell∨BW scope.names.lookup y .free:=g;rcases g with g|g
  .exact b0E g
  rw[HQ rfl (S.nofree _ (PySem.mem_of_lookup g))]
 .exact Nat.le_of_lt EX9
 .have hi:D7G:=by
   unfold start at h2;rw[C2C]
   .exact hi
   .rw[BVG List.getElem?_append_right hi]at h2;rw[List.getElem?_replicate]at h2;split at h2<;>cases h2
  have C:A58:=by
   unfold start at h2;rw[BVG List.getElem?_append_left hi,List.getElem?_map]at h2;cases e:vs[i]? with
   |none=>rw[SO h2 h2]
   |some a=>rw[SO h2 h2];rfl
  rw[eV u B D C];have l:AUK ps:=by
   rw[<-S.pre,List.getElem?_take_of_lt (cT a8s hl)];exact h1
  have m:ps.Nodup:=by rw[A2V S.pre S.nd.sublist (BX List.take_sublist)]
  rw[DV u D ?_];rcases ML S.par y l with k|k
  rw[GE ⟨k,a7t m l B k⟩]
  .rw[RP c (b0E (n:=GO) k)];rw[iP ⟨BW8,c,e,?_⟩];have q:=AUV x.cell;rw[FF (a7v m l B (by show scope.names.lookup y≠_;rw[TY k])) q q]
 .exact d.hok.fresh (Nat.le_of_lt EX9)
 .unfold start;show _=N.length;rw[BUA List.length_append List.length_replicate];rw[KZ 0x350de526138b42d14bddebdf838457 hl o]
def b0t{f:qE}{name qual:Str}{c:Arguments}{scope:Scope}{G kV i pm a ct oc:qB}{an od:EN}
  {B:YM}{N:AB}(lk:BCJ F5I B) (m:CAM a) (S:EKD)
  (len:bM)
  (d:∀(A:Around) (outer:HB) (s:qC) (H:Hp) (vs:AA) (Q:VK) (E:XK),BFJ qual scope (WP ->
   ASP PSs CBF body)) :
  ACJ base CX BZ f F5I ps sp:=by
 rw[DU len (λA outer s H F W vs Q E p j L r l=>?_)];have O:=WB len l;have D:A9N:=DQH j.mod.kin.keeps;have z:s.heap.NoLimit:=DQH j.mod.nolimit.keeps;have g:ZF (ps.zip W) (BW scope.names.lookup XI .local∨(BW scope.names.lookup XI .cell/\B1P (BG5 GO scope.names []) XI)):=λ⟨n,v⟩ U=>by
  rw[bK (S.par n (List.of_mem_zip U).1)]
  rw[GE q]
  rw[FN (A7R (MZ PySem.W.cellsFrom_some (CW q)))]
 refine codeAny_call_function p.depth (AEU D) rfl S.co S.gen rfl (PySem.W.codeRec_of D m) (WB L ?_);rw[EF (wpAny_newFunctionEnv_cells S.kind g) env M s1 x];subst M;rw[DU (z.keeps x.toInCall.keep) (codeAny_func ?_)];obtain⟨t,T,R⟩:=D15 d vs Q E (p.deeper _) l;have I:Inv CBF [] AR9 H s1:=b5m S p.hd j O r x;refine UN (T [] s1 AR9 H _ I R) (FH fl s' h) e s' h h;have fin:∀{σ':St}{H':Hp}{v:V}{u:qB},Inv CBF [] σ' H' s'->OH->B2N->CHV :=
  λ{σ' H' v u} J C q=>⟨v,H',J.os,J.bare,J.base,J.hok,C,q⟩
 cases fl with
 |ret u =>
  rw[EQW J C];exact fin J C q
 |next =>
  rw[T6 σ' H' J q];exact fin (v:=V.non) (u:=Value.none) J rfl q
 |brk =>
  rw[BII q h q]
 |cont =>
  rw[BII q h q]
section
variable {p:Pos}{id T:String}{r:AN2}
noncomputable def tCB(r:AN2)(t:TA):TE:=SL t vs (r vs H1 Q)
def G1(f:mO id r)(i:MM)(j:AKX)(l:kW x id)(d:fS)(k:A7D:=by decide)(a:GH:=by decide)
  (g:CG:=by rfl) (b:GG:=by rfl):DN9:=by
 rw[F66 PyProof.Rows.callWith_builtin1]
def N4(f:dV A6L r)(i:MM)(j:AKX)(l:eN x T)(d:fS)(k:A7D:=by decide)(a:GH:=by decide)
  (g:CG:=by rfl) (b:GG:=by rfl):DN9:=by
 rw[F66 PyProof.Rows.callWith_type1]
#where
universe L2
namespace HT
open PySem PyProof.Rows
variable {Q:qH}
noncomputable def lexLt:EBV
 |[],[]=>false
 |[],HU=>true
 |HU,[]=>false
 |IF,MN=>DRG
def lexLt_cons(x y:Int)(xs ys:qI):lexLt IF MN=DRG:=rfl
def a6D:E3T []:=rfl
def a5D(y:Int)(ys:qI):lexLt [] MN=true:=rfl
def a5E(x:Int)(xs:qI):E3T IF:=rfl
def eqAt_int(A:Around)(s:qC)(a:Int)(t:Tok)(c:Int)(u:Tok):∃e,SeqAt.EqAt A s ANK C19 e/\(e=true↔a=c) :=
 ⟨(a==c),SeqAt.EqAt.int_int a t c u,AL⟩
def rcLt_int(A:Around)(s:qC)(a:Int)(t:Tok)(c:Int)(u:Tok)(prog:qG)(w:World)(E:qH)(Q:qH)(h:MK (BDC .bool (a<c))) :
  EI (richCompare .Lt ANK C19) :=
 (PyProof.Rows.lt_int h:DV1 ANK C19)
section
open PySem.SeqAt
open PySem.AutoSeq1 (wpAny_loadPart')
open PySem.MeetsSeq PySem.MeetsSeq2 PySem.MeetsSeq3
def a6n(l b:qE)(items f:DB)(n M:Nat)(dd E:EN)(sl G:YM)(ns ms:qI)(hi:DIK)(H:DGX f.toList) :
  EGF
   (λ_ R s=>AIC/\B35 (nE dC E (.seq f M) G) /\
    A9A (lexLt ns ms) s) :=
 (tH (by
  rw[bI C];obtain⟨L,J,h⟩:=h;have S:=AutoSeq1.sub_tuple_tuple;have N:items.size=ns.length:=by rw[<-hi.length];simp
  have O:f.size=ms.length:=by rw[<-H.length];simp
  rw[EHW (wpAny_loadPart' L) (wpAny_loadPart' J) (XD=none/\s'=B5V/\∃(vs D:AI) (k j:qI),rest=vs.zip D /\
   IntsAre vs k/\IntsAre D j/\k.length+f.size=j.length+items.size/\A9A E2H B5V)]
  case turn =>
   rintro⟨y,x⟩ rest b s' ⟨r,rfl,vs,D,k,j,o,v,m,i,hR⟩;cases v with
   |nil=>rw[AW List.zip_nil_left o o]
   |cons a t z =>
    cases m with
    |nil=>rw[AW List.zip_nil_right o o]
    |cons c u B =>
     rw[List.zip_cons_cons]at o;rw[C9F o]
     rw[CE7]
     subst hy hx;rw[lexLt_cons]at hR;simp only[List.length_cons]at i;rw[kI K p (eqAt_int A.in1 B5V a t c u)];rw[CEJ K];cases e with
     |true =>
      rw[B1L p.mp rfl]at hR
      wp_walk
      exact⟨rfl,rfl,_,_,_,_,hrest,z,B,BS 0xa4b974d602c1b300f00b9c27b38 i,hR⟩
     |false =>
      rw[E8L p.mpr];have F:=rcLt_int A.in1 B5V a t c u prog w
      wp_walk using F
      rw[BYW]
  case fin =>
   rintro⟨P,Q⟩ s' ⟨r,rfl,vs,D,k,j,o,v,m,i,hR⟩;simp only at r;subst r;have I:vZ E2H (items.size<f.size):=by
    cases v with
    |nil =>
     cases m with
     |nil =>
      rw[D54 i];rw[a6D];exact ZJ decide_eq_false (BS 0x5bc710b9018ffd0f1c5e i)
     |cons c u hw =>
      rw[ESG a5D decide_eq_true 0x9a71248677a6c8dd905f]
    |cons a t I =>
     cases m with
     |nil =>
      rw[ESG a5E decide_eq_false 0xd94ff433e6e4df61d6b37]
     |cons c u hw =>
      rw[AW List.zip_cons_cons o o]
   rw[I]at hR
   wp_walk
   rw[EJU]
  case h =>
   exact⟨rfl,rfl,items.toList,f.toList,ns,ms,rfl,hi,H,BT 0x9e6dd2a2a10e63ecaec5a36158 N O,h⟩))
#where
section
variable {prog:qG}{w:World}{A:Around}{E:qH}{s:qC}
def lt_tupInts{l b:qE}{items a:DB}{ns ms:qI}(hl:IsTup s.heap l items)(o:IsTup s.heap b a)(hi:DIK)(p:DGX a.toList)
  (q:C95) (h:DVQ):DV1 GV FT:=by
 rw[B0V m k n hl];rw[AE3 j g f i e c r d o];rw[B9K k c d k c d];exact F43 m qY (a6n l b items a n r dd g sl i ns ms hi p)
  ⟨m,e,EHX (Value.bool (lexLt ns ms)) DVQ⟩ q
def cat_tup{t b:qE}{vs a:AI}(r:E4T vs.toArray)(q:IsTup s.heap b a.toArray)(o:GY vs)
  (h1:a=[]->MK IQ) (h2:B3E->A4V (BP0 DV2))
  (k:CC (vs.length+a.length)):EI (binaryOp .Add IQ FT):=by
 obtain⟨⟨cls,dd,data,sl⟩,i,m,n,hd⟩:=id r;rw[AE3 l d j h c f p g q];rw[B9K m f g m f g];rw[jV e (vs.toArray++a.toArray) DV2]
 rw[CS hw a []]
 .exact EH5
   (F0H tuple_addW1 sl h D81 (IN hw)) ⟨i,c,h1 hw⟩
 .refine EH5
   (F0H tuple_addW2 sl h D81 CN0 (DPI k)) (xD i c)
  rw[BJ e h2 hw]
noncomputable def sIx(n d:Nat):EM->Nat
 |none=>d
 |SK=>AVP (v<0) v DO CYH
def sIx_none(n d:Nat):A4L d none=d:=rfl
def sIx_nat(n d k:Nat):EKF jU=C6D:=by
 show(AVP (jU<0) jU DO (min (jU).toNat n))=C6D;rw[CV0,Int.toNat_natCast]
def c5M(n d:Nat)(hd:d<=n)(o:EM):A4L d o<=n:=by
 cases o with
 |none=>exact hd
 |some v =>
  show EW7<=n;rw[aZ (v<0)]
  .rw[MW YA]
  .rw[AE XZ (BX Nat.min_le_right)]
def clip_eq(v:Int)(n d:Nat):EU1=EE (EKF v):=by
 show EU1=EE (EW7);rw[aZ (v<0)]
 .rw[YA,YA];exact B4H Int.ofNat_toNat
 .rw[XZ,XZ];rw[IG k (Int.eq_ofNat_of_zero_le (Int.not_lt.mp a))];show min jU DO=EE C6D;rw[XT (k<=n)]
  .rw[Nat.min_eq_left c,Int.min_eq_left (Int.ofNat_le.mpr c)]
  .rw[Nat.min_eq_right (Nat.le_of_not_le c),Int.min_eq_right (Int.ofNat_le.mpr (Nat.le_of_not_le c))]
def b2F(lo hi:EM)(n:Nat):ELW=(BAZ,E9P):=by
 rw[rP h1 (¬(SQ<0))]
 unfold Builtin.Slice.sliceAdjust;simp only[h1,if_false];rw[JZ Prod.ext ?_]
 .cases lo with
  |none=>rfl
  |some v=>exact clip_eq v n 0
 .cases hi with
  |none=>rfl
  |some v=>exact clip_eq v n n
def b1u(i j:Nat):Builtin.Slice.slicePlaces QW zT 1=j-i:=by
 unfold Builtin.Slice.slicePlaces;rw[rP h1 CVR]
 simp only[h1,if_true,Int.ediv_one];split<;>omega
def a4Q{v:qB}{o:EM}{Q:KR EM}(p:IsPart v o)(h:MK o):EI (Builtin.Slice.slicePartIndex v):=by
 cases p with
 |none=>exact slicePart_none h
 |int i t=>exact slicePart_int h
def a3k{sl:qE}{c d:qB}{lo hi:EM}{n:Nat}{Q:KR (lZ AL4)}(f:s.heap.IsSliceOf sl c d .none)(pl:IsPart c lo)(g:IsPart d hi)
  (h:MK (BAZ,1,A4L n hi-A4L 0 lo)):EI (Builtin.Slice.sliceApplied BV2 (pure DO)):=by
 rw[EC os b e a id f];rw[A7S Builtin.Slice.sliceApplied Builtin.Slice.sliceFields (A2R (AP0 a c) (A2R (AP0 a d) (vK (AP0 a .none))))];rw[KA slicePart_none];show MD _ (jJ (gK SQ 0) _);rw[A0E];rw[BI (a4Q pl (wpAny_bind (a4Q g (vK wpAny_bind))))];show MD _ (match ELW with | (lo,hi)=>pure (lo,SQ,Builtin.Slice.slicePlaces lo hi 1));rw[b2F lo hi n];show MD _ (pure (BAZ,SQ,Builtin.Slice.slicePlaces BAZ E9P 1));rw[pQ b1u h]
def b7k(xs:DB)(i k:Nat):BV0 ((List.range k).filterMap λ(QM m)=>DIU)=BPV xs.toList.drop i k:=by
 have e:(λ(QM m)=>DIU)=DKE:=by
  funext m;have:D21=i+m:=AF
  rw[this]
 rw[e];rw[cY (pick_run xs i k) List.filterMap_map];have e2:((λx=>xs[x]?) ∘ λx=>i+x)=DKE:=rfl;rw[gU e2];rw[this]
def getItem_tuple_cut{t sl:qE}{items:DB}{j k:qB}{lo hi:EM}(b:E4T items)(i:s.heap.IsSliceOf sl j k .none)(pl:IsPart j lo)(n:IsPart k hi)
  (hw:¬(ACR=0/\EJV=items.size))
  (h:A4V (BP0 EP9))
  (g:CC items.size):EI (LV getItem t BV2):=by
 have a:sizeOk (.seq EP9):=by
  show CC ((items.toList.drop ACR).take AXU).toArray.size;rw[List.size_toArray,List.length_take,List.length_drop,Array.length_toList];rw[ED 0xf67a5586ad54be2fa9373fd357298a78851a5e3bdacb3975d8 g]
 have p:EJV<=items.size:=AM c5M BO hi;rw[EC os f d l id i];have c:BXY sl "slice":=⟨os,f,d⟩;unfold getItem
 rw[E07]
 first|rw[kR]|skip
 rw[gX wpAny_sequenceKey b.typeIs AG];rw[BI (BMD (DK "__getitem__") b.typeIs PyProof.Rows.slot_tuple_getitem
  (wpAny_call_entry PyProof.Rows.slot_tuple_getitem b.typeIs entry_tuple_getitem ?_ (BX args_tuple_getitem)))]
 rw[AUW (II Builtin.Tuple.tupleItemsOf t)];rw[jE (tupleItemsOf_ b ?_) (wpAny_typeOf c ?_)];rw[xO];rw[A4X a3k i pl n];have e:¬(F0Y):=by
  intro q;rw[Bool.and_eq_true,Bool.and_eq_true]at q;have q1:CV5=0:=D4J EB.1;have o:AXU=items.size:=D4J CZ;exact hw ⟨BS 0x346f1040d2e312d8455 q1,BT 0x7299abaece81d0dc9c1b5808f0402497e1457 q1 o⟩
 show MD _ (jJ F0Y _);rw[JQ,b7k]
 first
  |rw[E0Y EGG]
  |rw[E0Y (CZD wpAny_bind DLD)]
  |rw[zR (wpAny_bind (m:=BGH) (wpAny_newObj_type DLD a))]
  |rw[zR (wpAny_bind (m:=BGH) EGG)]
#where
universe HT
namespace L2
open PySem PySem.Spec PyProof.Rows
variable {H:Hp}{X:Cx}{n:Nat}{qK:DA}{s:qC}{us:AI}{x:V}{xs:AA}{α:Type}{σ:St}
noncomputable abbrev TO:=B84 BWU
noncomputable def PO(X:Cx)(e:A84)(t:TO):Prop :=
 B8L BWU (AV7 ->
  UO (lH evalPart e) (λu s'=>∃o H',kZ/\IsPart u o/\GL o))
noncomputable def K8:TO:=C4R none
inductive tPartI(Q:BWU)(x:V)(H1:Hp):Prop
 |mk (i:_) (_:AN7) (_:Q (some i) H1):CB5 tPartI
noncomputable def b2T(t:TE):TO:=B9V t tPartI
def a2z{ns:qI}:∀{us:AI},A4U ns.map V.int us->BG3 us:=by
 induction ns with
 |nil=>intro us r;rw[CA4 r r]
 |cons n ns a =>
  intro us r;rw[C5Y];cases r with
  |cons r1 r2 =>
   rw[RP t r1];rw[pT (.cons n t (a r2))]
section
variable {e:Expr}{te:TE}{lo hi:A84}{tl th:TO}{pos p2:Pos}
def c2p:PO X none K8:=by
 rw[LC];rw[pQ evalPart_none (BJG none .none)]
def c2o(h:sR):PO X D65 DKC:=by
 rw[lM Q hw];rw[evalPart_some];refine GU E35 u s1 c;rw[kB a b c];rw[GN i q q1];rw[IM b];rw[EO (AU i) H1 a AUY q]
noncomputable def SlR(X:Cx)(r:CFQ):Prop :=
 ∀(qK:DA) (s:qC) (σ:St) (H:Hp) (x:V) (v vl vu:qB) (lo hi:EM) (sl:qE) (Q:VK),AN->aL->s.heap.IsSliceOf sl vl vu .none->IsPart vl lo->IsPart vu hi->r x lo hi H Q ->
  ∃T id,EGS/\E4D/\aW (getItem v BV2)
noncomputable def tSl(r:CFQ)(te:TE)(tl th:TO):TE:=SL te x (VF tl l (th σ H2 λu H3=>r x l u H3 Q))
def a9J{r:CFQ}(p:SlR X r)(n:sR)(hl:PO X lo tl)(w:PO X hi th):C0D e BSS (tSl r te tl th):=by
 rw[AW8 Subscript_ (nU n d)];rw[kB g B d];refine wpAny_Slice (thn (vM hl g) λc C (XV l i pl z)=>GU (AKC w C i z) vu a d);obtain⟨u,f,j,y,A⟩:=d;rw[evalPart_none];rw[pC];have k:IW f CGY:=j.kept (t':=a.toks) λb D q=>mX;obtain⟨T,id,m,t,o⟩:=OQ p CGY f x v c vu l u a.heap.objs.size Q k B (Heap.IsSliceOf.new ..) pl y A;show DM SD X.A (subscriptTail e BSS v D5H) BOV X.xe CGY;exact tail_any (ops:=[D5H,v]) t m o CO
noncomputable def a0s(xs:AA)(lo hi:EM):AA:=D3A xs.drop
def a4c(xs:AA)(lo hi:EM):iQ a0s xs lo hi<=xs.length:=by
 unfold a0s;rw[FK List.length_take List.length_drop lq 0x889ddb398b0a9203f8af42d478e50ebcd191fce7b57]
inductive rSlT(K:qF)(x:V)(lo:EM)(hi:EM)(H:Hp)(Q:VK):Prop
 |mk (a xs:_) (_:IE) (_:bG) (_:¬(BI0=0/\HT.sIx xs.length xs.length hi=xs.length)) (_:AC0 (AGF AX8)):EMQ rSlT
def c5H:AMR SlR rSlT:=by
 rw[F7V];obtain⟨a,xs,rfl,g,hw,q⟩:=h;cases j;rw[MC r d e I.tuple g];rw[DTB c xs.length r.length.symm]
 refine⟨"tuple",_,PyProof.Rows.slot_tuple_getitem.lookup,d.typeIs,?_⟩;refine HT.getItem_tuple_cut d f pl i (AJ c hw) ?_ (AJ c e);rw[c];refine BRI AX8 k AL8;rw[FJ DTQ _ DY9 AHG]
inductive rCatT(K:qF)(x:V)(y:V)(H:Hp)(Q:VK):Prop
 |mk (a b xs ys:_) (_:IE) (_:A9G) (_:bG) (_:DLN) (_:BY5) (_:DQB) (_:(ys=[]->Q AV H)) (_:(GY ys->AC0 (AGF B02))):B82 rCatT
def Vals.nil_iff(r:aH):us=[]↔xs=[]:=by
 cases r with
 |nil=>simp
 |cons _ _=>simp
def c2P:ALW (rCatT X.K):=by
 rw[NK m n];obtain⟨a,b,xs,ys,rfl,rfl,g,i,j,e,q1,l⟩:=h;rw[pJ m n];rw[AE2 its d k (I.tuple g) f c D9M];refine HT.cat_tup k p2 (nB j d.nil_iff.mp) (λz=>vL AV (q1 (c.nil_iff.mp z))) AJT (by rw[<-d.length,<-c.length];exact e);refine BRI B02 p (l (λw=>z (c.nil_iff.mpr w)) _ WZ);rw[FJ (AJ List.length_append e) _ (d.append c) AHG]
#where
noncomputable def ixN(n:Nat)(i:Int):qJ:=if B2H then(UM JP (AU i.toNat) none)else B7N C6L (B3S n)
noncomputable def atI{α:Type}(xs:DI)(i:Int):qD α:=(ixN xs.length i).bind λj=>xs[j]?
def b3G{i:Int}{j:Nat}(h:ixN n i=some j):CZC n j/\kM /\ C6L/\JP:=by
 rw[VN ixN];rw[aZ B2H]
 .rw[YA]at h;by_cases h1:JP
  rw[EZ5 i.toNat (CPG h1) (bE 0x1e537b77ce345f5237) h1]
  .rw[XA AK5]
 .rw[XZ]at h;by_cases h1 : C6L
  rw[EZ5 (B3S n) (seqIndex_neg A76 h1) h1 (bE 0x1e537c1eeedf416237)]
  .rw[XA AK5]
def a4J{xs:DI}{i:Int}{v:α}(h:CB6):∃j,DWT j/\DOX/\kN /\ -AHC<=i/\AJU:=by
 rw[VN atI];cases e:ixN xs.length i with
 |none=>rw[AOK]
 |some j =>
  rw[e]at h;obtain⟨h1,h2,a,b⟩:=b3G e;rw[ID j h1 h h2 a b]
def K4{xs:DI}{j:Nat}{v:α}(h:DOX):DFG zT:=by
 have a:kN:=IB h;have e:ixN xs.length zT=some j:=by
  unfold ixN;rw[CV4,DF (hY b1S)];simp
 unfold atI;rw[AE e h]
def a0u(xs:DI)(v:α):iL (atI BP2 NH):=by
 rw[jV a D96 B1O]
 have e:ixN D96 NH=some xs.length:=by
  unfold ixN;rw[a,XR,DF (VR 0x3bffc5e69fbc35)];congr 1;omega
 rw[EY atI e];show OO ((BP2)) xs.length v;simp
noncomputable def a4K(b:Expr):Prop:=∀o i,subscripted b false o i=CEE o i o i
noncomputable def IxR(X:Cx)(r:R2):Prop :=
 ∀(value slice:Expr) (qK:DA) (s:qC) (σ:St) (H:Hp) (x y:V) (v u:qB) (Q:VK),BLP LJ (YJ r ->
  subscripted slice false v u=CEE v u v u->aW (subscriptTail value slice v u))
noncomputable def MtR(X:Cx)(id:String)(r:sT):Prop :=
 F80 (E54 ->
  ELB)
section
variable {a b:Expr}{ta tb:TE}{pos:Pos}
def b7q{r:R2}(f:IxR X r)(d:VX)(e:sW)(g:B2E):C0D a b BYB:=by
 rw[B43 Subscript_ (CHL k i j (f a b qK k σ H2 x y v u Q c i j q D6K))]
inductive rIxL(K:qF)(x:V)(y:V)(H:Hp)(Q:VK):Prop
 |mk (p xs i v:_) (_:DBM) (_:C2D) (_:ANA) (_:CB6) (_:AL5):B82 rIxL
inductive rIxT(K:qF)(x:V)(y:V)(H:Hp)(Q:VK):Prop
 |mk (p xs i v:_) (_:DBM) (_:C2D) (_:C3J) (_:CB6) (_:AL5):B82 rIxT
inductive rIxS(x:V)(y:V)(H:Hp)(Q:VK):Prop
 |mk (z i c:_) (_:rC z) (_:C2D) (_:BVL) (_:atI z.cps.toList i=some c) (_:xJ HL):YJ rIxS
def c3V:AMR IxR rIxL:=by
 rw[CI2 c n o];obtain⟨p,xs,i,z,rfl,rfl,m,l,q⟩:=h;rw[A7P n o];rw[ANE C m];obtain⟨j,h1,h2,A,e,k⟩:=a4J l;rw[eV w d b h2];rw[CH2 f B b];rw[aZ B2H]
 .have hj:i.toNat=j:=by
   rw[CB2 k]
  exact item_listR pl.isList a AF DQZ fin g
 .have hj:B3S AJF=j:=by
   rw[EGP f]
  exact EIY pl.isList.typeIs slot_list_getitem.lookup
   (wpAny_getItem_list_neg (Q:=CT2) pl.isList A76 (C9A (b9t e f)) AF DQZ D93) g
def c7l:AMR IxR rIxT:=by
 rw[CI2 b k l];obtain⟨p,xs,i,z,rfl,rfl,f,d,q⟩:=h;cases k;rw[IM l];rw[C3Q B f];obtain⟨j,h1,h2,m,n,o⟩:=a4J d;rw[eV w c a h2];rw[CH2 e A a];exact EIY pl.typeIs slot_tuple_getitem.lookup
  (BF getItem_tuple j j Q CT2 pl AF AF (B18 e h1) D80 D93) g
def c7m:IxR X rIxS:=by
 rw[CI2 a k l];obtain⟨z,i,c,rfl,rfl,o,e,q⟩:=h;rw[A6Z k l];obtain⟨j,h1,h2,m,b,d⟩:=a4J e;have f:z.cps.toList.length=z.length:=by simp[Str.length]
 rw[f]at h1 b d;have n:=a1r;exact tail_any EJK slot_str_getitem.lookup (getItem_str (c:=c) (by
  have e1:dF (i < -BH WX):=B27;have e2:dF (BUR i):=B27;rw[e1,e2,Bool.or_false]) (BK8 h1 h2) (DHI HL)) g
def b1D(its:AI)(n j:Nat)(u:qB):Obj.mapSeq (·.setIfInBounds j u) AGP=BFW (its.set j u).toArray:=by
 simp[Obj.mapSeq]
def Inv.lst{p:qE}(I:AN)(h:B52) :
  F0D E5Q aO:=by
 rw[BCI (AG9 h)];rw[EO its n r e z]
def Inv.lstUpd{p:qE}{ys:AA}{its its':AI}{a:Nat}{f:DYU}(I:AN)(h:B52)
  (g:E5Q) (c:f AGP=E5A) (r:DTL) (i:kK) (t:Nat) :
  IW (ABL ys) (gE (DAG f) t):=by
 have e:BW (DJS p f) p E5A:=by
  rw[BZ8 f g (by rw[c]<;>rfl),c]
 refine ANY p p (by rw[h];trivial) HK (TC d q (rF (Ne.symm d) q)) (ES e) ?_;rw[EO i its' a r e]
inductive rSetL(o:V)(i:V)(v:V)(H:Hp)(Q:(JN Hp)):Prop
 |mk (p xs k j:_) (_:LR o p) (_:i=.int k) (_:B52) (_:ixN xs.length k=some j) (_:Q E5D):EVD rSetL
def a9v:c7Q X rSetL:=by
 intro qK s σ H o i v B A u Q I x w y h;obtain⟨p,xs,k,j,rfl,rfl,g,l,q⟩:=h;rw[A7P x w];obtain⟨its,n,r,c,m⟩:=I.lst g;rw[EC h1 h2 e f b3G l];rw[AD b r.length z a1r];have d:IW E5D (KQ (DAG ((Obj.mapSeq (·.setIfInBounds j u))))) :=
  I.lstUpd g c (b1D its n j u) (r.set y j) (AJ List.length_set m) s.toks
 rw[aZ (0<=k)]
 .have hk:k.toNat=j:=by
   rw[CB2 f]
  exact PySem.W.ki_setAt c a AF (B18 b f) E8K
 .have hk:UC (k+AJF)=j:=by
   rw[EGP b]
  exact PySem.W.ki_setBack c A76 (by rw[jB b];exact e) AF E8K
def b0C(i:Int)(n:Nat):max 0 (min (if i<0 then DD5 else i) DO)=if i<0 then max DD5 0 else min i DO:=by
 rw[mU h 0]
 .rw[rS,rS,Int.min_eq_left (AKE 0x2ae4e623673a8817),Int.max_comm]
 .rw[DE bC bC (Int.max_eq_right (Int.le_min.mpr ⟨Int.not_lt.mp h,Int.natCast_nonneg n⟩))]
def a7M(lo hi:EM)(n:Nat):(CC5).1=E2K 0 lo/\(CC5).2.1=E2K n hi/\(CC5).2.2=1:=by
 rw[DV ?_ ?_ rfl]
 .cases lo with
  |none=>rw[DZV]
  |some i =>
   rw[F5O 0]
 .cases hi with
  |none=>rw[DZV]
  |some i =>
   rw[F5O n]
def a6p(its:AI)(lo hi:EM):slicePick its.toArray lo hi none=BPV its.drop DIB (HT.sIx its.length its.length hi-DIB):=by
 rw[C9E a (a7M lo hi its.toArray.size)];unfold slicePick;rw[h1,h2,a];simp only[sliceRange_one,pick_run,List.size_toArray]<;>rfl
inductive rSlL(K:qF)(x:V)(lo:EM)(hi:EM)(H:Hp)(Q:VK):Prop
 |mk (a xs:_) (_:IE) (_:fK) (_:AD4 AX8):EMQ rSlL
def c1I:AMR SlR rSlL:=by
 rw[F7V];rw[RC a xs rfl g q];cases j;rw[MC r d e I.list g];have c:=r.length;refine⟨"list",_,slot_list_getitem.lookup,d.isList.typeIs,?_⟩;refine wpAny_getItem_list_slice d.isList f pl i .none AL ?_ (C9A (a0P e c));rw[a6p,<-c];refine AVK s.toks (o:=BQ AX8) k ?_ AL8;rw[EO DTQ _ 0 DY9 KC]
noncomputable def L8:B6B
 |.non=>true
 |cX=>true
 |VQ=>true
 |XX=>true
 |_=>false
noncomputable def eqV:E5P
 |.non,.non=>true
 |.bl a,aC=>a==b
 |.bl a,BD b=>UM a 1 0==b
 |BD a,aC=>a==UM b 1 0
 |BD a,BD b=>a==b
 |CUL,D7U=>a==b
 |_,_=>false
def c0N{A:Around}{y:V}{u v:qB}(e:LJ)(c:aL)(f:A9U)(d:sJ):CDU BRD:=by
 cases y with
 |non =>
  rw[CM];cases x with
  |non=>cases c;exact SeqAt.EqAt.same _
  |bl b=>cases c;exact SeqAt.EqAt.none_bool b
  |int b=>rw[RH];exact SeqAt.EqAt.none_int b t
  |str b=>rw[RH];exact SeqAt.EqAt.none_str b t
  |_=>rw[vH d]
 |bl a =>
  rw[CM];cases x with
  |non=>cases c;exact SeqAt.EqAt.bool_none a
  |bl b=>cases c;exact SeqAt.EqAt.bool_bool a b
  |int b=>rw[RH];exact SeqAt.EqAt.bool_int a b t
  |str b=>rw[RH];exact SeqAt.EqAt.bool_str a b t
  |_=>rw[vH d]
 |int a =>
  rw[IG t' e];cases x with
  |non=>cases c;exact SeqAt.EqAt.int_none a t'
  |bl b=>cases c;exact SeqAt.EqAt.int_bool a t' b
  |int b=>rw[BC3 SeqAt.EqAt.int_int]
  |str b=>rw[BC3 SeqAt.EqAt.int_str]
  |_=>rw[vH d]
 |str a =>
  rw[IG t' e];cases x with
  |non=>cases c;exact SeqAt.EqAt.str_none a t'
  |bl b=>cases c;exact SeqAt.EqAt.str_bool a t' b
  |int b=>rw[BC3 SeqAt.EqAt.str_int]
  |str b=>rw[BC3 SeqAt.EqAt.str_str]
  |_=>rw[vH d]
 |_=>rw[vH f]
noncomputable def eqU(x:V)(u:qB):Bool:=match u with
 |.none=>eqV .non x
 |B2D=>eqV (.bl b) x
 |CA6=>eqV (.int i) x
 |.str z _=>eqV (.str z) x
 |_=>false
def c0M{y:V}{u:qB}(r:LJ)(f:A9U):eqU x u=BRD:=by
 cases y with
 |non=>rw[A0Q]
 |bl b=>rw[A0Q]
 |int i=>rw[A9K]
 |str z=>rw[A9K]
 |_=>rw[vH f]
def a3f{x:V}:F2F (BFV us.any=EAR)
 |_,_,.nil,_=>rfl
 |y::xs,u::us,A9Y,f=>by
  rw[E99];rw[DZR E4J (a3f t XC)]
def a1k{A:Around}{s:qC}{x:V}{v:qB}(c:aL)(b:sJ):F2F (∀u∈us,CDU (eqU x u))
 |_,_,.nil,_=>λu a=>by cases a
 |y::xs,u::us,A9Y,f=>λd a=>by
  rw[E99];rw[A1N]
  .rw[AE E4J (c0N r c jO b)]
  .exact a1k c b t XC d a
noncomputable def inV(x:V)(xs:AA):Bool:=EAR
inductive rIn(K:qF)(neg:Bool)(x:V)(y:V)(H:Hp)(Q:VK):Prop
 |mk (p xs:_) (_:ACU p) (_:(ANA∨C3J)) (_:sJ) (_:AI9) (_:DGG (! E1G) E1G):EMS rIn
def b4H:B4R (rIn X.K false):=by
 rw[F5P]
 rw[EDY SeqAt.in_listAt]
 rw[BU1 I.tuple SeqAt.in_tupleAt pl]
def a8d:UT .NotIn (rIn X.K true):=by
 rw[F5P]
 rw[EDY SeqAt.notIn_listAt]
 rw[BU1 I.tuple SeqAt.notIn_tupleAt pl]
def a8P:B4X (AF0 (EZT DD6)):=by
 rw[ER1 e b c];cases c;have d:=a1r;rcases b with b|b
 rw[F4K I.list Calls.call_len_list pl.isList]
 rw[F4K I.tuple len_tuple pl]
def a8O:B4X (AF0 (∃z,xs=[D8Z]/\BVL/\DD7)):=by
 rw[EG9 z];rw[CHC];have a:=a1r;exact len_str AF (pW (BD z.length))
def a8N:B5T A3K (EZT DQL):=by
 rw[ER1 m g k];cases k;have fin:∀(its:AI),C0O->kK->AJ3 h' Heap c ((∀b o',B35 o'->E2Y) ->
   C24 (EOY its.toArray)->nZ QR UI):=λits f d h' c kp e =>
  FY QR _ (BGW I.laid kp BO (show ObjOk X.prog X.w _ h' _ ARF from⟨d,its,c,f,e⟩)) AL8
 rcases g with g|g
 rw[F6A I.list pl.isList HK]
 rw[F6A I.tuple pl A80]
def a6E:B5T dC (∃p ys,xs=[EU]/\ESO CXY CXZ):=by
 rw[QA i r];rw[T6 p ys rfl h];rw[BRG g];cases g;rcases h with⟨c,q⟩|⟨c,q⟩
 .rw[MC r' pl hz I.list c];have a:=r'.length;refine call_tuple_list pl.isList (AS h' kp) (D1H hz);have d:AYC:=I.kept (t':=s.toks) kp;have f:DOF ys (KQ (CZ1 its.toArray)) :=
   BGW d.laid DCO BO (EYD (FX ys) hz its r')
  exact AG7 h'.objs.size f (q _ DAV)
 .rw[MC r' pl hz I.tuple c];exact call_tuple_same pl (vL EU q)
noncomputable def tyV(K:qF)(T:String)(x:V)(H:Hp):Prop:=match x with
 |XX=>DJK
 |VQ=>DJJ
 |EU=>(T="list" /\ ∃xs,ANA)∨(T="tuple" /\ ∃o,ATN K.lookup/\DIL/\B38) ∨
   (T="dict"/\((∃qL,BRE)∨∃qL,YP p .dT qL))∨(T="set" /\ ∃S n,WS E2Q)
 |_=>False
def b6j{T:String}{v:qB}(I:AN)(r:aL)(ty:tyV X.K T x H) :
  E4D/\∀a,AGC->∃d,OX s.heap.get? d/\KY d.dict:=by
 cases x with
 |str z =>
  rw[E6T DJK EJK]
 |int i =>
  rw[E6T DJJ (AUM s i)]
 |ref p =>
  cases r;rcases ty with⟨rfl,xs,g⟩|⟨rfl,o,b,f,hd⟩|⟨rfl,b⟩|⟨rfl,S,n,b⟩
  .obtain⟨its,_,pl,_⟩:=I.list g;rw[HA pl.isList.typeIs a e];rw[CM];obtain⟨o,n,e,c,hd,_⟩:=pl;rw[AX o e hd]
  .rw[HA (PK (I.kIn p o b) f) a e];rw[CM];rw[AX o (I.kIn _ o b) hd]
  .have z:∃o,CX6/\o.ExactDict:=by
    rw[DZO b b b]
    rw[F1W]
    rw[F1W]
   rw[aM o ex z];rw[EOR]
  .obtain⟨o,_,_,_,e,ex,_⟩:=AG9 b;rw[EOR]
 |_=>rw[UQ ty]
noncomputable def c1B(K:qF)(T:String)(r:sT)(to:TE):TE:=ERJ (r x [] H1 Q)
noncomputable def tBM(K:qF)(T:String)(r:sT)(to:TE)(t:TA):TE:=ERJ (VF t xs (r x xs H2 Q))
variable {o e:Expr}{es:BN}{to:TE}{t:TA}{name:Str}{qN qM:Pos}{T id:String}{r:sT}
def c6m(j:B83)(c:BBY)(d:APA)(g:BAH)(i:A0O)
  (a:ALV:=by rfl) (b:OM:=by rfl):AJW name [] (c1B X.K T r to):=by
 rw[LC];refine wpAny_Call_method0_late a b (nU i k);obtain⟨x,H1,e,f,ty,q1⟩:=k;rw[QC (b6j e f ty)];exact⟨T,id,j,c,d,h1,h2,Calls.callWith_builtin rfl (PySem.evalArgs_none (VP g x [] v [] Q e f .nil q1))⟩
def c8B(u:B83)(f:BBY)(g:APA)(n:BAH)(p:A0O)(m:fS)
  (b:ALV:=by rfl)
  (d:LU (ARP
   && ARO):=by rfl)
  (c:OM:=by rfl) (q:CG:=by rfl) (a:RZ:=by rfl) :
  CA9 (tBM X.K T r to t):=by
 rw[ETZ b d c p B];obtain⟨x,H1,i,k,ty,q1⟩:=B;rw[QC (b6j i k ty)];refine⟨T,id,u,f,g,h1,h2,?_⟩;have j:=BQY m i q1;rw[q]at j⊢;rw[EHM ((by show(false || (backTo qM (starEach es X.env)).any (·.1))=false;rw[a]<;>rfl)) j A z (XV vs l y w) (AE8 n z x vs v A Q l k y w)]
#where
noncomputable def MtM(X:Cx)(id:String)(r:sT):Prop :=
 F80 (E54 ->
  ELB)
def Vals.one(h:DBS):DVZ:=by
 cases h with|cons r t=>cases t;exact CD r
def Vals.two{y:V}(h:DBT):∃u v,us=[u,v]/\aV/\E2W:=by
 cases h with|cons r t=>obtain⟨_,rfl,q⟩:=Vals.one t;rw[EO _ _ rfl r q]
def Vals.eraseIdx:BTV i (Vals (xs.eraseIdx i) (us.eraseIdx i))
 |_,_,_,.nil=>.nil
 |_,_,0,B9N=>t
 |_,_,AR,A9Y=>.cons r (Vals.eraseIdx i t)
def Vals.rep{xs:AA}{us:AI}(h:aH):∀k:Nat,OU (BJ2 k) (hV k us)
 |0=>.nil
 |BZ=>by
  rw[List.replicate_succ,List.replicate_succ,List.flatten_cons,List.flatten_cons];exact Vals.append h (Vals.rep h k)
def a7b{α:Type}:AJ3 l DI i (NF l.eraseIdx i l.length)
 |[],_=>BO
 |HU,0=>AJH
 |_::r,AR=>Nat.succ_le_succ (a7b r i)
def a7j(its:AI):∀(k:Nat) (qQ:AI),
  EXG
 |0,qQ=>AL
 |BZ,qQ=>by
  rw[ER6]
  have e2:(qQ++its)++AZ6 k=qQ++AZ6 BZ:=by
   rw[List.replicate_succ,List.flatten_cons,List.append_assoc]
  rw[<-e2,<-a7j its k (qQ++its),<-e,List.replicate_succ,List.foldl_cons]
section
variable {l b:qE}{ys zs:AA}
def Inv.lset{its its':AI}{f:C93}{t':Nat}(I:AN)(a:fL)
  (e:DII) (c:f its.toArray=its'.toArray) (g:DTL) (h:kK) :
  IW (cC l ys) (gE (s.heap.update l (Obj.mapSeq f)) t'):=by
 have q:=PySem.IsL.update e f;rw[c]at q;refine ANY l l (AJ a trivial) HK (λb' u b d=>mC (Heap.get?_update_other s.heap (Obj.mapSeq f) (Ne.symm b)) d) (ES q) ?_;rw[EO h its' _ g q]
def Inv.lnew{its:AI}{t':Nat}(I:AN)(a:C0O)(hz:kK) :
  IW (cC s.heap.objs.size ys) (gE (AB7 (BHO its.toArray)) t') :=
 I.laid BPW BO ⟨hz,its,0,a,KC⟩
def Inv.fresh(I:AN):A02:=WZ
def Inv.lstM(I:AN)(a:fL):aO/\F0D (A39 its.length) DII:=by
 rw[BCI (AQF l a)];rw[ID z its n r r.length e]
def a9U(h:BVK):OS Builtin.List.listTooLong n:=by
 unfold Builtin.List.listTooLong;exact decide_eq_false (~~~b1R h)
#where
inductive rAppend(x:V)(vs:AA)(H:Hp)(Q:VK):Prop
 |mk (l xs y:_) (_:A0B) (_:B40) (_:fL) (_:ARA xs.length) (_:B1W (cC l (xs++[y]))):A0K rAppend
def b4X:zP "list.append" rAppend:=by
 rw[fE i g f];obtain⟨l,xs,y,rfl,rfl,a,b,q⟩:=h;cases g;rw[GN u d f.one];rw[A7M c (I.lstM a)];rw[EN3 qY (PySem.list_append l its.toArray n u (AJL List.size_toArray 0x172b971a68aea6d97 b c)) e];refine EXV (its++[u]) a (E14 r.append d);rw[FK List.length_append List.length_singleton a8w b]
inductive rExtend(x:V)(vs:AA)(H:Hp)(Q:VK):Prop
 |mk (l b xs zs:_) (_:A0B) (_:QS FT) (_:fL) (_:E45) (_:DQC) (_:B1W (cC l DHQ)):A0K rExtend
def b4W:zP "list.extend" rExtend:=by
 rw[fE y w t];rw[EXQ j k];cases w;rw[VL p t.one p];rw[E93];obtain⟨A,a,m,o,f,e2⟩:=I.lstM j;have d:CC DYY:=by rw[DE List.size_toArray List.size_toArray (b9q k i f)]
 have c:¬hQ (! its.toArray.isEmpty) (Builtin.List.listTooLong DYY):=by
  rw[B2P (a9U d) Bool.false_ne_true]
 refine EEA F.slot_list_extend F.entry_list_extend F.args_list_extend_2
  (AutoSeq1.list_extend_list_list_0 l its.toArray n b a.toArray m c (D68 (a0P z i)) (BS 88490196655832471 d)) (xD e e2)
 refine EXV (its++a) g (r.append o);rw[MW List.length_append]
inductive rPopAt(x:V)(vs:AA)(H:Hp)(Q:VK):Prop
 |mk (l xs i k y:_) (_:A0B) (_:QS NQ) (_:fL) (_ : -(WX)<=i) (_:i<WX) (_:DWT k) (_:A86 k y) (_:Q y (SF l (bN xs.eraseIdx k))):A0K rPopAt
def b8g:zP "list.pop" rPopAt:=by
 rw[fE o m j];obtain⟨l,xs,i,k,y,rfl,rfl,b,h1,h2,d,f,q⟩:=h;cases m;rw[GN u g j.one];rw[IM g];rw[A7M c (I.lstM b)];rw[eV w hw a f];refine EEA F.slot_list_pop F.entry_list_pop F.args_list_pop_2
  (E7B MeetsSeq.list_pop_at i t k w DK4 (B18 c d) (PU Array.getElem?_toList hw) (D68 (a0P z c))) DAY
 refine⟨y,_,I.lset (its':=its.eraseIdx k) b e ?_ (r.eraseIdx k) ?_,a,q⟩
 .show its.toArray.eraseIdxIfInBounds k=(its.eraseIdx k).toArray;rw[List.eraseIdxIfInBounds_toArray]
 .have:=a7b xs k;exact a5y z this
inductive rCat(x:V)(y:V)(H:Hp)(Q:VK):Prop
 |mk (l b xs zs:_) (_:A0B) (_:A9G) (_:fL) (_:E45) (_:DQC) (_:AD4 DHQ):YJ rCat
def c6A:ALW rCat:=by
 rw[NK m o];rw[EXQ f j];rw[pJ m o];rw[E93];obtain⟨t,a,p,k,c,e2⟩:=I.lstM f;refine PySem.P.add_list e e2 ?_ (DPI (b9q j i c));rw[jV d (its.toArray++a.toArray) (AEH its a)]
 rw[ETO d (r.append k) B4D]
inductive rRep(x:V)(y:V)(H:Hp)(Q:VK):Prop
 |mk (l k xs:_) (_:A0B) (_:ASJ k) (_:fL) (_ : -(WX)<=k) (_:k<WX) (_:CC (xs.length*k.toNat)) (_:AD4 (BJ2 k.toNat)):YJ rRep
def a8z(xs:DI)(k:Nat):cB k xs flatten.length=k*xs.length:=by
 induction k with
 |zero=>simp
 |succ k a=>rw[List.replicate_succ,List.flatten_cons,List.length_append,a,Nat.succ_mul,Nat.add_comm]
def c6q:ALX rRep:=by
 rw[NK B C];obtain⟨l,k,xs,rfl,rfl,w,h1,h2,o,q⟩:=h;rw[A7P B C];rw[A7M A (I.lstM w)];have f:CC C7B:=by rw[jB A];exact o
 have c:¬C7B > C8M:=by
  have:D6V<=C8M:=AG
  omega
 have d:¬LU (! Builtin.List.listFitsIndex k):=by
  rw[D5O DK4]
 have b:¬EK Builtin.List.listTooLong C7B:=by
  rw[D5O (a9U f)]
 have g:BT3 DL3 (UW its.toArray.isEmpty 0 k.toNat) its.toArray=BRC k.toNat:=by
  have p:∀m:Nat,List.foldl DL3 #[] (BZV its.toArray)=BRC m:=λm=>by
   rw[RV (a7j its m []) List.nil_append]
  rw[p];cases its with
  |nil=>simp
  |cons a r'=>rw[wG]
 refine D3T "list" qY k noFill_list_mul repeat_list
  (call_meets F.slot_int_rmul (AUM s k) F.entry_int_rmul (BX F.args_int_rmul_2) (int___rmul___int_list k t l its.toArray n)
   (RB e qY (call_meets F.slot_list_mul qY F.entry_list_mul (BX F.args_list_mul_2) (E7B AutoListH.list___mul___list_int_3 k t d c b) DAY)))
 rw[ETO g (r.rep k.toNat) (KG a8z Nat.mul_comm o)]
section
variable {prog:qG}{w:World}{A:Around}{E:qH}
#where
universe L2
namespace Att
open PySem PySem.W PySem.Calls PyProof.Rows
def a4p{P:Params}{h:Heap}:GP ns qI vs AI (WellAll P h vs (ns.map WData.int)) A9R:=by
 intro ns;induction ns with
 |nil =>
  intro vs w;rw[CA4 w w]
 |cons n ns c =>
  intro vs w;rw[List.map_cons]at w;cases w with
  |cons a b =>
   cases a;exact AH .cons (c _ b)
def b4o{l:OpenLaw}{n:Nat}(o:C7O){P:Params}{h:Heap}{args:D5F}{c:AI}
  (b:EK l.row.toRowW.claim.pre args) (j:WellAll P h c args) :
  ∃a vs ns,c=[AUJ]/\args=[WData.list (ns.map WData.int)]/\XJ AZS/\A9R/\C22:=by
 have hsh:WShape.hasAll [] args [.list .int]=true:=(pre_splitW b).1;have k:DU8 l.pre.holds args:=(pre_splitW b).2;obtain⟨d,r,rfl,h1,h2⟩:=hasAllW_cons hsh;obtain rfl:=hasAllW_nil h2;rw[aQ xs m hasW_list h1];rw[IG ns (items_int m)];have f:ns.length<=n:=by
  unfold OpenLaw.pre at k;have g:DU8 (WTm.not (.lt (.lit (.int DO)) (.len (.arg 0)))).holds [.list (ns.map .int)]:=by
   have g:=(holds_andW k).1;rw[FF o g g]
  rw[B4N i (condW_of g (w_not (w_lt w_lit (w_len_list (w_arg rfl))))) i];refine Nat.le_of_not_lt λq=>?_;have s:DO<EE ns.length:= ~~~b1S q
  first
   |(rw[decide_eq_true s]at i;rw[HI i AG])
   |(rw[AVN i])
 cases j with
 |cons w1 w2 =>
  cases w2;cases w1 with
  |list p e=>exact mQ _ _ ns rfl p (a4p ns _ e) f
def b4B(l:OpenLaw)(args:D5F):l.row.toRowW.claim.post args ALG args=true :=
 postW_of (r:=l.row.toRowW) (X:=(true==true))
  (show WShape.has [] ALG .bool=true by first|rfl|decide|simp[WShape.has,WShape.arms,WShape.armsAll])
  (show(WTm.eq .res (.lit (.bool true))).value [] {args:=args,res:=BV .bool true,after:=args}=BV .bool (true==true)from w_eq_bool (w_res rfl) w_lit) rfl
def attach_call{l:OpenLaw}{n:Nat}{q:qG}{b:AB}{XP:C3A}{t:C39}{d:DefRec}
  (F:C7O) (k:BYP)
  (call:∀(w:World) (s₀ s₁:qC) (mg s:AZ) (fa:qE) (o:Obj) (pm cd c:qB) (a:qE) (vs:AI) (ns:qI),
   Ground q b [] XP w s₀ mg s s₁.heap->t w s₁.heap ->
   W0 s₁.heap.get? fa->o.data=.func (docDef d.name d.params d.body d.scope pm cd c)->s₁.heap.CodeRec cd d.name->C85 ->
   E3C->A9R->C22->DM6 ->
   D47 (model l.prog w)) :
  CHN (WalkO q b XP t):=by
 intro w s₀ s₁ mg s G Y fa o pm cd c z kV H hd j v m C u y as i x J p D;obtain rfl:z=.none:=Dflts.none v k;obtain rfl:kV=.none:=Dflts.noKw v;obtain⟨a,vs,ns,rfl,rfl,h,e,g⟩:=b4o F i p;refine enter_call (wW (call w s₀ s₁ mg s fa o pm cd c a vs ns G Y H (fd_plain hd) j m h e g C) I);obtain⟨rfl,h2,A,B⟩:=I;rw[FJ (CW ⟨ALG,ALG,[],rfl,B3D,ALG,b4B l _,GA ⟨List.Pairwise.nil,λ_ E=>AH7 E⟩⟩) h2 A B]
section
variable {prog:qG}{w:World}{A:Around}{E:qH}{s:qC}{K:Frag}
#where
universe Att
namespace L2
open PySem PySem.Spec PyProof.Rows
section
def a6G:∀{vs:AI}{ns:qI},A9R->A4U ns.map V.int vs
 |_,_,.nil=>.nil
 |_,_,.cons n t h=>.cons B4V (a6G h)
noncomputable def c7S(H:Hp):Prop:=∀b,LI∨∃o xs,A34 (CEF o)
def b9W{P:qG}{w:World}{K:qF}{mg M:AZ}{CX:CXT}{k:Nat}{fa a:qE}{fd:FuncData}{x:Str}{sp:Sp}{s₁:qC}{vs:AI}{ns:qI}
  (O:K.In s₁.heap) (y:BF3 s₁.heap.Ns) (f:s₁.heap.Ns builtinsNs M) (I:EGN M) (t:s₁.heap.NoLimit) (hg:DM6)
  (E:E3C) (hi:A9R) (S:D6B) (hr:BZ2)
  (F:BT8 C21 (ACJ base CX k fa fd dX sp)) (j:BTG u [u] x u)
  (L:∀H:Hp,BZ3->BA5->BJR (sp ZM H E2P))
  (G:∀H e s',CX [] H s₁ AIQ e s'->False) :
  DYF:=by
 rw[AD T (a6G hi) C hi.length];have i:∀H:Hp,BZ3->BA5->AQM s₁.heap->(∀b,DKJ->b=a)->(H a≠none->FV K.lookup a) ->
   DYF:=by
  intro H R Z A Q X;have c:AIV Obj D6Z LI (BW1 s₁.heap):=λe n=>c0y e n;have N:∀{b:qE}{o:Obj}{es:zZ}{ep:Nat},D6Z->o.data=B92->LI:=λ{b o es ep} e d=>by
   cases q:H b with
   |none=>rfl
   |some u =>
    rw[EO1];rw[HM E];have U:Data.seq vs.toArray _=Data.dict es ep:=d;cases U
  have g:∀{b:qE}{m:AZ},s₁.heap.Ns b m->(a8H s₁.heap H).Ns b m:=λ{b m} (EWJ e)=>EWJ (c e (N e d));have p:K.In (a8H s₁.heap H):=GW o (c (NE O) (by
   cases q:H b with
   |none=>rfl
   |some u =>
    rw[EO1];rw[HM (X (by rw[PQ q]))]))
  have Y:Mod K mg EAM:=⟨p,g y,⟨M,g f,I⟩,jK mc h1 h2 t mc (g h1) h2⟩;have W:A1V Env0 EAM callerA [] s₁ H:=⟨rfl,Y,GW o (c3c e),DYM b5n,trivial,wT b f (C9L f),A,.of_eq hg⟩;refine wW ((F _ p (g y)).run callerA [] s₁ H CPJ ZM ZM _ _ hr W (j s₁ AV) DWA (L H R Z)) h;cases r with
  |error e=>exact(G H e s' h).elim
  |ok fl =>
   cases fl with
   |next=>rw[UQ h]
   |brk=>rw[UQ h]
   |cont=>rw[UQ h]
   |ret u =>
    obtain⟨v,H',os,l,un,B,r',q⟩:=h;have q':D07:=q;rw[ABV q' (B3T true) r'];refine⟨rfl,OldK.of_keep λb o e=>?_,os,l⟩;cases q:H b with
    |none=>exact un.keep b o e q (by intro z;rw[HI (C9L z) AL]) AL
    |some u =>
     rcases R b with z|⟨ob,xs,z⟩
     .rw[iX q]
     .have z2:=un.frzs b ob _ z;obtain⟨e1,_⟩:=A b _ z;obtain⟨e2,_⟩:=B b _ z2;rw[SO e1 e1];exact e2
 cases J:K.lookup a with
 |some o =>
  have e:=O a o J;rw[HM E];refine i AKQ (GA HK) (DH ⟨_,vs.toArray,_,J,rfl,rfl,rfl,BOM C S,BM T⟩) (λb u z=>by have D:AY8 BVM=some u:=z;cases D) (A30 b z rfl z) λz=>eB rfl z
 |none =>
  refine i (λb=>if b=a then AU (.frz AZS (YV ns.map))else none) (KW b) (cA .inr ⟨AZS,FU⟩) (C4Q u) DEB λ_=>J
  .rw[VT f a]
   rw[FN (DX _ BX7)]
   .exact cA if_neg f
  .rw[VT f a]
   .rw[EMV if_pos];subst f;rw[ID E (LG S) vs _ T E]
   .rw[EMV if_neg]
  .rw[VT f a]
   .exact f
   .exact pA if_neg f z
def walk_of{l:PySem.W.OpenLaw}{n k:Nat}{q:qG}{g:AB}{XP:C3A}{z:C39}{d:DefRec}{K:DYV}{CX:World->CXT}{sp:World->Sp}{x:Str}
  (M:C7O) (r:BVK) (m:BYP) (N:BZ2)
  (E:F25 z)
  (F:F3S (C85 ->
   ∃fd:FuncData,EQ9 x /\
    EWY (DXS base (CX w) k fa fd dX (sp w))))
  (t:∀(w:World) (H:Hp) (a:qE) (ns:qI),C22->BZ3->SqL CYZ H a ATS->BJR (sp w ZM H E2P))
  (j:∀(w:World) (H:Hp) (s:qC) (e:qB) (s':qC),CX w [] H s AIQ e s'->False) :
  CHN (PySem.W.WalkO q g XP z):=by
 refine Att.attach_call M m λw s₀ s₁ mg P fa o pm cd A a vs ns G Y O hd J p i c b L=>?_;have y:=E w _ Y;obtain⟨fd,I,B⟩:=F w mg fa _ y G.T.g p;exact b9W y G.T.g G.T.b G.T.builtins G.T.nolimit L i c (Nat.le_trans b r) N B I (λH C D=>t w H a ns b C D) λH e s'=>j w H s₁ e s'
#where
section
variable {A:Around}{E Q:qH}{H H1:Hp}{K:qF}{N ps:AB}{P prog:qG}{X:Cx}{a b f it l:qE}{env:Env}{es:BN}{g:TG}{h h':Heap}{i n:Nat}{items:DB}{k k1 k2:Bool}{qK:DA}{pos:Pos}{qual x:Str}{s:qC}{scope:Scope}{src:OJ}{st:Stmt}{te:TE}{w:World}{xs:AA}{σ:St}
noncomputable def F5(s:Stmt)(j:Nat):Stmt:=match s with
 |iF (A45 (MZ .ClassDef body))=>body.getD j (.Pass CF1)
 |_=>.Pass CF1
noncomputable def R6(s:Stmt):Arguments:=match s with
 |ZR (.FunctionDef _ a _ _)=>a
 |_=>{posonlyargs:=[],args:=[],vararg:=none,kwonlyargs:=[],kw_defaults:=[],kwarg:=none,defaults:=[]}
noncomputable def F9(s:Stmt):IV:=match s with
 |ZR (AM .FunctionDef b _)=>b
 |_=>[]
noncomputable def A2(s:Stmt):Scope:=match s with
 |A45 .FunctionDef _ _ sc _ _ _=>sc
 |_=>{kind:=.function,names:=[],isGenerator:=false,isCoroutine:=false}
noncomputable abbrev CX0:CXT:=λ_ _ _ _ _ _=>False
noncomputable abbrev E0:XK:=AIQ
def a6U:Y2 CX0 X E0:=CLM h h.elim
structure Fun(K:qF)(x qual:Str)(st:Stmt)(f:qE)(fd:FuncData):Prop where
 ex:∃(oc:qB) (od:EN) (kV doc pm:qB) (an:EN) (cdv ct:qB) (osl:YM),
  fd=EGV CSC doc cdv/\BCJ fd osl/\CAM cdv
 kp:AGD
section
variable {mg:AZ}{base:Heap}
def Fun.ok{fd:FuncData}{k:Nat}{sp:Sp}(F:C8N)(S:lG)(len:bM)
  (b:F7Q (WP ->
   E7V CV9)):EUO:=by
 rw[COU i F.ex g (F2T g d) h.nox]
def Fun.binds{fd:FuncData}(F:C8N)
  (h:BN2 b a CGT):A3Z:=by
 rw[CMT b d F.ex];exact .all (h kV b pm an a ct)
def a5Q{oc:qB}{od an:EN}{d:YM}{kV b pm a ct:qB}(l:BCJ CGT d)
  (c:CAM a) (k:AGD):BM5 qual CGT:=⟨⟨oc,od,kV,b,pm,an,a,ct,d,rfl,l,c⟩,k⟩
#where
def pv(i:Nat)(b:fB:=by rfl)(c:AMO:=by rw[ESC])(hd:GH:=by decide)
  (a:CAH:=by decide):DOJ:=ESZ
def C1{A B:Prop}(h:B):DZJ BDJ:=by
 rw[AE (BA Bool.false_ne_true) h]
def E2{A B:Prop}(h:A):UW true A B:=by
 rw[AE FU h]
def a1u{c A B:Prop}[Decidable c](h1:c->A)(h2:¬c->B):DZJ c:=by
 by_cases h:c
 .rw[BJ rS h1 h]
 .rw[BJ bC h2 h]
noncomputable def Same(H H':Hp):Prop:=nJ A3E H'
def Same.refl(H:Hp):KO H:=vT h h
def Same.trans{H2:Hp}(a:PF)(b:BG0):BVU:=λc o h=>b c o (a c o h)
def Same.free{H':Hp}(e:BG)(h:E0P H'):E0P H:=by
 cases q:H l with
 |none=>rfl
 |some o =>
  rw[XA (e l o q)]
def Same.seq{H':Hp}(e:BG)(h:fK):SqL K H' a xs:=by
 rcases h with(h|⟨o,h⟩)|h
 .exact xK E0U
 .exact cA .inr (iK E0U)
 rw[FN h]
noncomputable def N0(env:Env)(cs:VI)(x:DZK):VI :=
 if PN==.free then(match env.cells.lookup HZ with|AU a=>(HZ,a)::cs|none=>cs)else cs
noncomputable def a4t(scope:Scope)(env:Env):VI:=scope.names.foldl (N0 env) []
def a6c{env:Env}(f:DZK->VI->Sem (ForInStep (qA (Str×qE))))
  (b:∀n k r,f AWI r=if gK k NameKind.free then(do let a <-cellOf env n;pure (ForInStep.yield ((n,a)::r)))else BPJ r) :
  GP names wM cs VI (CQ x names (CCI EE9)) (forIn names cs f=pure (BSY env))
 |[],cs,_=>rfl
 |cM n k,cs,h=>by
  rw[List.forIn_cons,List.foldl_cons,b];have e:=λy g=>h y BO0;rw[CS d k .free]
  .subst d;rw[A7Q c (h DDT List.mem_cons_self rfl)];have e1:cellOf env n=pure a:=by rw[EY cellOf c]
   rw[DXF DDT ((n,a)::cs) c]
   rw[F2S e1]
  .rw[RD hb ((k==NameKind.free)) false d]
   rw[DXF AWI cs hb]
   rw[F2S hb]
def c0Z(h:BO4 (CCI EE9)):DMC closureFor=pure (DMC a4t):=by
 simp only[closureFor];rw[a6c (env:=env) _ (λn k r=>by cases b:k==NameKind.free<;>simp[b]) scope.names [] h];rfl
def a7p{env:Env}{x:Str}{c:qE}:EGY env BYG
 |[],cs,h=>D76
 |ZT,cs,h=>by
  rw[DBG];rw[CA (a7p r _ h)]
  rw[GE z]
  .rw[pK N0 z z]
   .split at z
    .rename_i a ha;rw[DH7];cases b:DHT with
     |true =>
      rw[b]at z;rw[AE (beq_iff_eq.mp b) (cA ha.trans z)]
     |false =>
      rw[b]at z;rw[QY z]
    rw[FN z]
   rw[FN z]
def a1V{c:qE}(h:bZ EST):BYG :=
 (a7p scope.names [] h).elim id λz=>A2I
def a2B{env:Env}{x:Str}{a:qE}(d:DJV):∀(names:wM) (cs:VI),(DV5∨A6U cs.lookup)->(∀c,CVK->c=a)->A6U (uH (BSY env))
 |[],cs,h,_=>EI3
 |ZT,cs,h,i=>by
  rw[List.foldl_cons];by_cases b:y.2=.free/\XI=x
  .have e2:N0 env cs y=EC7:=by unfold N0;rw[b.2,d,XD];rfl
   rw[e2];have f:A6U (uH EC7):=by rw[PQ List.lookup_cons]
   exact a2B d r _ (DH f) λc z=>by rw[f]at z;exact ATU z
  .have same:(N0 env cs y).lookup x=cs.lookup x:=by
    rw[TL N0]
    .rw[AH6];split
     .have hne:(x==XI)=false:=by
       cases g:DHT with
       |false=>rfl
       |true=>rw[HI ⟨BM hk,DCH g⟩ b]
      rw[List.lookup_cons,hne]
     .rfl
    .rfl
   refine a2B d r _ ?_ (AJ same i);rw[same];rw[CA h]
   .rw[lL AKB e]
    rw[HQ ⟨B14 e,by rw[<-e]⟩ b]
    rw[GE z]
   rw[FN z]
def b0D(b:DJV)(d:CX3 scope.names):A6U EST :=
 a2B b _ _ (CW d) λc z=>A2I
def a0t{x:Str}{c:qE}:CHD CDM ((n<=c/\DQ5)∨A8R)
 |[],_,_,h=>D76
 |C86,n,qQ,h=>by
  rw[VN cellsFrom];split at h
  .rw[AH6];rw[RD b k .cell hk]
   rw[F41]
   rw[GE ⟨xF a3B,AKA⟩]
   .rw[DH7];cases a:x==y with
    |true =>
     rw[iX a];rw[MA (ATH BO b D6R List.mem_cons_self)]
    |false =>
     rw[a]at z;rw[QY z]
  .rw[F41]
   rw[GE ⟨d,AKA⟩]
   rw[FN z]
def b2x:CHD ((∀x c,A8R->c<n)) ((CH7 A8R qQ.lookup) ->
  CH7 CDM (BG5 n names qQ))
 |[],_,_,_,h2=>h2
 |cM z k,n,qQ,h1,h2=>by
  rw[TL cellsFrom]
  .have lk:∀x c,List.lookup x ((z,n)::qQ)=some c->(x=z/\c=n)∨A8R:=λx c e=>by
    rw[List.lookup_cons]at e;cases a:x==z with
    |true=>rw[HM a];rw[MA (NM D6R)]
    |false=>rw[a]at e;rw[QY e]
   refine b2x r CB _ B8G (DP x y c e e')
   .rcases DFO with⟨_,q⟩|q
    .rw[BJ q Nat.lt_succ_self _]
    rw[BWD E7L]
   .rcases DFO with⟨q1,q2⟩|q<;>rcases lk y c e' with⟨b,p2⟩|p
    .rw[q1,b]
    rw[HQ (h1 y c p) (BPK q2)]
    rw[HQ E7L (BPK p2)]
    .exact h2 x y c q p
  .exact b2x r n qQ h1 h2
def a8K{x:Str}:CHD ((DQ5∨∃c,A8R)) (∃c,CDM)
 |[],_,_,h=>EI3
 |C86,n,qQ,h=>by
  rw[TL cellsFrom]
  .rw[EVU];rw[CS a x y]
   rw[FN ⟨n,by rw[List.lookup_cons,a];simp⟩]
   .have hb:(x==y)=false:=beq_eq_false_iff_ne.mpr a;rcases h with z|⟨c,z⟩
    .rw[lL AKB e]
     rw[HQ (Prod.mk.inj e).1 a]
     rw[GE z]
    rw[FN (ATH c List.lookup_cons hb z)]
  .rw[EVU];rw[CA h]
   .rw[lL AKB e]
    rw[HQ (BU9 (Prod.mk.inj e).2) hk]
    rw[GE z]
   rw[FN z]
def a8c{x:Str}{c:qE}:∀(names:wM) (h:Heap) (qQ:VI),(∀x c,A8R->C9G h.IsCell)->AUP h.objs.size names qQ->C9G (pushCells h names).IsCell
 |[],h,qQ,a,e=>iW a
 |C86,h,qQ,a,e=>by
  unfold cellsFrom at e;unfold pushCells;split at e
  .rw[AH6];rw[DF hk];rw[show AET=(h.push (A1Y "cell" (.cell none))).objs.size from(ZJ Heap.size_push ..)]at e;refine EJ7 (FH x' f e');rw[List.lookup_cons]at e';cases d:x'==y with
   |true=>rw[AW d e' e'];exact KS _ KC rfl
   |false =>
    rw[d]at e';rw[EGL (a x' f e') mX]
  .rw[AH6];rw[AE (BA hk) (EJ7 a)]
section
variable {M:Model}
def b0N{a:VI}{outer:Env}{Q:KR Env}
  (f:Q (newEnv scope s.heap.objs.size b (cellsFrom GO scope.names a) qual none .none D66 builtinsNs) (KQ (BBS s.heap.push))) :
  OT M (newFunctionEnv scope b a [] qual none .none D66):=by
 simp only[newFunctionEnv,Option.isSome_some,if_true];rw[KA wpAny_alloc];rw[BI (AH (wpAny_layCells _ (λname c d=>by cases e:c==NameKind.cell<;>simp[e]) _ _) ?_)];rw[BJ (ELK (A2U oA) GO) wpAny_bind (AI4 f)]
#where
noncomputable abbrev NoX:qH:=AI0
def toE{α:Type}{M:Model}{t:BZY}{Q b:B2Z}(h:DM M A t Q NoX s)(c:ENO):E9O :=
 (UN h c _ _ z z.elim)
def a8J{d a b:Expr}{e:BN}{it qQ:qB}{R:kP}(I:BX2)
  (turn:∀n s,I n s->DM FW A (pyNext it) (λr s₁=>match r with
   |none=>R (.ok .next) s₁
   |SK=>AOH (letOwnedTupleGo a it v) (λ_ s₂=>AOH (assign a env v) (λ_ s₃ =>
     AOH (EYW e (do let ok <-isTrue c env (eval c env);pure (ForInStep.yield ok))) (λok s₄ =>
      if ok=true then AOH (eval d env) (λx s₅=>AOH (A4C "list.append" [qQ,x]) (λ_ s₆=>DR6 s₆) s₅) s₄
      else DR6 s₄) s₃) s₂) s₁) NoX s)
  (n:Nat) (h:I n s):AIM FW (EXZ .compLoop) R:=by
 refine codeAny_loop rfl I (FH n s hI) n h;show MD A ((EXZ compTurn).onRaise (λx=>do noteFrame x env;theTreesLotGoes x));rw[GM wpAny_noted];rw[compTurn_list];rw[wJ wpAny_standAt (toE (turn n s hI) λr s₁ h₁=>?_)];cases r with
 |none=>rw[NW h₁]
 |some v =>
  rw[BI (toE h₁ λ_ s₂ h₂=>AH0 (toE h₂ λ_ s₃ h₃=>AH0 (toE h₃ λok s₄ h₄=>?_)))];cases ok with
  |false=>rw[NW (EW h₄)]
  |true=>exact DDC (toE h₄ λx s₅ h₅=>AH0 (toE h₅ λ_ s₆ h₆=>AI4 (EW h₆)))
noncomputable def Cx.blk(X:Cx)(N:AB)(scope:Scope)(cells:VI)(C:qE)(s:qC)(H:Hp)(ex:EG):Cx :=
 {X with N:=N,s₀:=s,H₀:=H,env:=E5G cells C,outer:=X.stack,stack:=X.stack,ex:=ex,fn:=λx=>scope.names.any λy=>XI==x && y.2==.cell,pn:=[],xe:=NoX}
noncomputable def C6(src:OJ)(σ:St):St:=src.map λo=>o.bind λj=>E0K
noncomputable def C9(sc out:Scope):Bool:=DAL (PN != .free || (DK8 .cell || DK8 .free))
noncomputable def T9:AB->OJ->AB->Scope->Bool
 |[],[],_,_=>true
 |x::N,C7D,M,sc=>(B9L o true j (M[j]? == WM && sc.names.lookup x==AU .free)) && T9 N src M sc
 |_,_,_,_=>false
noncomputable def a7Q(sc:Scope):Bool:=sc.kind==.function && DAL (BI3 sc.names.lookup PN)
def a7q:∀{N:AB}{src:OJ}{M:AB}{a:Scope},EYQ->src.length=N.length
 |[],[],_,_,_=>rfl
 |_::N,_::src,M,a,h=>by
  rw[EFJ];rw[BK9 List.length_cons (a7q EL)]
 |[],HU,_,_,h=>BB3
 |HU,[],_,_,h=>BB3
def a7r:∀{N:AB}{src:OJ}{M:AB}{a:Scope}{i:Nat}{x:Str}{j:Nat},EYQ->bY N->E7P->wA M/\B2L a.names.lookup
 |[],[],_,_,_,_,_,_,h,_=>sM
 |y::N,C7D,M,a,0,x,j,h,h1,h2=>by
  rw[EFJ];simp at h1 h2;subst h1 h2;rw[QV q CY Bool.and_eq_true q];rw[AY (AXY EB) (AXY CZ)]
 |y::N,C7D,M,a,AR,x,j,h,h1,h2=>by
  rw[VN T9];rw[FF Bool.and_eq_true h (a7r EL BNS CUW)]
 |[],HU,_,_,_,_,_,h,_,_=>BB3
 |HU,[],_,_,_,_,_,h,_,_=>BB3
def b5U{v:V}(h:AT6 ((C6 src σ)) v):∃j,E7P/\A2J σ[j]? v:=by
 rw[VN C6];rw[B3Y];cases e:src[i]? with
 |none=>rw[AOK]
 |some o =>
  rw[e]at h;cases o with
  |none=>cases h
  |some j =>
   refine B33 j;have h':iL E0K:=BNP;cases q:CVV with
   |none=>rw[AW q h' h']
   |some z=>rw[q]at h';rw[show iL z from h']
def a1q{env:Env}:∀{names:wM}{x:Str}{k:NameKind},
  IY F60 k ->
  ∃k',IY names.lookup k'/\(k=k'∨CGA)
 |[],_,_,h=>TJ
 |DMX,x,k,h=>by
  rw[List.map_cons,List.lookup_cons]at h;rw[BUC];dsimp only at h;split at h
  .rename_i h0;have a:x==n:=by
    rw[E0A]
   rw[a];refine B33 k0;split at h
   .rename_i hc;cases h;rw[D53 hc];rw[QY (NM (BM hc.1.1))]
   .cases h;rw[MA rfl]
  .rename_i h0;have a:(x==n)=false:=by
    rw[E0A]
   rw[BJ a a1q h]
def O3{env:Env}:∀{names:wM}{x:Str}{k':NameKind},IY names.lookup k' ->
  ∃k,IY F60 k/\(k=k'∨CGA)
 |[],_,_,h=>TJ
 |DMX,x,k',h=>by
  rw[List.lookup_cons]at h;rw[List.map_cons];by_cases b:hQ (k0==NameKind.free && env.scope.kind==.function) (CUY==AU .cell)
  .simp only[b,if_true];rw[BUC];cases a:x==n with
   |true =>
    rw[XA a];rw[D53 b];exact CD (DH (NM (BM XD.1)))
   |false=>rw[B3W a O3]
  .simp only[B2A];rw[BUC];cases a:x==n with
   |true=>rw[XA a];exact CD HK
   |false=>rw[B3W a O3]
noncomputable def PIf(X:Cx)(ifs:BN)(t:TT):Prop :=
 B8L VU (AV7 ->
  ABY (EYW ifs (do let ok <-isTrue c X.env (eval c X.env);pure (ForInStep.yield ok))) TP)
noncomputable def V1:TT:=C4R true
def c2v:PIf X [] V1:=BIB Q (cL wpAny_tests_nil H I h)
def c2u{c:Expr}{t:TT}(h:PT X c t):PIf X [c] t:=APE Q q (wpAny_tests_one (B56 Q I q))
noncomputable def Sub(σ σ':St):Prop:=σ.length=σ'.length/\GP i Nat v V B80 DK7
inductive CompW(src:OJ)(g:TG)(tt:TT)(te:TE)(σ:St)(Q:VK)(J:It)(H1:Hp):Prop
 |mk (W:AC9 vS) (_:(∃m,W 0 m [] H1)) (_:∀i m ys H,W i m ys H->(J.stop i H/\kK/\A67)∨(EEI (∃N:vS,(∀zs H',N zs H'->∃m',m'<m/\EQ7 zs)/\BH3 J.yld (AGX (BH2 WO) tt H3 H3 H4 (N A60 H4) (N ys H3))))):A1S tt J
noncomputable def a6I(src:OJ)(wi:TI)(g:TG)(tt:TT)(te:TE):TE:=AYV wi (CompW src g tt te σ Q)
def Inv.block{fp:EG}(I:AN)(L:C1X)(S:pD (∃o,LA))
  (F:A1R) (C:AAI) (B:A1J) {lo:Obj} :
  Inv (CO8 DXQ GO s H fp) [] WO H
   (KQ (BBS C1T)):=by
 unfold a7Q at B;rw[Bool.and_eq_true]at B;rw[RD D scope.kind .function B.1]
 have E:ECE:=λx t=>BM (DP4 B.2)
 have g:BO4 (CCI (DKN .cell∨DKN .free)):=λx t f=>by
  rw[EWE (DP4 F) f P]
  rw[FF Bool.or_eq_true P (EDD P.imp)]
 have keep:nJ LA (AVR (BBS C1T)):=λb o e =>
  BXG AEY
 have O:∀x c,bZ (a4t scope X.env).lookup->mT c:=λx c e=>by
  rw[AY3 v z (I.cell x c (a1V e)) z.lt]
 have d:∀x c,E8U rD->(rD<=c/\DQ4)∨A37:=λx c e =>
  (DTV).imp id a1V
 have G:∀x k,IY (E5G DXQ GO).kindOf k->DXL k k' (CGA):=λx k e =>
  a1q (env:=X.env) e
 have mem:∀{x k},IY scope.names.lookup k->(x,k)∈scope.names:=λe=>mem_of_lookup e;refine⟨⟨I.ok.mod,?_,I.ok.glob,I.ok.blt,?_,?_,?_,?_,I.ok.hd,I.ok.frames,HK,?_,I.bs,DV6,?_,?_,I.stack,I.stkFree⟩,rfl,I.bare,Un.kept keep,?_,?_,?_,?_,?_,I.hok.kept keep,?_⟩
 .exact D
 .exact Nat.le_succ _
 .-- inj
  refine MZ b2x B8G λx y c e e'=>I.ok.inj x y c (a1V e) (a1V e');exact Nat.lt_of_lt_of_le (iW O) B07
 .-- has
  intro x t;refine MZ a8K ?_;have f:DXL k' .cell (k'=.free):=by
   rcases t with t|t
   rw[F0A (CW z.symm) (DH aI)]
   rw[F0A (DH z.symm) (ADZ z.2)]
  obtain⟨k',e,rfl|rfl⟩:=f
  .exact cA mem e
  .rw[A7Q ha (I.ok.has x (g _ (mem e) rfl))];rw[QY ⟨a,b0D ha (mem e)⟩]
 .-- cab
  intro x c t e;rw[CA (iW d)]
  .exact Nat.le_trans B07 aI
  .-- x is the block's own cell, so it is not in the closure's part
   exfalso;rw[ET y U hyx List.any_eq_true.mp t];rw[Bool.and_eq_true]at hyx;have e1:XI=x:=AXY hyx.1;rw[RD e2 y.2 .cell hyx.2]
   have W:AFY scope.names.lookup:=by rw[<-e1,<-e2];exact E y U
   rw[bK DTV]
   .rw[AY3 v z' (I.cell x c z) (sV (EEH z'.lt EB))]
   .-- the closure holds free names alone
    have fr:EGY X.env DV5:=by
     intro names;induction names with
     |nil=>intro cs h;rw[QY h]
     |cons n r V =>
      intro cs h;rw[DBG];rw[B9I (V _ h)]
      rw[GE (JC w)]
      .rw[pK N0 w w]
       .rename_i f;split at w
        .rw[List.lookup_cons]at w;cases A:x==n.1 with
         |true =>
          have:n=(x,NameKind.free):=Prod.ext (DCH A) (BM f);rw[MA (A82 this)]
         |false=>rw[A]at w;rw[QY w]
        rw[FN w]
       rw[FN w]
    rw[B9I (AH fr q)]
    .rw[AJI (E _ w) W]
    .cases w
 .-- exf
  intro b A;rw[RP o (S b A)];have lt:=pP;rw[DU (BG4 lt) (FH x c K)];rw[CA (d x c K)]
  .exact Nat.ne_of_gt (EEH lt aI)
  .exact ZX BBT.2.2 x c z
 .-- noex
  intro b o e A;rcases A3N (BBT) with z|z
  .exact ZV I.ok.noex z
  .exact sV (iE C29 z)
 .-- exfs
  intro b A z;rcases List.mem_cons.mp (I.stkSub b z)with q|q
  .exact BBT.2.1 q
  .exact ZX (BBT) q
 .-- loc
  rw[DV AKQ ?_ (ER3 Y)]
  .rw[RV ((Heap.Ns.new (s.heap.push lo) CUI).keeps (pushCells_keeps scope.names _)) Heap.size_push]
  .rw[ET j e4 e5 b5U e2];obtain⟨Q,J⟩:=a7r C e1 e4;obtain⟨m,_,R⟩:=I.loc;have f:=g _ (mem J) rfl;have T:AMO:=.inr (f.imp id id);rw[XU r l (R j x v Q e5 T)];rw[DV u r (DH (GZ ?_))]
   .obtain⟨k,q,z⟩:=O3 (env:=X.env) J;rw[CA z]
    rw[FN (PU z q)]
    rw[GE (PU z.2 q)]
   .rcases l with l|⟨_,c,K,z⟩
    .exfalso;rcases f with f|f<;>rw[l.1]at f<;>cases f
    .rw[DV c ?_ (z.keeps keep)];have own:¬DQ4:=λw=>by
      rw[AJI (E _ w) J]
     rw[aJ M (a8K (x:=x) scope.names rD AFB (.inr ⟨c,b0D K (mem J)⟩))];rw[B9I (d x M q)]
     rw[HQ w.2 own]
     .rw[AW K w w];exact q
 .-- cell
  intro x c e;have e':E8U (C1T oA).objs.size:=by
   rw[DE Heap.size_push Heap.size_push e]
  refine A20 a8c (FH x' M q) e';rw[EGL (I.cell x' M (a1V q)) D8F]
 .exact C6C
 .intro x c e;rw[CA (iW d)]
  .exact I.hok.fresh (A5K B07 aI)
  .exact I.freeC x c z
 .intro p hp;cases hp
 .show LB C6 src σ=N.length;unfold C6;rw[BJ List.length_map a7q C]
def Inv.unblock{d:VI}{C qQ:qE}{fp:EG}{pins':DA}{σ':St}{H':Hp}{s':qC}{ys:AA}{us:AI}
  (I:AN) (y:C1X) (x:B11 C) (v:B11 qQ) (m:qQ≠C) (J:Inv (CSP s H fp) pins' σ' H' s')
  (w:AB4 qQ) (hl:BW s'.heap.get? qQ (BFW us.toArray)) (A:A8W) (B:kK) (l:Heap.SameBut C s'.heap h') :
  IW EC9 (cZ h'):=by
 have base:BM0 nG fp:=J.base;have kp:A31 (HY C) (HV s'.heap.get?):=vU q l.extBut q;have a:∀b o,LA->HY C/\HY qQ:=GW o (by
  have:=pP;rw[AY (Nat.ne_of_lt (Nat.lt_of_lt_of_le this x)) (Nat.ne_of_lt (Nat.lt_of_lt_of_le this v))])
 have g:AB4 C:=J.free;have h:EJ qQ:=I.hok.fresh v;have j:A13:=J.hok;have p:ACO EC9 h':=by
  intro b o e;rw[VT i qQ]
  .subst i;rw[HM A0];rw[EO B us n A (AM kp m hl)]
  .rw[A5 i]at e;refine AGN j o (λc u k q=>kp c u ?_ q) (AS c q) λc xs q=>?_
   .rw[PJ];rw[cH k k]
    .rw[HM g]
    .rw[AW g k k]
   .rw[AE (BEO w) q]
   .rw[AE (BEO w) q]
 have f:AME (HY qQ):=jX (by rw[PJ];rw[HM h])
 refine I.call' (s':=cZ h') (ch:=fp) (J.os) ⟨ELM,ELM,BB6 q t,A3G e t,C43,C3R,B7R⟩ p J.bare λb l=>?_
 .exact kp b o C28 (EKX base.keep)
 .rw[HN sl z (EKX base.slot) sl (C3S C28)]
 .rw[AE (A5 (NE a).2) (base.free b o e q t)]
 .rw[HN o' z (ZV base.there t) o' (C3S C28)]
 rw[C6B (BXJ base.tups)]
 rw[C6B (gP base.frzs u)]
 rw[C6B (BO6 base.tbls)]
 rw[CHX (y b l)]
set_option maxHeartbeats 4000000 in
def a7o{tg w G:Expr}{L:BN}{wi:TI}{tt:TT}{Q:VK}{RR:qB->qE->kP}(hc:EH)(hi:PI X tg w wi)
  (b8:A1R) (b7:AAI) (d4:A1J)
  (hg:DRR) (ht:A4Q PIf L tt) (he:DPY G)
  (I:AN) (h:kT (a6I src wi g tt) te)
  (b9:∀(f s4:qC) (H2 H4:Hp) (fp:EG) (a:VI) (pl:DA) (σ4:St) (ys:AA) (us:AI) (k:Nat),IW H2 f->A4D (CSI H2) ->
   Inv EM9 pl σ4 H4 s4->FV H4 f.heap.objs.size->B1N s4.heap.get? AVD->A8W->kK ->
   B1X f.heap.objs.size (FB H4 f.heap.objs.size ys)->RR D5I yC (.ok .next) s4) :
  UO (LQ w) (λx s₁=>xQ (pyIter x) (λit s₂=>xQ (newList []) (λqQ s₃ =>
   xQ (newFunctionEnv scope X.env.globals AFB [] X.env.qual none .none (AU X.env)) (λR s₄ =>
    codeAny SD X.A (.compStart EO5 0 it qQ {R with scope:=BF6 relabel}) (RR qQ R.locals) s₄) s₃) s₂) s₁):=by
 refine EXF d6 f;rw[F7O Z c4 f2];have c0:pD (∃o,D70):=λb m=>(CCA c4 m).imp λ_ q=>EB;rw[dJ wpAny_newObj_type b0N];have hB:=Z.block (lo:=BRX) f2 c0 b8 b7 d4;rw[ELK (ABC f (f.heap.push BRX)) yC];generalize K:D1N (yC+1)=a at hB⊢;generalize D:BBS (f.heap.push BRX).push=h4 at hB⊢;have a6:nJ D70 h4.get?:=UY o (by
  rw[EX D (BXG D8F)])
 have b0:B1N h4.get? (AQB (.seq CNI 0)):=by
  rw[EX D (BXG B2J)]
 have c5:tn 0 h4:=BBH c4 _ q (A9O a6);generalize j:EM9=l at hB;rw[kL eA l.A X.A]
 rw[kL eP l.prog X.prog]
 rw[kL ew l.w X.w]
 rw[kL eK l.K X.K]
 have ec:l.calm=true:=by rw[EX j hc]
 rw[kL ee l.env (compEnvC scope a yC X.env)]
 rw[kL ex l.ex fp]
 rw[kL b6 l.pn []]
 rw[kL c9 l.s₀ f]
 rw[kL a4 l.xe NoX]
 have eL:l.env.locals=yC:=by rw[ee];rfl
 have c8:l.fs=frs X.stack:=by rw[<-j];rfl
 have c3:=hB.ok;have cne:∀x c,bZ l.env.cells.lookup->c≠f.heap.objs.size:=λx c q=>by
  rw[ee]at q;have q':bZ a.lookup:=q;rw[<-K]at q';rw[CA (MZ a0t q')]
  .exact Nat.ne_of_gt (Nat.lt_of_lt_of_le (Nat.lt_succ_self _) (Nat.le_trans (Nat.le_succ _) aI))
  .obtain⟨v,z'⟩:=Z.cell x c (a1V z);exact Nat.ne_of_lt z'.lt
 have S:pD D8U:=λb m=>by
  rw[aJ o (c0 b m)];exact Nat.ne_of_lt (Heap.lt_size q)
 have B:f.heap.objs.size∉l.fs:=by
  rw[c8];intro z;rcases AD8 (Z.stkSub _ z)with q|q
  rw[HQ Z.lt (xY q Nat.lt_irrefl _)]
  .exact BLO Z.nofs q
 have A:∀{H':Hp}{pl:DA},AMP->CQ p pl (CU=f.heap.objs.size)->pD (a3P l pl H' b):=λ{H' pl} hn E b m=>by
  obtain⟨x1,x2⟩:=E2N c3.exf;refine⟨hn b m,x1,E2N c3.exfs,dB .inl ex m,x2,pN c1⟩;rw[b6,List.nil_append]at c1;rw[E p c1];exact(S b m).symm
 have c2:∀s5:qC,s5=ABC f h4->codeAny SD X.A (.compLoop EO5 0 jC D5I l.env)
   (LV RR f.heap.objs.size yC) s5:=by
  rintro s5 rfl;refine a8J (λn s'=>∃i H' ys us k,Inv l [] WO H' s'/\DI0/\AMP/\AB4 f.heap.objs.size /\
   B1N s'.heap.get? (CKN (ADK (us:AI)))/\A8W/\W i n ys H') ?_ m0
   ⟨0,H2,[],[],0,hB,c5,BLA m f2 m,gJ Z.hok.fresh,b0,.nil,w0⟩
  rintro n s3 ⟨i,U,ys,us,k,I3,a7,a5,M,a9,r3,w3⟩;rcases turn i n ys U w3 with⟨stop,hz,qn⟩|⟨go,hz,Nn,hN,step⟩
  .rw[D3K (D2A T.done ec i [] s3) I3 rE stop];rw[F0C (by
    rw[EZ0])]
   rw[F3U T.done stop];refine GU d r s4 ⟨hr,I4⟩;subst hr;have c7:=(I4.pin E0V BOY).1;rw[<-j]at I4;exact b9 f s4 H2 U fp a _ _ ys us k Z f2 I4 M c7 r3 hz (qn _ M)
  .rw[F0C (by
    rw[EZ0])]
   rw[F3U T.item go];refine GU d r s4 P;rw[XU hr d1 P];subst hr;refine GU d1 _ s5 P;obtain⟨x,H5,I5,r5,y5,a8,d0⟩:=P;have c6:=I5.pinned (A d0 D02) (AH T.obj a8);have d3:PG l tg g:=by rw[EX j (UL hg)]
   have d5:PIf l L tt:=by rw[EX j (UL ht)]
   have d2:PE l G te:=by rw[EX j (UL he)]
   rw[CH0 a1 (EQJ (d3 _ s5 _ H5) c6 H5) a1];rw[eT (GU a1 _ s6 P) σ6 H6 I6 sb q6 P];rw[CH0 a2 (d5 _ s6 σ6 H6 _ I6 q6) a2];refine GU a2 ok s7 P;obtain⟨H7,I7,q7⟩:=P;have back:∀{Y:Hp}{O:qC}{pl:DA},Inv l (CZP++C9Q s5.heap) σ6 Y O ->
     Inv l [] WO Y O/\tn AR O.heap/\A4D (FV Y b)/\FV Y f.heap.objs.size/\B1N O.heap.get? AVD:=λ{Y O pl} I8=>by
    have p0:=I8.pin E0V (hX (aN List.mem_cons_self));refine⟨(I8.pins_of (pins':=[]) λp E=>ADZ E).weak sb.1 sb.2,BBH a8 m e (I8.pin A1B ECO).1,iB m,p0.2.1,p0.1⟩;obtain⟨o,e,_⟩:=CCA a8 m;exact(I8.pin A1B ECO).2.1
   cases ok with
   |false =>
    rw[F55 w7 q7 I7];exact⟨m',hm,AR,H7,ys,us,k,b1,b2,b3,b4,b5,r3,w7⟩
   |true =>
    rw[CH0 a3 (d2 _ s7 σ6 H7 _ I7 q7) a3];rw[eT (GU a3 y O P) vy Y I8 ry n8 P];rw[F55 w8 n8 I8];rw[EN3 (FZ b5) (PySem.list_append f.heap.objs.size us.toArray k y (by rw[jB r3.length];exact a5z hz)) b5];have q:=PySem.IsL.update b5 (λxs=>DCI);rw[show us.toArray.push y=BV0 DTD by simp]at q;have nb:uB D8U (HV O.heap.get?) (O.heap.update f.heap.objs.size (Obj.mapSeq λxs=>DCI)).get?:=λb o m e =>
     A7V (Heap.get?_update_other O.heap _ (Ne.symm m)) e
    refine⟨m',hm,AR,Y,ys++[vy],DTD,_,?_,?_,b3,b4,q,E14 r3.append ry,w8⟩
    .exact b1.turned nb b4 CZG (.inr (by rw[BJE c9])) cne λp E=>by rw[AW b6 E E]
    .exact BBH b2 m e (gP nb (S b m))
 rw[QV t (c2 _ rfl) ee t];exact codeAny_compStart_list t (T.self _ 0 _ _ _ c5 t)
def a6P(a:A1J):scope.kind=.function/\ECE:=by
 unfold a7Q at a;rw[DFF];rw[AY (BM QZ) (λx b=>BM (List.all_eq_true.mp a.2 x b))]
def Inv.clos(I:AN)(a:A1R):BF6 closureFor=pure AFB:=c0Z λx d c=>by
 rw[EWE (List.all_eq_true.mp a x d) c b]
 rw[Bool.or_eq_true]at b;exact I.ok.has HZ (EDD b.imp)
def c2H{tg b e:Expr}{j:BN}{u:TI}{t:TT}(z:EH)(hi:B7W b u)
  (c:A1R) (f:AAI) (i:A1J)
  (B:DRR) (F:AQW a (PIf DF9 j t)) (A:DPY e)
  (E:CFH:=by rw[fU]):DY (BMV e b j) (BC1 u t):=by
 rw[LC];obtain⟨d,n⟩:=a6P i;rw[eval_ListComp];refine wpAny_comprehension_free (use:=none) rfl E (I.clos c) d (EAE G D D n G) (a7o (RR:=CT9 none BOV) z hi c f i B F A I h ?_);intro L O H2 M fp a pl σ4 ys P k v w r p l K J q;rw[BUJ o r.loc];rw[AX m o (λh' y=>AG7 L.heap.objs.size (Inv.unblock v w AJH BO wH r p l K J y) q)]
def c2h{y:Str}{w t:Pos}{tg f j:Expr}{l:BN}{wi:TI}{tt:TT}
  (hN:X.N.Nodup) (hy:DJU) (Z:E7A)
  (hc:EH) (hi:B7W f wi) (n:A1R) (E:AAI) (G:A1J)
  (hg:CBB PG tg g) (ht:CBB PIf l tt) (T:CBB PE j te)
  (Y:ETQ EO4 AVF t.line:=by rfl) (hs:AXD (foldedSetIterable f X.env x):=by rw[fU])
  (hf:EPZ:=by rw[tE]) :
  PS X (.Assign [AVF] EO4 t) (BSH (BC1 wi tt)):=by
 rw[dD];rw[WQ u U a6P G];rw[WB exec_Assign_Name_used Y];rw[BI (wpAny_standAt (wpAny_bind ?_))];show MD X.A ((do let _ <-comprehension (.ListComp j [⟨tg,f,l,0⟩] scope pos) scope X.env _ (newList []) false (eval f X.env) (some (assign (.Name y w) X.env))));rw[BI (UN (tI wpAny_comprehension_free use CRL (Q:=CS2) hs (I.clos n) u (EAE Z hk hk U Z)
  (a7o (RR:=CT9 CRL CS2) hc hi n E G hg ht T I h ?_)) (λ_ s' hq=>AI4 hq) _ _ e e)]
 intro r s4 H2 H4 fp d pl σ4 ys us k A f2 M a0 O r4 hz q;rw[BUJ W M.loc];have F:s4.heap.Ns A6J m:=W;have P:FV H4 A6J:=M.free;have J:=Inv.unblock A f2 AJH BO wH M a0 O r4 hz (BX Heap.SameBut.refl);have L:A6J≠X.env.locals:=Nat.ne_of_gt (Nat.lt_succ_of_lt A.lt);have K:C49 A6J:=λx c e=>by
  obtain⟨v,z⟩:=iW A.cell;exact Nat.ne_of_lt (Nat.lt_succ_of_lt z.lt)
 rw[tN X.A (assign AVF X.env CUA) s4];refine wpAny_assign_Name (a6L (v:=CUA) J hN hy Z rfl (FH s' I' hb) hf);obtain⟨a,sb,R⟩:=hb;have B:A6J≠a:=by
  rw[cH R R]
  .exact L
  .exact(AH K R).symm
 rw[DV m (F.sameBut sb B) (λh' S=>KS _ (BF I'.turned t' s'.toks it A6J (vU V S.extBut V) ?_ L (DH (Nat.le_trans A.sz (Nat.le_succ _))) K λp hp=>?_) q)]
 .rw[AE (A5 DFZ) P]
 .exact Nat.ne_of_lt (BUZ Nat.lt_succ_of_lt (A.pin p hp).1)
noncomputable def SqAt(k:Bool)(h:Heap)(l:qE)(xs:DB):Prop:=CE9 (h.IsTuple l xs) (h.IsList l xs)
noncomputable def ItAt(k:Bool)(h:Heap)(i l:qE)(n:Nat):Prop:=CE9 (h.IsTupleIter i l n) (h.IsListIter i l n)
noncomputable def c7n:Bool->String|true => "tuple_iterator" | false => "list_iterator"
noncomputable def X5(k:Bool)(l:qE):Obj:=BKQ (.type (c7n k)) BEI
def ItAt.extBut{k:Bool}{h h':Heap}{i l b:qE}{n:Nat}(x:C75)(c:EJZ)(a:i≠b):DNL:=by
 cases k
 rw[B9P Heap.IsListIter.extBut]
 rw[B9P Heap.IsTupleIter.extBut]
def ItAt.at{k:Bool}{h h':Heap}{i l:qE}{n:Nat}(x:C75)(e:CBN i i):DNL:=by
 cases k
 .exact Heap.IsListIter.at x e
 .exact Heap.IsTupleIter.at x e
def ItAt.get{i:qE}(x:C75):∃o,uA i/\ARN #[GV,ABX n]:=by
 cases k<;>obtain⟨o,e,c,d⟩:=x<;>exact(PK e d)
def SqAt.extBut{k:Bool}{h h':Heap}{l b:qE}{xs:DB}(x:C4Z)(c:EJZ)(a:l≠b):DLA:=by
 cases k
 rw[B9P Heap.IsList.extBut]
 rw[B9P Heap.IsTuple.extBut]
def SqAt.at{xs:DB}(x:C4Z)(e:CBN l l):DLA:=by
 rw[EYE (PK (e o q) r)]
def SqAt.get{xs:DB}(x:C4Z):∃o,uA l:=by
 rw[EYE (iK q)]
def a4o{t:qE}{x:qB}(a:EF8)(f:E4A)(g:BYF)
  (d:B7T (h'.IsTupleIter it t AR) (oC x)):B93:=by
 rw[ESH b e (id a) h c f (DRC a.typeIs
  (EQY a.typeIs))]
 rw[F4V (AP0 hd IQ) (AP0 hd CPR) c];simp only[Int.toNat_natCast,g];rw[BI (E1J hd (zN (DG x (zN (d _ ?_ AL7)))))];exact KS (AAF b hd) (kJ Obj.cls_mapFields .. e) (by
  rw[Obj.data_mapFields hd];simp[rawInt])
def a5u{t:qE}(f:OG)(b:EF8)(h:E4A)(j:BXO)
  (g:DY4) :
  B93:=by
 rw[ESH c k (id b) l d h (DRC b.typeIs
  (EQY b.typeIs))]
 rw[F4V (EUN IQ) (EUN CPR) d];simp only[Int.toNat_natCast,j];rw[wJ wpAny_rule (wpAny_setField c hd AL ?_)];rw[A36 CEY];rw[D4C]
 first|rw[BQ0 f]|rw[f]
 rw[BI CYI];exact AM g D3U AHO
def a2J{x:qB}(a:BB0)(c:A19)(d:BYF)
  (b:B7T E9Y (oC x)):B93:=by
 cases k
 .exact wpAny_nextOf_list_item a c d b
 .exact a4o a c d b
def a7E(c:OG)(a:BB0)(d:A19)(f:BXO)
  (b:DY4) :
  B93:=by
 cases k
 .exact wpAny_nextOf_list_end c a d f b
 .exact a5u c a d f b
def R8(b:A19)(a:A4V (KQ CFK)):C2S l:=by
 cases k
 .exact wpAny_pyIter_list b a
 .exact wpAny_pyIter_tuple b a
def b5Y{z TI TO g k:qE}{p:Nat}{xs ys:DB}{x y a b:qB}(D:ZipApart z TI TO f g k l)
  (hz:E7X) (u:DVE cF dH) (B:DRP)
  (h1:CDI s.heap n) (h2:ItAt k2 s.heap g l p) (C:SqAt k1 s.heap k xs) (F:SqAt k2 s.heap l ys) (H:A86 n x) (I:OO ys p y)
  (G:∀h',D3H h' s.heap.objs.size->B5C h' TO->CDI h' CB->DX0 h'->B5C h' s.heap.objs.size->DNR ->
   AOE B45 (CH6 f g ALE)->oC QR) :
  EVQ Builtin.«zip.__next__» z:=by
 rw[F7N u f];rw[F59 (a2J CC6 (CXS C.extBut) H) B];rw[yH (BZ0 hTO₂ h₃ hTO₃ hs₃) hTO₃ (EK4 h₃) hTO₃];rw[jE B5K BPO];rw[BQS g];rw[BI (a2J (EPO hs₃.extBut D.TOi2.symm)
  (EYH F.extBut) I λh₄ h2₄ hs₄=>A71)]
 have hTO₄:EK4 h₄:=AM hs₄.extBut D.TOi2 hTO₃;rw[AGL hTO₄];rw[yH (BZ0 hTO₄ h₅ hTO₅ hs₅) hTO₅ (B5C h₅ TO) hTO₅];rw[OR wpAny_letGo AM1];rw[AGL hTO₅];rw[E2O i h₅.objs.size (by rw[hs₅.1,hs₄.1,hs₃.1,hs₂.1,hs₁.1])]
 have hz₅:AX1 h₅:=ZK hs₅.extBut D.TOz.symm hs₄.extBut D.i2z.symm (ZK hs₃.extBut D.TOz.symm hs₂.extBut D.i1z.symm hz₁);have hk₅:∀c o,B45->CH6 f g DCV:=λc o h m r t e =>
  EMD m hs₄.extBut t m r h e
 have h1₅:CDI h₅ CB:=ADB (ADB h1₂.extBut hs₃.extBut D.TOi1.symm) hs₄.extBut D.i12 hs₅.extBut D.TOi1.symm;have h2₅:DX0 h₅:=h2₄.extBut hs₅.extBut D.TOi2.symm;have d:z<h₅.objs.size:=Heap.lt_size hz₅;rw[A36 (LV Builtin.SmallTypes.ownedTupleHandOut z (AK h₅.objs.size))];rw[NI];unfold Builtin.SmallTypes.ownedTupleHandOut;have hz₆:AX1 (h₅.push (cU #[x,y])):=KP hz₅;rw[yH (AIP hz₆ h₇ hz₇ hs₇) hz₇ (DYB h₇) hz₇];refine AIP hz₇ h₈ hz₈ hs₈;replace hz₈:DYB h₈:=hz₈;have q:BST B45 DCV h₈.get?:=λc o h e=>E4H h h UR;have hT₈:B5C h₈ h₅.objs.size:=E4H DB5 DB5 KC;have j:h₈.objs.size=h₅.objs.size+1:=by rw[hs₈.1,hs₇.1,Heap.size_push]
 rw[i]at hz₈ hT₈ j;rw[SJ pR];show B1X h₅.objs.size _;rw[AE i (G h₈ hz₈ (AM q D.TOz hTO₅) (QB h1₅.at (q _ o D.i1z e)) (QB h2₅.at (q _ o D.i2z e)) hT₈ j λc o h m r t e=>q c o h (hk₅ c o h m r t e))]
def c1s{z TI TO m v y:qE}{B C:Nat}{xs ys:DB}{a b:qB}{Q:rY}(H:OG)(D:ZipApart z TI TO l m v y)
  (hz:E7X) (p:DVE GV AUG) (q:DRP)
  (h1:ItAt k1 s.heap l v B) (h2:ItAt k2 s.heap m y C) (k:SqAt k1 s.heap v xs) (t:SqAt k2 s.heap y ys) (j:KY DIT∨KY DZT)
  (G:D2P (AOE B45 (CH6 l m ALE))) :
  EI (Builtin.«zip.__next__» (JJ (WI z))):=by
 rw[F7N p l];cases u:DIT with
 |none =>
  rw[BI (a7E H CC6 DVK u (DD h₂ e hs₂ r))];rw[F2Q hz₂ h₂ (AM hs₂ D.i1z.symm hz₁) hz₂]
  refine wpAny_setField_rec hz₂ AL λh₃ _ hs₃=>F0E h₃ _ _ (AM hs₃.extBut i (ZK hs₂ n hs₁.extBut i x)) hs₃.extBut
 |some x =>
  have K:DZT=none:=by rcases j with h|h;rw[XA u];exact h
  rw[F59 (a2J CC6 DVK u) q];rw[jE (BZ0 hTO₂ h₃ hTO₃ hs₃) B5K];rw[BI BPO];rw[BQS m];rw[BI (a7E H (EPO hs₃.extBut D.TOi2.symm)
   (EYH t.extBut) K (DD h₄ e hs₄ r))]
  rw[F2Q hz₄ h₄ (AM hs₄ D.i2z.symm (ZK hs₃.extBut D.TOz.symm hs₂.extBut D.i1z.symm hz₁)) hz₄]
  refine wpAny_setField_rec hz₄ AL λh₅ _ hs₅=>F0E h₅ I J (EMD i hs₄ J I n i x) hs₅.extBut
noncomputable abbrev zH1(k1:Bool)(h:Heap)(l1:qE):Heap:=h.push (X5 k1 l1)
noncomputable abbrev zH2(k1 k2:Bool)(h:Heap)(l1 l2:qE):Heap:=(zH1 k1 h l1).push (X5 k2 l2)
noncomputable abbrev zH3(k1 k2:Bool)(h:Heap)(l1 l2:qE):Heap:=CAF zH2 (cU #[AK h.objs.size,AK (CYU h l1)])
noncomputable abbrev zH4(k1 k2:Bool)(h:Heap)(l1 l2:qE):Heap:=CAF zH3 (cU #[.none,.none])
noncomputable abbrev zH5(k1 k2:Bool)(h:Heap)(l1 l2:qE):Heap:=CAF zH4 (uE "zip" #[.none,ACP,ACP,E0O zH2,E0O zH3])
def c1q(a b:qE)(xs ys:DB) :
  A7F Builtin.«zip.__new__» (JJ [LP "zip",AV,FT]) (DXG/\EVM /\
   A79 (BGT zH4) (KQ (BEB zH5))) :=
 (tH (by
  rw[bI k];obtain⟨i,j,h⟩:=h;have l:=sub_zip;have c:D12 (DYN k):=i;have f:SqAt k2 (Shared.heap (AR4 (k.push (X5 k1 a)))) b ys:=QB j.at UR
  wp_walk using R8 c,R8 f
  rw[sD]))
def b5Z{xs ys:DB}(e:DXG)(f:EVM)
  (h:∀h',IsZip h' C33 rD C32 .none->A6I h' rD QR BV4 ->
   A6I h' C32 .none .none->ItAt k1 h' s.heap.objs.size a 0->ItAt k2 h' GO b 0->BN5 (ATD 5) ->
   AOE wP ALE->oC (AK C33)) :
  EI (mW call "zip" [AV,FT]):=by
 refine callType_new F.called_zip AG (BX F.typeCall_zip_2) (BX F.newCall_zip_2) (λg=>F.args_object_init_3 g _ _) F.entry_zip_new
  (c1q (k1:=k1) (k2:=k2) a b xs ys) (xD e f)
 have i:EGD=GO:=Heap.size_push ..;rw[BA8 j zH2 rD i]
 rw[BA8 k zH3 C32 j]
 rw[BA8 l zH4 C33 k]
 rw[BA8 q zH5 (ATD 5) l]
 have d:CD9 zH4:=KC;have p:CD9 zH3:=B2J;have n:CD9 zH2:=C0W;have m:BW BMK EGD (X5 k2 b):=KP C0W;have g1:A4F BMK (X5 k1 a):=nT C0W;show _/\_;rw[j,k,l]at d;rw[i,j]at n;rw[k]at p;rw[i]at m;rw[l];rw[DU (FZ d) (h _ d n p ?_ ?_ q λc o x =>
  KP (nT (nT x)))]
 .rw[BUS k1 g1]
 .rw[BUS k2 m]
noncomputable def SqK(k:Bool)(K:qF)(H:Hp)(a:qE)(xs:AA):Prop:=CE9 bG fK
def Inv.sqk(I:AN)(h:C8Y):D1E (SqAt k s.heap a its.toArray):=by
 cases k
 rw[ENA D77 p.isList]
 rw[ENA D78 p]
def Inv.sqk_inj{ys:AA}(I:AN)(h:C8Y)(h':CT0 ys):B6U:=by
 cases k
 .exact I.list_inj h h'
 .exact I.tuple_inj h h'
noncomputable def Itz(K:qF)(k1 k2:Bool)(a b:qE):It :=
 ⟨λi H=>∃xs ys x y,AN1/\C74/\aA/\C3Y,
  AII v (∃p x y,C0A/\ND/\H'=AGF BPZ/\(∀xs,AN1->aA)/\∀ys,C74->C3Y),
  λi H=>∃xs ys,AN1/\C74/\(BKZ∨AW7)⟩
structure ZTurn(k1 k2:Bool)(z TI TO i1 i2 a b:qE)(i:Nat)(f0:qB)(h:Heap):Prop where
 zz:BGC h f0
 ti:A6I h TI (AK i1) (AK i2)
 to:∃u v,A6I h TO u v
 t1:ItAt k1 h i1 a i
 t2:ItAt k2 h i2 b i
structure ZNe(z TI TO i1 i2:qE):Prop where
 TIz:TI≠z
 TOz:TO≠z
 i1z:i1≠z
 i2z:i2≠z
 TITO:TI≠TO
 TIi1:TI≠i1
 TIi2:TI≠i2
 TOi1:TO≠i1
 TOi2:TO≠i2
 i12:i1≠i2
def Inv.turnedT{ch:EG}{p:qE}{o:HO}(I:AN)(h:DMS)(hp:s.heap.objs.size=p)(k:DG1)
  (new:ObjOk X.prog X.w DEV h' p o):IW DEV UI:=by
 have l:ND:=D5D Nat.le_of_eq hp;have f:AME xM:=EDP h
 have a:AME ZS:=DRY l
 have i:ARH BOK ZS:=jX (by
  rw[EX hp AIK])
 refine EX4 (xS _ d _ (A55 d)) (xS _ d _ (AVO (A55 d))) (JM (AG2 i) n)
  (JL d e (iK (A55 d))) (AG4 DPH) (TC v e DPH) (GW ps (C52 (A5 CXU) e)) (A4W m) (jX ?_) I.bare
 rw[CHX (h b g)]
 .rw[xE es ep ho r j];rw[CGQ (λz=>BNK (h _ z))]
 .rw[VT g p]
  .rw[B1D g];exact new
  .rw[A5 g]at e;refine AGN I.hok u (D18 d) (λc q=>EM3) λc xs q=>EM3
   rw[CA d]
   .rw[AE z (AG2 f)]
   .exact f c _ z
def Inv.turnedL{ch:EG}(I:AN)(f:DMS)(k:DG1):AYC:=by
 have d:AME xM:=EDP f
 refine EX4 (DQQ a) (DQR a) n
  (DU4 a) (AG4 e) (TC v e e) (GW ps (C51 e)) (AJJ h) (jX ?_) I.bare
 rw[CHX (f b g)]
 .rw[RC o es ep ho r];rw[CGQ (DTC f)]
 .refine AGN I.hok u DXJ (λc q=>q) λc xs q=>q;rw[CA a]
  .rw[AE z (AG2 d)]
  .exact d c _ z
def Inv.apart{o:Obj}(I:AN)(i:C8Y)(h:AUD):AMJ:=by
 rw[PJ];have c:∀{u:HO},CAT->False:=λr=>by
  rcases r with r|⟨o,r⟩<;>rw[CY]at r<;>cases r
 have d:∀{f:Obj},OX X.K.lookup f->False:=λe=>by
  have g:=I.mod.kin a _ e;rw[CA (A3N h)]
  .exact AM I.ok.noex g z
  .exact sV (iE (AJE I.ok.bs).1 z)
 cases k
 .rw[ESI]
  .exact c r
  .exact d e
 .rw[ESI]
  .exact c r
  .exact d e
def b6k{kt:Nat}{tp:Pos}{z TI TO g j:qE}(D:ZNe z TI TO g j) :
  ENG pH A5F z (ZTurn k1 k2 z TI TO g j a b i .none h) where
 mem:=AL
 obj:=ANV c (by
  rw[BCU f f]
  .exact DX st.zz AI6
  .exact DX st.ti AI6
  .rw[XU v q st.to];exact DX q AI6
  rw[CGS st.t1.get]
  rw[CGS st.t2.get])
 keep:=zL k ⟨AMM z st.zz,AMM TI st.ti,jK u v q st.to u v (AMM TO q),BS3 st.t1.at g,BS3 st.t2.at j⟩
 item:=by
  rw[F35];obtain⟨xs,ys,x,y,m,n,hx,hy⟩:=N;rw[F5L];rw[ET u hu Y W.get hx];rw[ET v hv Z B.get hy];rw[F7Y (EDF
   (wpAny_call_entry F.slot_zip_next C F.entry_zip_next
    (BF (b5Y J st.zz st.ti p st.t1 st.t2 U V) x u y v D84 (BM hv) λh' a1 a2 a3 a4 a5 a6 a7=>A71) (F.args_zip_next_1 _)))]
  rw[qX];refine wpAny_letOwnedTupleGo_zip (s:=UI) a1 λh2 R l=>?_;have ne:oX A5F DC1:=λc f e=>by
   have:∃o,wP:=by
    rw[BCU f f]
    .exact ES st.zz
    .exact ES st.ti
    .exact ES p
    rw[CCX st.t1.get]
    rw[CCX st.t2.get]
   rw[aJ o this];exact DL7 q e
  have t:A02:=WZ;have S:A6I h2 s.heap.objs.size u v:=B21 (ne z AL).symm a5;have kk:EPL A5F:=λc o f e=>by
   rw[AP8 f];exact B21 jO (EXC a7)
  have I2:EC4 BPZ :=
   I.turnedT (ch:=A5F) r rfl kk (EY9 [u,v] Y Z S)
  refine⟨QR,_,I2,rfl,⟨_,x,y,rfl,t,rfl,DT3,DT3⟩,⟨R,B21 D.TIz (AM a7 D.TIz D.TITO D.TIi1 D.TIi2 st.ti),B1B v (B21 D.TOz a2),a3.extBut l.extBut D.i1z,a4.extBut l.extBut D.i2z⟩,C7Q⟩
  .rw[AE (I.sqk_inj O m) hx]
  .rw[AE (I.sqk_inj O n) hy]
  rw[ELO ne r]
 done:=by
  rw[F35];obtain⟨xs,ys,m,n,G⟩:=N;rw[F5L];rw[AD l1 W.length l2 B.length];rw[F7Y (EDF
   (nX F.slot_zip_next C F.entry_zip_next (c1s DA7 J st.zz st.ti p st.t1 st.t2 U V ?_ (DD h' e hk he)) F.args_zip_next_1))]
  .rw[bK G]
   rw[GE (E9A l1)]
   rw[FN (E9A l2)]
  .rw[F3X he (I.turnedL (ch:=A5F) r) e];rw[AP8 f];exact EXC hk
 self:=λA i s Q E st h=>wpAny_pyIter_zip st.zz h
def nne{a b:Nat}(h:AMJ):@Ne qE a b:=h
def zne(n:Nat):ZNe (n+4) (n+2) (n+3) n CB :=
 ⟨fJ 0x6834d53b5dd77a5,fJ 0x6834d53b5ddcd65,fJ 21378635573765,fJ 598601796065141,fJ 0x6834d50919fb7a5,fJ 0x9d2ad3f27a5,fJ 302412516722597,fJ 0x9d2ad3f7d65,fJ 302412516744549,fJ 27269009349⟩
inductive iZipI(K:qF)(R:eX)(vs:AA)(H1:Hp):Prop
 |mk (k1 k2 a b:_) (_:DHC) (_:(∃xs,SqK k1 K H1 a xs)) (_:(∃ys,SqK k2 K H1 b ys)) (_:R pH H1):DQA iZipI
noncomputable def c7s(K:qF)(ta:TA):TI:=B8M ta iZipI
def c5Y{v:Nat}{A:Pos}{a b:Expr}{ta:TA}{p:Pos}(m:BXK)(n:BYQ)(l:DWE)(i:E6W)
  (o:CEI:=by rfl) (g:CCN:=by rfl) :
  CEU PI (E3Z A) (c7s X.K ta):=by
 rw[AYR];refine Call_ (a2w I m n i (PyProof.Rows.callWith_type1 (B3O l B (A21 vs H1 y q1)) (NG o g) (by rw[g];rfl)));obtain⟨k1,k2,J,K,e,⟨xs,t⟩,⟨ys,u⟩,q⟩:=q1;rw[DQ];cases y with
 |cons r rr =>
  cases rr with
  |cons r' rr =>
   cases rr;cases r;cases r';rw[EC B L w O d.sqk t];rw[EC M z x P d.sqk u];refine b5Z w x λh' k C D E F N G=>?_;refine wpAny_pyIter_zip (s:=ABC s1 h') k ?_;refine⟨BU5 4,[BU5 4,s1.heap.objs.size+2,BU5 3,s1.heap.objs.size,A4G],_,_,H1,rfl,DK0 s1.toks G,b6k (zne _),
    ⟨k,C,DX _ D,E,F⟩,A4W c,q⟩
   have f:s1.heap.objs.size<=c:=by
    rw[BCU j j]
    rw[AJP]
    rw[AJP]
    rw[AJP]
    rw[DI1]
    rw[AJP]
   exact d.fpOk f (d.hok.fresh f)
def a4M{I:qE}(b:OG)(a:l≠I) :
  dI Walks A I [I,l] [I] items.size (λi v=>BOT) (λi h=>ItAt k h I l i/\DEG h):=by
 cases k
 .exact Walks.list b I l a items
 .exact Walks.tuple b I l a items
noncomputable def trV:B6B
 |aC=>b
 |NQ=>DJN
 |.non=>false
 |_=>true
noncomputable def c0I:B6B
 |cX=>true
 |VQ=>true
 |.non=>true
 |_=>false
def a9c{x:V}{v:qB}{Q:YE}(r:aL)(f:EK c0I x)(h:Q (trV x) s):EI (truthy v):=by
 cases x with
 |non=>cases r;exact truthy_none h
 |bl b=>cases r;exact wpAny_truthy_bool h
 |int i=>rw[IM r];exact PySem.P.truthy_int h
 |_=>cases f
def b4x{α:Type}(xs:DI)(p:DGL)(d:α):AHH xs.length all (λi=>p (xs.getD i d))=xs.all p:=by
 rw[Bool.eq_iff_iff,List.all_eq_true,List.all_eq_true];constructor
 .intro h x hx;rw[A7L hx];have:=h i (List.mem_range.mpr hi);rw[BUT hi this]
 .intro h i hi;have a:=List.mem_range.mp hi;rw[BUT a (h AT0 (List.getElem_mem a))]
def b3k(xs:qI):∀n,n<=xs.length->preSum (λi=>AF1) n=(xs.take n).sum
 |0,_=>IN preSum
 |CB,h=>by
  have this:A86 n xs[n]:=MX (AKE 158393616950);rw[pM e (xs.take CB=xs.take n++[xs[n]]) List.take_add_one this]
  rw[preSum,b3k xs n (~~~a3B h),e,List.sum_append];rw[BNC this]
noncomputable abbrev RL:=AN2
inductive rAll(K:qF)(xs:AA)(H:Hp)(Q:VK):Prop
 |mk (k:Bool) (p:qE) (ys:AA) (_:sI) (_:E5M ys) (_:EK ys.all c0I) (_:Q (.bl (ys.all trV)) H):bL rAll
inductive rSum(K:qF)(xs:AA)(H:Hp)(Q:VK):Prop
 |mk (k:Bool) (p:qE) (ns:qI) (_:sI) (_:C8G p) (_:RA ns.sum):bL rSum
def b2m(h:A19):E62 CFK/\DEG CFK:=by
 rw[DU ?_ (QB h.at UR)];cases k<;>exact AT7
def a5G(h:A19):l≠s.heap.objs.size:=by
 rw[RP o h.get];exact AIK
def a5I{c:Obj}(a:A31 (b∉[s.heap.objs.size]) (HV (AAW c get?))):CWH LA:=λb o e =>
 a b o (λz=>by have:=pP;rw[lW UX (BNG this)]) UR
def c1f(g:EH):BZW "all" rAll:=by
 rw[QA x t];rw[TD k p ys rfl o j q];rw[GN u r t.one];cases r;rw[MC c d w I.sqk o];rw[C69 m DA0];refine call_all_walk (R8 d ?_);refine⟨s.heap.objs.size,_,_,_,_,_,EQP,rfl,EAO m,b2m d,?_,FH h' tk n⟩
 .intro i v s' Q' E' hv hq;rw[OA b ALI hv]
  obtain⟨hi,_⟩:=D7W;rw[HC a D7H c.length hi]
  have f:CP ys ys[i]:=pO;rw[ET y e1 e2 c.get f];rw[AIE b];refine a9c e2 (CB7 j a) ?_;rw[BUT f hq]
 .have e:AHH its.toArray.size all EQP=ys.all trV:=by
   rw[jB c.length];exact b4x ys trV .non
  rw[e];exact FY cX H (I.kept (a5I n)) q
def c1b(m:EH):BZW "sum" rSum:=by
 rw[QA B z];obtain⟨k,p,ns,rfl,w,q⟩:=h;rw[VL y z.one y];rw[MC j d A I.sqk w];rw[B4N c j.length c];rw[C69 n (I.ok.hd m)];refine call_sum_walkG (R8 d ?_);refine⟨s.heap.objs.size,_,_,_,_,_,B51,rfl,EAO n,b2m d,CWG,?_,DD h' tk t' r⟩
 .rw[AUF];rw[RP o d.get];have f:=pP;rw[A96 g g]
  rw[DI2]
  rw[BWD f]
 .intro i v hv;rw[OA a ALI hv]
  rw[EX1 D6P x A18]
  obtain⟨C,e1,t,e2⟩:=j.get x;rw[AIE a];rw[AY t (by rw[e2];show _=E31;rw[DKZ A18])]
 .have e:preSum B51 its.toArray.size=ns.sum:=by
   rw[List.size_toArray,<-c,b3k ns _ (Nat.le_refl _),List.take_length]
  rw[e];exact⟨BD ns.sum,H,I.kept (a5I r),NM t',q⟩
inductive rIsi(K:qF)(xs:AA)(H:Hp)(Q:VK):Prop
 |mk (x n t b:_) (_:xs=[x,.ty n]) (_:AC7 x t) (_:BLB t n b) (_:C1I):bL rIsi
def c1c:BZW "isinstance" rIsi:=by
 rw[QA f d];obtain⟨x,n,t,b,rfl,ty,e,q⟩:=h;obtain⟨u,v,rfl,c,a⟩:=d.two;cases a;rw[BIC (b5l I c ty e)]
def a8Q:kW "len" "len":=boot_len
def c7H:E6W:=KK
def c7K:kW "all" "all":=KK
def c7I:kW "sum" "sum":=KK
def c1k:kW "min" "min":=KK
def c7J:kW "max" "max":=KK
def c7L:kW "abs" "abs":=KK
def a0j:kW "isinstance" "isinstance":=KK
def a3N:kW "sorted" "sorted":=KK
def b0J:eN "tuple" "tuple":=KK
def c4o:eN "list" "list":=KK
def c1l:eN "int" "int":=KK
def c4p:eN "bool" "bool":=KK
def c1i:eN "str" "str":=KK
def c1j:eN "set" "set":=KK
def a3d{f:TT}{Q:VK}{J:It}(n:Nat)(c:A07)(h0:B8N)
  (j:C6R A65 (EEI (BH3 J.yld (AGX (BH2 WO) f d d h (c AR A60 h) (c AR ys d)))))
  (hd:AGS c n (J.stop n H/\kK/\A67)):A1S f J:=by
 rw[AXX ys n B3I A65 (EBO (VR 0x1152889b3be69c205)) ys];rw[aZ JP]
 .obtain⟨q1,q2,q3⟩:=BQF j a;rw[QY ⟨q1,q2,wQ,λzs H' p'=>EPQ,q3⟩]
 .rw[E8N]
  rw[DQ];rw[MA AXR]
def b2w{f:TT}{Q:VK}{lo:Int}(d:BVK)(a:A07)(h0:a 0 [] H1)
  (hl:CHE)
  (j:C6R AWP (EPH BVS c c (a AR ys c)))
  (hd:DVR):A1S f DMN :=
 a3d n a h0 (F0B d x (by rw[BJY];subst e y;exact j i ys _ hi p))
  (EBF (Nat.le_trans (BT6 n) d))
def R1{k:TT}{Q:VK}(h:aO)(c:A07)(h0:B8N)
  (j:ENY fK)
  (m:F5K)
  (hd:DVS):A1S k AM4 :=
 DXW (by
   rw[F4W])
  (B0A (by
   rw[F39]))
def T0{k:TT}{Q:VK}(h:aO)(c:A07)(h0:B8N)
  (j:ENY bG)
  (m:F5K)
  (hd:DVS):A1S k AGG :=
 DXW (by
   rw[F4W])
  (B0A (by
   rw[F39]))
def X9{n:TT}{Q:VK}{zs:AA}(l:aO)(c:A07)(h0:B8N)
  (m:EQZ ys A65 (AN1/\DNK/\AW7))
  (r:F1V ys A65 (AGX (CD7 WO [x,z]) n k k o (c AR A60 o) (c AR ys k)))
  (hd:AGS c A17 A67):A1S n pH :=
 D20 A17 (by
   have d:AJU:= ~~~b3s hi
   have f:BW7:= ~~~b8n hi
   obtain⟨q1,h,j⟩:=m i ys H (xF a5z) (~~~a5z f) p;rw[DV (F40 (MX d)) (~~~a5A l d j) BH6];obtain⟨s,x',w,e,e2,q,t,u⟩:=y;subst e q;exact r i x' w ys _ s (AZ7 t) (u zs h) p e2)
  (B0A (by
   rw[MB q1 h j (m _ ys H (VR 27169787094) (VR 755788541398) p) EYA (BT 0x46f57ec0d2abf3601d8 l j) AXR]))
def c4f{zs:AA}{tb:TS}{D:Ends}(d:A8K)(h0:OY d 0)
  (hl:EQZ σ C6K (AN1/\DNK))
  (l:F1V σ C6K (ADH (CD7 σ [x,z]) BZS BZS)) (hd:AWQ (OY d A17) AD1) :
  AO1 (A9M ->
   AXV (pH).stop (pH).go j (j<m) (W AR j σ' H') (pH).yld):=by
 rw[AXX σ A17 (i<=A17) C6K E4R σ];rw[dU q1 (hl i σ H (BX1 0x5a832d73fad617) (BX1 0x9e5f55a77589617) p)];rw[mU c A17]
 .have hi1:AJU:= ~~~b3s c
  have f:BW7:= ~~~b8n c
  rw[B0N (F40 (MX hi1)) BZS (oR AF c p')];obtain⟨n,x',r,e,e2,k,o,q⟩:=y;subst e k;exact l i x' r σ _ n (AZ7 o) (q zs h) p e2
 .have e:i=A17:= BT 0x1a9197ba402b729ae8eff89ea320374cdd8f3b80fd3f88b05512fb9b54fefa5b80b6d7e1a89db6f8823dd617 hi c
  rw[B0Q EYA]
structure Ok(P:qG)(w:World)(K:qF)(mg:AZ)(base:Heap)(x:Str)(k:Nat)(ps:AB)(sp:Sp):Prop where
 ex:CD2 CX0
structure FunAt(K:qF)(mg:AZ)(x:Str)(st:Stmt)(ps:AB):Prop where
 ex:∃f fd,CQ3/\BM5 x fd/\A3Z
section
variable {mg:AZ}{base:Heap}
def FunAt.ok{x:Str}{st:Stmt}{N ps:AB}{k:Nat}{sp:Sp}(F:AAJ)(S:lG)(len:bM)
  (b:A1U x (WP ->
   E7V DOW)):ET5:=by
 rw[xA c F.ex];rw[ID f fd h1 h2.kp c (E7D h2.ok)]
#where
section
variable {k:Nat}{sp:Sp}{p:Pos}{e:Expr}{t:TA}
def b7y(O:EZM)(j:fF)(i:MM)(g:fS)(a:GH:=by decide)
  (h:CG:=by rfl) (b:GG:=by rfl):AZP DRE:=by
 rw[AOT h1 h2 c d];exact a8b d j i h1 h2 c .nil a6U g a h b
#where
inductive EqV(K:qF)(H:Hp):Nat->V->FC V Bool
 |flat {n:Nat}{x y:V}(fx:sJ) (fy:A9U):BR0 AYW
 |tup {n:Nat}{a b:qE}{xs ys:AA}(e:rW) (ha:bG) (hb:DLN) (he:EPT) :
   F0P
 |lst {n:Nat}{a b:qE}{xs ys:AA}(e:rW) (ha:fK) (hb:ACV b ys) (he:EPT) :
   F0P
def b0x:∀{x:V},sJ->eqV x x=true
 |.non,_=>rfl
 |aC,_=>beq_self_eq_true b
 |NQ,_=>beq_self_eq_true i
 |A8Z,_=>beq_self_eq_true y
 |BVH,h=>TJ
 |.flt _,h=>TJ
 |AK _,h=>TJ
 |.ty _,h=>TJ
def EqV.same{x y:V}{b:Bool}(I:AN)(h:F10):x=y->pL:=by
 induction h with
 |flat fx fy=>rw[PJ];exact b0x fx
 |tup e c d g f =>
  rw[F6P I.tuple_inj]
 |lst e c d g f =>
  rw[F6P I.list_inj]
def J9{us:AI}{j:Nat}{u:qB}(r:aH)(h:JH us u):∃x,BLI/\aV:=by
 obtain⟨c,_⟩:=List.getElem?_eq_some_iff.mp h;rw[HC a kN r.length c]
 have b:JH xs xs[j]:=pO;rw[eV d e q b];rw[HM h];exact DX b q
def EqV.at{n:Nat}{x y:V}{b:Bool}(I:AN)(h:F10):∀{A:Around}{u v:qB},bW A.units n->aV->E2W->CDU b:=by
 induction h with
 |flat fx fy=>intro A u v _ m o;exact c0N m o fx fy
 |@tup n a b xs ys e i k r t =>
  rw[ERU]
  rw[F5Z EqV.tup]
  .rw[F5C D9M D9Y];have:=AXO SeqAt.RcAt.tuples A (BM1 us.toArray p1) (show s.heap.IsTuple b d.toArray from p2) C25 AXL
   .rw[A33]
   .rw[EA9]
    rw[EN5]
    rw[F5G]
 |@lst n a b xs ys e i k r t =>
  rw[ERU]
  rw[F5Z EqV.lst]
  .rw[F5C D9L (I.list k)];rw[CS p us.length d.length]
   .have:=AXO SeqAt.RcAt.lists A p1.isList p2.isList D83 C25 AXL
    .rw[A6G p]
    .rw[EA9]
     rw[EN5]
     rw[F5G]
   .rw[DY1 A p1.isList D83 C25];rw[RD B ((us.length==d.length)) false p]
    rw[B2P B this]
inductive rEqD(K:qF)(neg:Bool)(x:V)(y:V)(H:Hp)(Q:VK):Prop
 |mk (n b:_) (_:n<=50) (_:BR0 b) (_:(∃a c,IE/\ACU c)) (_:DGG (! b) b):EMS rEqD
def c6z(k:HD):BZG (rEqD X.K false):=by
 rw[F78 .Eq SeqAt.RcAt b (by
  cases i with
  |flat fx fy=>cases fx
  |@tup n _ _ xs ys e z B i =>
   rw[F3D SeqAt.RcAt.tuples]
   .rw[A33]
   .rw[BB2]
    rw[BC4]
    rw[BD2]
  |@lst n _ _ xs ys e z B i =>
   rw[F0Q]
   .rw[ERF SeqAt.RcAt.lists]
    .rw[A6G r]
    .rw[BB2]
     rw[BC4]
     rw[BD2]
   .rw[DY1 X.A t.isList AHJ AXE];rw[EWV]
    rw[B2P D this])]
 exact WB key C3P
def c6t(k:HD):BZH (rEqD X.K true):=by
 rw[F78 .NotEq SeqAt.RcNeAt (! b) (by
  cases i with
  |flat fx fy=>cases fx
  |@tup n _ _ xs ys e z B i =>
   rw[F3D SeqAt.RcNeAt.tuples]
   .rw[A33]
   .rw[BB2]
    rw[BC4]
    rw[BD2]
  |@lst n _ _ xs ys e z B i =>
   rw[F0Q]
   .rw[ERF SeqAt.RcNeAt.lists]
    .rw[A6G r]
    .rw[BB2]
     rw[BC4]
     rw[BD2]
   .have:=SeqAt.RcNeAt.lists_lengths (A:=X.A) (s:=s) t.isList p2.isList AHJ AXE;rw[EWV]
    rw[B2P D this])]
 exact WB key C3P
def c4r{ns ms:qI}:F4I BAK:=by
 rw[F32]
 .rw[C9M];rw[EOC h2 a b h1 (oD c4M h2)];simpa[List.getD_eq_getElem?_getD,a,b]using this
 rw[E49]
def c0v{ns:qI}{j:Nat}{x:V}(h:DGD):ATR BYK/\j<ns.length:=by
 rw[B3Y];cases e:BJ0 with
 |none=>rw[AOK]
 |some z =>
  rw[e]at h;obtain⟨a,_⟩:=List.getElem?_eq_some_iff.mp e;rw[AY (by rw[List.getD_eq_getElem?_getD,e];exact ATU h) a]
def EqV.ints{ns ms:qI}(c:C8G a)(d:A3W k H b ms.map):EDJ:=by
 rw[EWI DGD V.int BAK (by
  obtain⟨rfl,_⟩:=c0v e;obtain⟨rfl,_⟩:=c0v f;rw[RV (ETR (CO9 ns.getD) CYC) (BKB (vZ (eqV (.int BYK) CYC) (ADE ns.getD ms.getD)))])]
 rw[<-c4r];cases k
 rw[BBK EqV.lst BAK]
 rw[BBK EqV.tup BAK]
def c0B:AMR c7R rIxL:=by
 rw[NK l m];obtain⟨p,xs,i,z,rfl,rfl,k,g,q⟩:=h;rw[A7P l m];rw[ANE A k];obtain⟨j,h1,h2,n,d,f⟩:=a4J g;rw[eV w c b h2];rw[CH2 e o b];rw[aZ B2H]
 .have hj:i.toNat=j:=by
   rw[CB2 f]
  exact wpAny_getItem_list pl.isList a AF DQY fin
 .have hj:B3S AJF=j:=by
   rw[seqIndex_neg A76 d]at h1;rw[jB e];rw[BJ8]
  exact wpAny_getItem_list_neg pl.isList A76 (C9A (b9t d e)) AF DQY fin
inductive rPlusT(x:V)(y:V)(H:Hp)(Q:VK):Prop
 |mk (a b xs ys:_) (_:IE) (_:A9G) (_:A0J) (_:bU b ys) (_:DQB) (_:BR1 B02):YJ rPlusT
def b7D:ALW rPlusT:=by
 rw[NK B C];obtain⟨a,b,xs,ys,rfl,rfl,k,l,E,q⟩:=h;rw[CS z xs []]
 .subst z;rw[pJ B C];rw[AE2 its J G (BU3 C2U) A K (BU3 (xK l))];cases J;rw[B0V w t n G];rw[AE3 r j i m g d F f p2];rw[B9K t d f t d f];exact D40 (FZ w) A6X
   (tuple_addW0 a b _ _ n F dd j sl m AL) ⟨w,g,vL FT (q b H mG l)⟩
 .refine AM (cW c2P) v u Q I B C ⟨a,b,xs,ys,rfl,rfl,C2U,xK l,z,E,AB5,FH _ p D⟩
  .rw[pT (EIQ (A5M k))]
  .exact q p _ (CYR D) A0
open PySem.AutoSeq1 (wpAny_loadPart')
def a0l:BDS (mW fillsNumberSlot "tuple" "mul") :=
 PySem.fillsNumberSlot_seq (id:="tuple.__mul__") (r:=WE "tuple.__rmul__") F.slot_tuple_mul.lookup BK F.slot_tuple_rmul.lookup BK
def a2M:tZ seqRepeat? "tuple"=pure (WE "tuple.__mul__"):=by
 unfold seqRepeat?;rw[EZ2 "__mul__" (id:="tuple.__mul__") F.slot_tuple_mul.lookup,EZ2 "__rmul__" (id:="tuple.__rmul__") F.slot_tuple_rmul.lookup];rfl
def a5f(a:Int)(t:Tok)(l:qE)(items:DB)(n:Nat)(dd:EN)(sl:YM) :
  A7F Builtin.«int.__rmul__» (oH ANK GV) (AIC/\A63 Value.notImplemented s) :=
 (tH (by rw[bI c];rw[dU b h];wp_walk;rw[sD]))
def b0W(l:qE)(items:DB)(n:Nat)(dd:EN)(sl:YM)(u:Tok) :
  EG0 1 (A79 l s) :=
 (tH (by
  rw[bI c];rw[dU a h];have b:=AutoSeq1.idx_int
  rw[AN5]
  rw[sD]))
def b0V(l:qE)(items:DB)(n:Nat)(dd:EN)(sl:YM)(x:Int)(u:Tok)(e:D8S)(h1:1<x)(h2:¬qZ (CJ (x < -(WX))) (CJ (BUR x)))
  (f:¬(EHC > C8M)) (i:¬EK Builtin.Tuple.tupleTooMany EHC) (hsz:CC (List.foldl DPR #[] (ATK x.toNat items)).size) :
  A7F Builtin.«tuple.__mul__» (oH GV (.int x u)) (AIC /\
   E8Z (BT3 DPR x.toNat items)) :=
 (tH (by
  rw[bI o];rw[dU a h];have m:=AutoSeq1.idx_int;have e1:(x==1)=false:=by simp;rw[ED 0xb7c2aff86a6e03f6 h1]
  have e2:dF (x<=0):=by simp;rw[ED 0x8d3953a323f6 h1]
  have j:¬(qZ items.isEmpty (x==1)):=by rw[e,e1];decide
  have k:¬(qZ (CJ (x<=0)) items.isEmpty):=by rw[e,e2];decide
  rw[AN5]
  rw[BA h2]
  rw[AN5]
  rw[BA f]
  rw[AN5]
  first
   |rw[sD]
   |(rw[BA i];rw[AN5];rw[sD])))
def a5R{α:Type}(its:DI):AJ2 k qQ DI EXG
 |0,qQ=>AL
 |BZ,qQ=>by
  rw[ER6]
  rw[EHZ e (a5R its k) List.replicate_succ List.flatten_cons]
inductive rRepT(x:V)(y:V)(H:Hp)(Q:VK):Prop
 |mk (a xs n:_) (_:IE) (_:C2E) (_:A0J) (_:BY5) (_:OE) (_:E96) (_:DQU):YJ rRepT
def b3o:ALX rRepT:=by
 rw[EW2 N O w j i K];rw[A7P N O];rw[MC r M L I.tuple (xK w)];rw[EO7 g B M B B];have d:=r.length;rw[EC0 f d j]
 refine ERV A6X n
  (F3M n n g A6X)
 rw[CS h1 n 1]
 .subst h1;rw[oM F.slot_tuple_mul A6X F.entry_tuple_mul F.args_tuple_mul_2 (b0W a its.toArray m dd sl t) ⟨g,AV,H,I,rfl,EIQ ?_⟩];rw[PQ w]
 .rw[QV e0 (a5R its n.toNat []) List.nil_append e0];have G:FO (AZ6 n.toNat)=C94:=a8z its n.toNat;have A:CC C94:=by
   have e1:EE C94=AHC*n:=by
    rw[d];push_cast;rw[Int.toNat_of_nonneg (~~~b8y i),Int.mul_comm]
   omega
  have C:sizeLine=16777216:=sizeLine_eq;have k:AJF*n<=16777216:=by rw[jB d];rw[KZ 0x196f32708585d46dd6d008c00b16cdd2097347b97 K C]
  have J:n<=AJF*n:=by
   rw[HC D (SQ<=BH its.toArray.size) List.size_toArray (lq 0x800e5f36745d f)]
   have:=Int.mul_le_mul_of_nonneg_right D (show PD<=n by exact b8y i);rw[XF 0xe752e15be9812]
  rw[EN4 A6X (CBH b0V sl n t (by rw[EHN f f]) (BT 0x366b6479d4806fdbccb2767f6 i h1) ?_ ?_ ?_ ?_) g]
  .simp only[Bool.or_eq_true,decide_eq_true_eq,not_or];omega
  .omega
  .simp only[Builtin.Tuple.tupleTooMany,decide_eq_true_eq];rw[KZ 0x2cea19503342afe8449575e8baf4da29bc112e0317 C k]
  .rw[F1E];rw[e0',List.size_toArray,G];exact A
  .rw[F1E];rw[e0'];have E:A02:=WZ;refine EDE CQV P E;rw[FJ (KG a8z d A) _ (r.rep n.toNat) AHG]
#where
section
variable {B:IV}{H H':Hp}{K:qF}{N:AB}{Q:VK}{X:Cx}{a b p:qE}{caps σ:St}{es:BN}{g:TG}{i k n:Nat}{l:EG}{o:HO}{rss:LLI}{sp:Sp}{src:OJ}{st:Stmt}{te tl:TE}{tg:Expr}{v:V}{vs:AA}{x:Str}{xs:qI}
section
variable {pos:Pos}
def c2B(K:qF){t:TGs}(c:EH)(h:DOQ)(b:AQ:=by rfl)
  (d:CFS:=by rfl) (a:CH4:=by rfl):EQN (gTup K n t):=by
 subst b;exact c6a c h d a
def b7l(K:qF){l:Expr}(hl:AO8)(a:AQ:=by rfl):DLO c0w:=DCJ c2z
def c2x(K:qF){l:Expr}(hl:AO8)(a:AQ:=by rfl):DLO c4a:=DCJ c5Z
def c2w(K:qF){j:Pos}{a b:Expr}{ta:TA}{p pos:Pos}(f:BXK)(g:BYQ)(e:DWE)(d:AQ:=by rfl)
  (h:CEI:=by rfl) (c:CCN:=by rfl) :
  CEU PI ECS (c7s K ta):=by subst d;exact c5Y f g e c7H h c
noncomputable def c8g(K:qF)(ta:TE):TT:=ETT (c7P K x H' k)
def b4z(K:qF){a:Expr}{ta:TE}(d:VX)(e:CGV)(c:AQ:=by rfl):iO a DOH:=by
 subst c;exact b6T d e
def c0t(K:qF)(a:AQ:=by rfl):DN5 rIxL:=rL c3V
def c3U(K:qF)(a:AQ:=by rfl):DN5 rIxT:=rL c7l
def b5o(K:qF)(a:AQ:=by rfl):c7R X (rIxL K):=rL c0B
def b6x(K:qF)(a:AQ:=by rfl):DN4 rSlL:=rL c1I
def c1H(K:qF)(a:AQ:=by rfl):DN4 rSlT:=rL c5H
def b7F(K:qF)(a:AQ:=by rfl):B4R C68:=rL b4H
def b4G(K:qF)(a:AQ:=by rfl):UT .NotIn DMI:=rL a8d
def c6y(K:qF)(b:HD)(a:AQ:=by rfl):BZG DKT:=B4J c6z
def c6s(K:qF)(b:HD)(a:AQ:=by rfl):BZH DKS:=B4J c6t
def b5S(K:qF)(b:EH)(a:AQ:=by rfl):A5X "all" rAll:=B4J c1f
def b5E(K:qF)(b:EH)(a:AQ:=by rfl):A5X "sum" rSum:=B4J c1b
def b5O(K:qF)(a:AQ:=by rfl):C3N rIsi:=rL c1c
inductive rLen(K:qF)(xs:AA)(H:Hp)(Q:VK):Prop
 |mk (p ys:_) (_:sI) (_:CAG) (_:DD6):bL rLen
inductive rList(K:qF)(xs:AA)(H:Hp)(Q:VK):Prop
 |mk (p ys:_) (_:sI) (_:CAG) (_:DQL):bL rList
inductive rTuple(K:qF)(xs:AA)(H:Hp)(Q:VK):Prop
 |mk (p ys:_) (_:sI) (_:ESO BLZ CQZ):bL rTuple
def b5N(K:qF)(k:AQ:=by rfl):A5X "len" rLen:=by
 rw[F50 a8P]
def b2C(K:qF)(k:AQ:=by rfl):dV A3K (rList K):=by
 rw[F50 a8N]
def b0F(K:qF)(k:AQ:=by rfl):dV dC (rTuple K):=by
 subst k;rw[BU0];rw[T6 p ys x y];exact a6E a b c d e f g i j EO9
inductive rMin(xs:AA)(H:Hp)(Q:VK):Prop
 |mk (i j:_) (_:DHP) (_:DWZ):fQ rMin
inductive rMax(xs:AA)(H:Hp)(Q:VK):Prop
 |mk (i j:_) (_:DHP) (_:CZZ (j > i)):fQ rMax
noncomputable def c8w:RL:=AF0 EXE
def b5H(k:EH):mO "min" rMin:=by
 rw[BU0];rw[T6 p ys x y];exact b5J k a b c d e f g i j EO9
def b5Q:dV A6M c8w:=b5R
variable {o e:Expr}{to:TE}{t:TA}{name:Str}{qN qM:Pos}{T id:String}{r:sT}
def a1i(K:qF)(m:B83)(f:BBY)(g:APA)(j:BAH)(k:A0O)(i:fS)(h:AQ:=by rfl)
  (b:ALV:=by rfl)
  (d:LU (ARP
   && ARO):=by rfl)
  (c:OM:=by rfl) (l:CG:=by rfl) (a:RZ:=by rfl) :
  CA9 (BG9 T r):=by subst h;exact c8B m f g j k i b d c l a
def c2I(K:qF)(h:B83)(c:BBY)(d:APA)(f:BAH)(g:A0O)(e:AQ:=by rfl)
  (a:ALV:=by rfl) (b:OM:=by rfl):AJW name [] (c1B K T r to):=by
 rw[pT (c6m h c d f g a b)]
#where
inductive IT(H:Hp)(v:V)(ns:qI):Prop
 |mk (a:_) (_:AGC) (_:BL7 ns.map):C3H
def IT.same{ns:qI}(h:C3H)(s:BG)   : DHL:=jK a e q h a e (s a _ q)
def Same.upd(s:BG)(hp:VJ):KO (BHR o):=jX (by
 rw[AE (C02 C42) C42])
def K5{u:HO}(a:ATW)(hp:ND):L1 H p o b u:=AJ (C02 a) a
noncomputable def Off(l:EG)(H H':Hp):Prop:=uB (b∉l) A3E H'
def Off.refl(l:EG)(H:Hp):BY2 H:=E8Y
def Off.trans{H1 H2:Hp}(a:BY2 H1)(b:E4L l):BY2 H2:=λc o d e=>b c o d (a c o d e)
def Same.off(s:BG):AKT:=JL _ e (NE s)
def Off.upd(s:AKT)(hp:VJ):EWD:=TC a e (by
 rw[AE (C02 BBC) BBC])
def Off.set(s:AKT)(hp:p∈l):Off l H (L2.upd H' p o):=TC a e (by
 rw[AE (A5 (by rw[PJ];exact a hp)) BBC])
def Off.mono{a:EG}(s:AKT)(h:yL l a):ZB a:=vU c s (λz=>c (h b z))
def R4(ns:qI):AIZ (A3M ns.map):=List.length_map _
def U7{ns:qI}{x:V}(h:bY (BLX)):∃z,CP ns z/\ATR z:=by
 rw[B3Y];cases e:DBB with
 |none=>rw[AOK]
 |some z=>rw[EB4]
def U0{α β γ:Type}(f:AO7 γ){xs:DI}{ys:A7W}{x:α}{y:β}(a:aA)(b:C3Y):yZ AR=yZ i++[AHT]:=by
 have:CP ((AV8)) AHT:=pX List.getElem?_zipWith a b
 rw[List.take_add_one,this];rfl
def a4L{k1 k2:Bool}{ys:qI}(f:B68)(q:A3W k1 H a xs.map)(r:A3W k2 H b ys.map)(hl:RW)
  (c:ERR)
  (g:ALZ) (k:BAV n (PF->EBS->EFR))
  (hd:C6Q) :
  BCQ:=by
 rw[XQ o]
 rw[CFY BKY o yZ]
 .rw[BCS l U7 d m U7];rw[F3O]
  .match j,e with
   |0,e=>rw[CM]
   |1,e=>rw[CM]
   |j+2,e=>exact e
  .exact k x' d _ _ s' (BBN s' l m)
 .rw[EGU (by
   rw[BBJ R4 R4])]
  rw[B6W]
def Sub.one:Sub CJ2 AG5:=EW (λj u e=>by
 match j,e with
 |0,e=>rw[CM]
 |OC,e=>exact e)
def a5h{e:TT}(g:YC)(c:bJ)(a:A07)(h0:a 0 [] H)(hl:CHE)
  (h:C6R AWP (e B3G H λb d=>UW b (te B3G d λv f=>a AR A60 f) (a AR ys d)))
  (hd:DVR):ASD e te C6F:=by
 rw[XQ j]
 refine b2w (~~~a0f g j) a h0 hl (DP i ys H hi p) hd;show Sub _ (B75 (FP (0+QW)))/\_;rw[c,Int.zero_add];rw[AY Sub.one (BQF h hi)]
def a9b(f:DEO)(hl:RW)(b:BQQ nH)(c:bJ)
  (e:∀x H1 g,YH->PF->g (f x) H1->yO (gH (FP x)) g) (hd:AZZ xs.map):C3T:=by
 rw[XQ j]
 refine T0 (xs:=nH) (AJ R4 (a0f hl j)) (eQ (ys=FQ xs.take i f)) A4P (OB ys BBF) ?_ ?_
 .rw[C8U];rw[lO z d U7 hx];rw[A6C (B75 (FP z)) c (e z H' _ DB4 s DAX)];rw[E6D]
 rw[CC3 R4]
def a5g(f:QO V)(c:YC)(a:bJ)(b:∀(i:Nat) H1 Q1,JP->PF->Q1 (f i) H1->yO B3G Q1)
  (hd:AZZ (iC n)):AFF C6F:=by
 rw[EQS c (ys=iC i f) (BN9 EL)]
 .rw[CG5 s rfl];refine b i H' _ hi s DAX;rw[D92 List.range_succ]
 .rw[oW ys];exact hd H' p s hp
def Room.u60{A:Around}(r:B4C):bW A.units 60:=B17 r.un 0x51622c9d60c00f9279bb6f763759731044e1c7967c049f127
def a1K{t u:TS}{D:Ends}(a:QT)(fin:AWQ DU2 E3W)(h:(∀σ H,DU2->E3W)->DMR):EYL t:=h fin
def c8a{neg:Bool}{cs:qI}(a:EUM)(e:C0H)
  (q:∀p,ND->A06 EHY B50):tOp DKU te (b4i a0X) σ H Q :=
 a _ ⟨IC,λp d=>⟨1,_,AG,BF EqV.ints k false ms [] (SqL.of (K5 e d)) UJ,B55,q p d⟩⟩
def c8d{neg:Bool}{Q:VU}{cs:qI}(a:EUM)(d:C0H)
  (q:∀p,ND->Q EHY B50):kT R7 (tOp DKU te (b4i a0X)) :=
 c8a a d λp e=>CD (q p e)
def cut_lo(xs:qI)(k:Nat)(a:DNQ):E59 nH jU=CNS V.int:=by
 rw[EM7 List.length_map D6S List.drop_zero Nat.sub_zero]
def cut_hi(xs:qI)(k:Nat)(a:DNQ):EEB nH jU=FQ xs.drop k V.int:=by
 rw[EM6 D6S (aB List.take_of_length_le) List.map_drop]
def b4n(xs:qI)(k:Nat)(z:Int)(a:ALS):xs.take k++[z]++xs.drop BZ=E2G:=by
 rw[List.set_eq_take_append_cons_drop,YA,List.append_assoc];rfl
def c5Q{j:Nat}{tx:TE}{z:Int}(hi:DJ5)(m:JH σ BX9)(l:DDF)(c:ALS)(hl:RW)
  (f:∀H' (N:VK),BG->N (.int z) H'->tx σ H' N) (q:A14 E2G) :
  tOp rPlusT (tOp rPlusT (C8Q wE K8 (b2T (tVar j))) (c5z (a3R tx a0X))) (C8Q wE (b2T (tOp C6N (tVar j) D0S)) K8) σ H Q:=by
 rw[RX g]
 refine⟨_,hi,_,m,k,rfl,a,_,rfl,GR l,?_,pN t⟩
 rw[EE5 HT.sIx_none]
 .rw[cut_lo xs k (~~~a5z c)];have s1:KO DP9:=AZ2 H t;have e1:L1 H p BO5 p BO5:=A0;rw[xT DP9 e1];refine f H1 _ s1 (A6F (C1B g) p2 d);have h:ARE E9U:=AZ2 H1 d;rw[fW e2 H1 p2 BP7 p2 BP7];generalize E9U=H2 at h e2;refine⟨p,p2,_,_,rfl,rfl,pZ h,e2,?_,DD u b x r⟩
  .rw[oY List.length_take];rw[A9E E0R 0xe2b05d8098cc59852184fc3367ddc80e7 hl g]
  .have s13:KO b:=BZ1 h x;refine⟨_,hi,_,m,_,_,rfl,rfl,_,rfl,a,_,rfl,hE s13 l,?_,AS n e⟩
   rw[EE5 ERH]
   .rw[ERH,cut_hi xs BZ (~~~a8w c)];have o:Same b (upd b n (TZ (FQ xs.drop BZ))):=HE b e;refine⟨u,n,_,_,rfl,rfl,AH o r,A0,?_,DD w A y s⟩
    .rw[List.length_append,List.length_map,List.length_take,List.length_map,List.length_drop];rw[A9E (E0R+_) 0x21561268ab9bbf0249ae81f9064d08c1c23e33efe57367ddc80e7 hl g]
    .refine AM q (IP s13.trans o y) (B33 w);rw[s,<-b4n xs k z c];simp
structure JE(X:Cx)(e:Expr)(t:TE):Prop where
 h:AR0 t
structure JT(X:Cx)(e:Expr)(t:TT):Prop where
 h:DKW
structure JW(X:Cx)(e:Expr)(t:TT):Prop where
 h:DKX
structure JA(X:Cx)(es:BN)(t:TA):Prop where
 h:B5P
structure JS(X:Cx)(st:Stmt)(t:TS):Prop where
 h:C4N
structure JB(X:Cx)(st:IV)(t:TS):Prop where
 h:DKY
structure JG(X:Cx)(tg:Expr)(t:TG):Prop where
 h:PG X tg t
structure JGs(X:Cx)(ts:BN)(t:TGs):Prop where
 h:PGs X ts t
structure JI(X:Cx)(tg iter:Expr)(t:TI):Prop where
 h:B7W iter t
structure JF(X:Cx)(ifs:BN)(t:TT):Prop where
 h:PIf X ifs t
structure JO(X:Cx)(e:A84)(t:TO):Prop where
 h:AW1 PO
section
variable {a b c e o:Expr}{rest:BN}{ta tb tc to:TE}{tA tB:TT}{t:TA}{pos p qN qM p2:Pos}
def jv(i:Nat)(b:fB:=by rfl)(c:AMO:=by rw[ESC])(hd:GH:=by decide)
  (a:CAH:=by decide):CI A46 wE:=⟨ESZ⟩
def A6{i j}:BA2 NQ (C0T .int):=⟨c6i⟩
def a0h{i j}:BA2 (.bool i) (C0T .bl):=⟨c8C⟩
def G0{j}:BA2 .none DM1:=⟨c6g⟩
def A4{x j}:BA2 TQ E4Q:=⟨c6e⟩
def a8E{u:qB}(a:MM)(b:AKX)(d:C3Z)(r:OH)(c:A7D:=by decide)(hd:GH:=by decide):DT6:=⟨c2J a b d r c hd⟩
def N5(c:CF)(d:DL):B5Q C6N:=VZ c6B
def a3Z(c:CF)(d:DL):A3C .Sub DMY:=VZ c6p
def a2W(c:CF)(d:DL):AM7 E74:=VZ c6u
def a2X(c:CF)(d:DL):A3C .Mod (wY E20 (i % j)):=VZ c6v
def c7j(c:CF)(d:DL):ECU c9c:=VZ c2O
def c5d(c:CF)(d:DL):A3C .Pow (wY c9b E03):=VZ c6r
def a4E(c:CF)(d:DL):B5Q ((rPlusT)):=VZ b7D
def X4(c:CF)(d:DL):B5Q ((rCat)):=VZ c6A
def c7h(c:CF)(d:DL):AM7 ((rRepT)):=VZ b3o
def b3C(c:CF)(d:DL):AM7 ((rRep)):=VZ c6q
inductive rAddStr(x:V)(y:V)(H:Hp)(Q:VK):Prop
 |mk (i j:_) (_:rC i) (_:DUE) (_:E8P) (_:DI6):YJ rAddStr
def B5(e:CF)(f:DL):B5Q rAddStr:=⟨Y5 (λp s σ H x y v u Q I g k h=>by obtain⟨i,j,a,b,c,d⟩:=h;exact b1v p s σ H x y v u Q I g k ⟨i,j,a,b,c,d⟩) e.h f.h⟩
def Z1(b:CF):CI (BRA .USub) (tUn DUA ta):=⟨c8z c5v b.h⟩
def a0R{op}(h:CF):APM (.BoolOp op KJ pos):=AMK c6f
def a1t(c:CF)(d:E3G .And):E5U .And DR3:=BAW c6n
def c8V(c:CF)(d:E3G .Or):E5U .Or DR4:=BAW c8A
def a5M(f:B6M)(d:CF)(e:DL):CI DX1 E3F:=⟨b7r f.h d.h e.h⟩
def Y7(c:CF)(d:DL):A91 .Eq ((rEq)):=B66 c4K
def K2(c:CF)(d:DL):VY .Eq ((rEq)):=sU c4K
def c5b(c:CF)(d:DL):A91 .NotEq ((rNe)):=B66 c4J
def Y8(c:CF)(d:DL):VY .NotEq ((rNe)):=sU c4J
def b3A(c:CF)(d:DL):VY .Lt (vV (i<j)):=sU c8F
def b3y(c:CF)(d:DL):A91 .LtE A0V:=B66 a6V
def c8S(c:CF)(d:DL):VY .LtE A0V:=sU a6V
def a0p(c:CF)(d:DL):VY .Gt (vV (j<i)):=sU c8G
def c8T(c:CF)(d:DL):VY .GtE (vV (j<=i)):=sU c8H
def c0e(K:qF)(f:HD)(d:CF)(e:DL)(c:AQ:=by rfl):VY .Eq DKT:=(EZE c6y)
def c0c(K:qF)(f:HD)(d:CF)(e:DL)(c:AQ:=by rfl):VY .NotEq DKS:=(EZE c6s)
def c6Y(c:CF)(d:DL):A91 .Is C6U:=B66 b7E
def T7(c:CF)(d:DL):VY .Is C6U:=sU b7E
def b3z(c:CF)(d:DL):VY .IsNot EBA:=sU c2N
def c6Z(K:qF)(d:CF)(e:DL)(f:B6O)(c:AQ:=by rfl):A91 .In C68:=(AO2 a1M b7F)
def b2j(K:qF)(d:CF)(e:DL)(f:B6O)(c:AQ:=by rfl):VY .In C68:=(AO2 K9 b7F)
def b5f(K:qF)(d:CF)(e:DL)(f:ACN .NotIn b)(c:AQ:=by rfl):VY .NotIn DMI:=(AO2 K9 b4G)
def U5(h:JW X e tA):BF9 e:=⟨h.h.pt⟩
def a0K(b:AMU):C56 KJ tA:=C1O pw_and1
def K7(b:AMU):C57 KJ tA:=C1O pw_or1
def a2x(c:AMU)(d:C56 iD tB):C56 yQ (c8o tA tB):=BAW pw_and
def O4(c:AMU)(d:C57 iD tB):C57 yQ (tOr tA tB):=BAW pw_or
def Q8(b:AMU):JT X DR7 DYK:=C1O c5R
def J7(K:qF)(d:CF)(e:CGV:=by rw[fU])(c:AQ:=by rfl):JT X a DOH:=⟨b4z K d.h e c⟩
def jaN:JA X [] a0X:=⟨c6o⟩
def jaC(a:YL)(b:BY4)(c:CG:=by rfl):C66 JA a3R:=⟨c2K a.h b.h c⟩
def S9{x1}(h:BY4):nQ .Tuple es x1 (c5z t):=AMK c6c
def C8(h:BY4):CI E5W (b4i t):=AMK c6h
def F7(K:qF)(d:CF)(e:DL)(f:B2E:=by rw[AO0])(c:AQ:=by rfl):CER DCB:=AO2 b7q c0t
def F4(K:qF)(d:CF)(e:DL)(f:B2E:=by rw[AO0])(c:AQ:=by rfl):CER (rIxT K):=AO2 b7q c3U
def G3:JO X none K8:=⟨c2p⟩
def G2(h:YL):JO X D65 DKC:=AMK c2o
def X0(K:qF){lo hi:A84}{tl th:TO}(b:YL)(hl:E9D)(c:E9E)(a:AQ:=by rfl):ECT (tSl (rSlL K) te tl th):=(EXH b6x)
def c0p(K:qF){lo hi:A84}{tl th:TO}(b:YL)(hl:E9D)(c:E9E)(a:AQ:=by rfl):ECT (C8Q te tl th):=(EXH c1H)
def A8{ps:AB}(O:EZM)(g:fF)(f:MM)(c:EQ)(a:GH:=by decide)
  (d:CG:=by rfl) (b:GG:=by rfl):A2S nC DRE:=⟨b7y O g f c.h a d b⟩
def D5(K:qF)(f:B36)(g:B3Z)(c:EQ)(b:AQ:=by rfl)(d:CG:=by rfl)(a:GG:=by rfl):A61 "len" rLen:=BM4 b5N a8Q
def b2l(K:qF)(g:JK "sum")(h:NB "sum")(c:EQ)(d:EH:=by rfl)(b:AQ:=by rfl)(f:CG:=by rfl)(a:GG:=by rfl):A61 "sum" rSum:=(CE3 b5E c7I)
def a3I(K:qF)(g:JK "all")(h:NB "all")(c:EQ)(d:EH:=by rfl)(b:AQ:=by rfl)(f:CG:=by rfl)(a:GG:=by rfl):A61 "all" rAll:=(CE3 b5S c7K)
def a2d(K:qF)(f:BXL)(g:BYR)(c:EQ)(b:AQ:=by rfl)(d:CG:=by rfl)(a:GG:=by rfl):C3O rIsi:=C70 b5O
def c7f(f:D9U)(g:DBJ)(b:EQ)(c:EH:=by rfl)(d:CG:=by rfl)(a:GG:=by rfl):yT "min" ((rMin)):=(E8F b5H c1k)
def C5(K:qF)(f:D9S)(g:DBH)(c:EQ)(b:AQ:=by rfl)(d:CG:=by rfl)(a:GG:=by rfl):A61 "tuple" rTuple:=EFO b0F b0J
def c3K(K:qF)(f:JK "list")(g:NB "list")(c:EQ)(b:AQ:=by rfl)(d:CG:=by rfl)(a:GG:=by rfl):A61 "list" rList:=EFO b2C c4o
def c0o(d:D9V)(f:DBK)(b:EQ)(c:CG:=by rfl)(a:GG:=by rfl):yT "int" ((c8w)):=DW8 b5Q
def L4(K:qF)(h:YK)(g:EQ)(f:AQ:=by rfl)(b:aD "append":=by rfl)
  (d:lB:=by rfl)
  (c:OM:=by rfl) (i:CG:=by rfl) (a:RZ:=by rfl) :
  ANF "append" rAppend:=(ANH PySem.F.slot_list_append PySem.F.type_list_append b4X)
def b0o(K:qF)(h:YK)(g:EQ)(f:AQ:=by rfl)(b:aD "pop":=by rfl)
  (d:lB:=by rfl)
  (c:OM:=by rfl) (i:CG:=by rfl) (a:RZ:=by rfl) :
  ANF "pop" rPopAt:=(ANH PySem.F.slot_list_pop PySem.F.type_list_pop b8g)
def a0q(K:qF)(h:YK)(g:EQ)(f:AQ:=by rfl)(b:aD "extend":=by rfl)
  (d:lB:=by rfl)
  (c:OM:=by rfl) (i:CG:=by rfl) (a:RZ:=by rfl) :
  ANF "extend" rExtend:=(ANH PySem.F.slot_list_extend PySem.F.type_list_extend b4W)
def B3(a:X.N.Nodup)(hi:fB)(c:A9L)(b:AA1:=by rw[tE]):E0Q JG:=⟨c2C a hi c b⟩
def J8:JGs X [] b2q:=⟨c2A⟩
def C2{u:TGs}(h1:JG X e g)(h2:DVW)(a:EPS:=by rfl):DMD JGs g:=⟨b7m h1.h h2.h a⟩
def M9(K:qF)(n:Nat){u:TGs}(h:DVW)(c:EH:=by rfl)(b:AQ:=by rfl)(d:CFS:=by rfl)(a:CH4:=by rfl):A2D JG .Tuple es k (gTup K n u):=⟨c2B K c h.h b d a⟩
def c7d{i:Expr}{a:TE}(c:YK)(hi:CI i a)
  (b:F2R (do
   let ov <-holding [v] (eval o X.env)
   let iv <-holding [v,ov] (eval i X.env)
   standAt pos
   holding [v,ov,iv] (setItem ov iv v)
   release [v,ov,iv] []):=by rw[fU]):A2D JG .Subscript o i (c8W to a rSetL):=⟨c6b c.h hi.h a9v b⟩
def F8(K:qF){l:Expr}(hl:C9Z)(a:AQ:=by rfl):DV4 c0w:=E08 b7l
def G7(K:qF){l:Expr}(hl:C9Z)(a:AQ:=by rfl):DV4 c4a:=E08 c2x
def W9(K:qF){j:Pos}(f:BXK)(g:BYQ)(e:AAX bS)(d:AQ:=by rfl)(h:CEI:=by rfl)(c:CCN:=by rfl) :
  CEU JI ECS (c7s K t):=⟨c2w K f g e.h d h c⟩
def R0(c:D9T)(d:DBI)(b:AAX KJ)(e:EAZ:=by rfl):JI X tg E6L (c5g t):=⟨b4D c d b.h e⟩
def D0:JF X [] V1:=⟨c2v⟩
def a2y(h:B6M):JF X [c] tA:=AMK c2u
def D7{b c:Expr}{f:BN}{scope:Scope}{j:TI}{i:TT}(hi:DVH j)(e:A1R)(d:AAI)(h:A1J)
  (m:DRS) (o:A4Q JF f i) (l:DPZ c)
  (k:EH:=by rfl) (n:CFH:=by rw[fU]):CI (.ListComp c [ACH tg b f] scope pos) (BC1 j i) :=
 ⟨c2H k hi.h e d h (AA6 m) (AA6 o) (AA6 l) n⟩
variable {sts:IV}{u v:TS}
def B7:JB X [] c4u:=⟨c2g⟩
def A1(h1:DUN)(h2:JB X sts v):JB X (st::sts) (c1A u v):=⟨b6W h1.h h2.h⟩
def A3(h1:DUN):JB X [st] u:=AD9 c2f h1.h
def c0g:EJ9 JS:=⟨b7b⟩
def A9(a:YL):JS X DXR (c5A te):=AD9 c5T a.h
def G5(a:YL)(b:B67 e:=by rfl):JS X E44 (c4v te):=⟨c2i a.h b⟩
def C3{A:IV}(d:B6M)(a:JB X A u)(b:C8C):JS X (.If c A B pos) (c8k tA u v):=⟨c8x d.h a.h b.h⟩
def b0l(b:B6M)(a:C8C)(hp:BCH:=by rw[D4Y]):JS X (EJ4 B) (b6n tA v):=⟨b6X hp b.h a.h⟩
def M3{a:Expr}{b:TI}(hi:JI X tg a b)(e:DQK)(c:C8C)(hp:BCH:=by rw[D4Y])(d:EH:=by rfl)
  (f:AXD (foldedSetIterable a X.env x):=by rw[fU]):JS X (.For tg a B [] pos) (c8l b g v):=⟨c5U hp d hi.h e.h c.h f⟩
def B4{pos':Pos}(a:X.N.Nodup)(hi:fB)(f:A9L)(b:YL)(d:E8E:=by rfl)
  (c:AA1:=by rw[tE]):ADV JS BOH e DRQ:=⟨c5S a hi f b.h d c⟩
def U6{y:Str}{m c:Pos}{b d:Expr}{e:BN}{scope:Scope}{o:TI}{n:TT}
  (p:X.N.Nodup) (z:DJU) (w:E7A) (hi:DVH o) (h:A1R) (f:AAI) (k:A1J)
  (t:DRS) (v:AQW a (JF DF9 e n)) (j:DPZ d)
  (q:EH:=by rfl) (l:ETQ EDO E5T c.line:=by rfl) (u:CFH:=by rw[fU])
  (r:EPZ:=by rw[tE]) :
  JS X (.Assign [E5T] EDO c) (BSH (BC1 o n)) :=
 ⟨c2h p z w q hi.h h f k (AA6 t) (AA6 v) (AA6 j) l u r⟩
def c0h(a:YL)(b:DQK)(c:EL2:=by rfl)(hw:EZ3:=by rfl)
  (h1:EDS:=by rfl):ADV JS tg e CBT:=⟨c5W a.h b.h c hw h1⟩
def b2k(K:qF){i:Expr}{c:TE}{tpos:Pos}(h:YK)(hi:CI i c)(g:YL)(d:AQ:=by rfl)
  (f:∀b a new,augStore i b a new=(do holding [new,b,a] (setItem b a new);release [new,b,a] [];pure .next):=by intros;rfl):JS X (ELC .Add) (c4y to c te DCB E42 rSetL):=⟨c2k h.h hi.h (b5o K d) g.h c7o a9v f⟩
#where
section
variable {P:qG}{w:World}{mg:AZ}{base:Heap}
def FunAt.okJ{ps:AB}(F:AAJ)(S:lG)(len:bM)
  (b:A1U x (WP ->
   CXQ DOW)):ET5 :=
 (DYX (CI8 a c (F2I (COS E c h))))
def Fun.okJ{qual:Str}{f:qE}{fd:FuncData}{ps:AB}(F:C8N)(S:lG)(len:bM)
  (b:F7Q (WP ->
   DVI)):EUO :=
 (DYX (F3Q a c (F2I (F2T c h))))
#where
inductive spLaw(K:qF)(vs:AA)(H:Hp)(Q:VK)(y_3:XK):Prop
 |mk (a:qE) (ns:qI) (_:A8U) (_:BA5) (_:ns.length<=63) (_:∀H',CO2):ANQ spLaw
def law_walk{l:PySem.W.OpenLaw}{q:qG}{b:AB}{XP:C3A}{e:C39}{d:DefRec}{K:DYV}(k:Nat)(m:COZ 63)(c:BYP)(o:BZ2)
  (i:F25 e)
  (F:F3S (C85 ->
   ∃fd:FuncData,EQ9 "_law_script"/\EWY (DXS base CX0 k fa fd BK7 D1P))) :
  CHN (PySem.W.WalkO q b XP e) :=
 BF L2.walk_of n 63 k k (x:="_law_script") (CX:=GA CX0) (sp:=λw=>D1P) m AG c o i F (λ_ _ a ns j _ g=>⟨a,ns,rfl,g,j,B3D⟩) λ_ _ _ _ _ z=>z
noncomputable def Its(H:Hp)(vs:AA)(rss:LLI):Prop:=ER7 (∃r,C17/\B7D)
def Its.same{H H':Hp}{vs:AA}{rss:LLI}(h:TU)(s:BG):AMV:=(E8D (e2.same s))
def Its.nil:OV [] []:=E2B
def Its.snoc{r:qI}(h:TU)(b:B7D):OV (A2X vs) (rss++[r]):=by
 rw[DU BYJ (PP u ?_)];rw[C2C]
 rw[CCR q (uV u) q]
 .rw[List.getElem?_append_right (~~~S6 hi)]at e;have a:DG4=0:=by
   rw[C9W AKV]
  rw[a]at e;simp at e;rw[DQ];rw[DV r ?_ b];rw[B1U List.getElem?_append_right CY S6 hi,<-CY,a];rfl
def Its.mem(h:TU)(e:A58):∃r,xN/\C17/\B7D :=
 let ⟨r,e1,e2⟩:=A49
 ⟨r,DSB,e1,e2⟩
def b4b{k1 k2:Bool}{ys:qI}(f:B68)(hl:RW)
  (c:ERR)
  (g:ALZ) (m:BAV n (YH->B7P->PF->EBS->EFR))
  (hd:C6Q) :
  BCQ:=by
 rw[XQ o]
 rw[CFY BKY o yZ]
 .rw[BCS k U7 d l U7];rw[F3O]
  .match j,e with
   |0,e=>rw[CM]
   |1,e=>rw[CM]
   |j+2,e=>exact e
  .exact EU0 m s' (BBN s' k l)
 .rw[EGU (by
   rw[BBJ R4 R4])]
  rw[B6W]
def a7A(f:qI->V)(hl:D8P)(b:DQN)(hI:TU)(c:bJ)
  (g:EVT j j f (yO AG5 j)) (hd:AZZ rss.map):C3T:=by
 rw[XQ l]
 refine T0 (xs:=vs) (C7W l) (eQ (ys=FQ rss.take i f)) A4P (OB ys BBF) ?_ ?_
 .rw[C8U];rw[EC r k d e hI.mem hx];rw[A6C EKE c (g x r H' _ k (e.same s) s λH2 m=>GZ (s.trans m))];rw[E6D]
 rw[CC3 HP]
def b5X{k1 k2:Bool}{us:AA}(f:Int->qI->V)(hl:RW)
  (c:D2J (SqK k2 K H' b us)) (hI:OI)
  (d:ALZ) (m:∀x v r H1 n,YH->xN->CYO->PF->n (f x r) H1->yO (AWK x SK) n)
  (hd:BLJ EKA) :
  BCQ:=by
 rw[XQ q]
 rw[CFY us q DHN]
 .rw[COT g U7];subst e1;rw[EC r o k l hI.mem hy];rw[B0Y E5K E5K BHG [z] z d (AWK x' BVI)];rw[IR AIH]
  .match j,e with
   |0,e=>rw[CM]
   |1,e=>rw[CM]
   |j+2,e=>exact e
  .exact m x' z r _ _ (List.mem_of_getElem? g) o (l.same s') s' (BBN s' g k)
 .rw[oW zs];have e:DHN (min CWP us.length)=EKA:=by
   rw[BBJ R4 HP]
  rw[B6W]
def b1s{f:TT}(t:rW)(g:YC)(a:bJ)(b:∀(i:Nat) H1 (c:VU),JP->PF->CAI (c (t i) H2)->f B3G H1 c)
  (hd:ARU (AEF (BXP (DX3 n)))):ASD f BZZ C6F:=by
 rw[EQS g (ys=GS (DX3 i) V.int) (by rw[BUA EL List.length_map];exact Nat.le_trans VH AL)]
 .rw[CG5 s rfl];refine b i H' _ hi s λH2 d=>?_;rw[List.range_succ,List.filter_append];cases e:t i with
  |true=>exact SI DB7 B3M
  |false=>rw[AY DB7 B3M]
 .rw[oW ys];exact hd H' p s hp
def C4:JS X st AIQ:=⟨λ_ _ _ _ _ _ h=>h.elim⟩
#where
section
open PySem.W
variable {A:Around}{C:qE}{H:Hp}{K:qF}{N:AB}{P:qG}{X:Cx}{base h:Heap}{e:Expr}{es:BN}{mg:AZ}{qO:String}{pos:Pos}{t:TA}{w:World}{x:Str}
noncomputable def a5W(p C:qE):HO:=AZO (BP1 BYX)
def ObjOk.there{a:qE}{o:HO}(x:B7K):∃u,XJ u:=by
 induction o with
 |lst xs=>rw[DZX];rw[fP]
 |tup xs=>obtain⟨_,_,_,b,e,_⟩:=x;rw[fP]
 |dK qL=>rw[BBM];rw[fP]
 |dT qL=>rw[BBM];rw[fP]
 |set S n=>rw[EHP];rw[fP]
 |ins C dx fs=>rw[DZY];rw[fP]
 |own y=>obtain⟨_,e⟩:=x;rw[fP]
 |xd fs=>rw[DZZ];rw[fP]
 |rng lo hi=>rw[BUI e];rw[fP]
 |frz b u c=>obtain⟨e,_⟩:=x;rw[fP]
 |tbl ps=>exact ES x
 |met f y=>exact ES x
 |ext φ=>exact A3A
noncomputable def Cov(l:HB)(H:Hp)(h0 h B:Heap):Prop:=B44 QD DB0 ((DKJ∨D0C h0.get?)) (HV B.get?)
def X6{l:HB}{H':Hp}{h0 h1 h2 B:Heap}(f:ELV h1)(i:BL3 h1)(d:EUW h1)(st:DFQ)(s:h1.UpToSlots h2)(p:h1.FunFrames base l)(t:ZD AG3 jF) :
  ELV h2/\BL3 h2/\EUW h2:=by
 have x:∀b,H' b≠none->DB0:=λb n c=>n (t b c);rw[DV ⟨?_,?_,f.free,?_,f.tups,f.frzs,f.tbls⟩ ?_ ?_]
 .intro b o e n c hx;exact st b o (d b o (vX f.keep c hx) c (.inr AM3))
 .intro b o e n c hx;rw[aJ sl (vX f.slot c hx)];rw[F1X];rw[HN j h EL9 j h]
 .intro b o e hx;rw[aJ g (ZV f.there hx)];rw[XT (b∈AG3)]
  .rw[F1X];rw[dU j EL9];exact ES h
  .rw[AY g (st b g (d b g q c (.inr AM3)))]
 .intro a o e;refine BSI i (A92 c q) BME λ_ _ q=>q;have k:H' b≠none:=by
   rw[cH c c]
   .rw[e];rw[gT]
   .rw[c];rw[gT]
  exact st b u (d b u q (x b k) (.inl k))
 .intro b o e c ho;have ex:∃g,YU h1.get? g:=by
   rw[AER ho k q]
   .cases eq:H' b with
    |none=>rw[HI eq k]
    |some u=>exact EIN i b
   .exact f.there b o' q AL
  obtain⟨g,q1⟩:=ex;rw[AD h (d b g q1 c ho) r (st b g h)];rw[SO r r];exact h
noncomputable def CXE(P:qG)(w:World):CXT:=λouter H s E e s' =>
 ∃(p C:qE) (H':Hp) (B:Heap) (a0:qB),EU7 (C6M /\
  VJ/\EAC/\DQ3/\E EA none H')
def c9l{bmB:AI}(X:TN)(f:yY)(q:excIn K C bmB qO=true):BTT h:=by
 rw[IR f];rw[pK excIn q q]
 .rw[EYF]
  .rw[F6L];simp only[Bool.and_eq_true,beq_iff_eq,Bool.not_eq_true']at q;obtain⟨⟨⟨⟨⟨rfl,rfl⟩,a⟩,g⟩,b⟩,c⟩:=q;rw[F6K i e];dsimp only at hmro a b c;subst hmro a;have d:sl=F1Y:=by
    rw[ESJ]
   subst d;exact⟨bm,ns,nm,qn,bs,hd,sn,sub,ab,col,dd,k0,k1,k2,k3,k5,_,B1Q ho,.of_isNs (isNs_of_in X b),D5J b c,D7F g⟩
  .cases q
 .cases q
noncomputable def b6p(C:qE)(E:XK)(t:TA):TS:=EF6 (E EA none H1)
def b6Z{qual:Str}{scope:Scope}{f:qE}{cd:qB}{outer:HB}{a:qC}{g:Hp}{E:XK}{bmB bmN:AI}{B Bn nid initId inN:String}{np qM:Pos}
  (O:DS6) (X:BCM) (F:B9Y) (S:BCL)
  (hg:A8X BCF)
  (ha:PA BCF MQ t) (hd:GH:=by decide)
  (v:CFE:=by rfl)
  (Q:C90:=by rfl) :
  EXA PS BCF:=by
 rw[dD];obtain⟨tl,Y,nm,q,bs,hdct,sn,sub,ab,col,dd,k0,k1,k2,k3,k5,mN,hC,hN,M,T⟩:=O.obj;refine BF (BF (BF wpAny_Raise_call_subU C C nm nm (q:=q) (N:=Y)) bs bs bm tl (hdct:=hdct) (sn:=sn)) sub sub ab ab (col:=col) (dd:=dd) (k0:=k0) (k1:=k1) (k2:=k2) (k3:=k3) (k5:=k5)
  X F S (mN:=mN) (T.hasType S.hasBase) (I.ok.hd rfl) (by show(backTo qM (starEach (e::es) (envOfC qual scope a.heap.objs.size f cd))).any _=false;rw[v];show(false || (backTo qM (starEach es (envOfC qual scope a.heap.objs.size f cd))).any (·.1))=false;rw[Q];rfl) M (L3 I hg O.bound rX hd)
 have j:=DUW;have G:starEach MQ (BCF).env=_:=v;rw[G]at j⊢;refine Calls.evalArgs_plain (UN j (λus n (EDL c)=>⟨rfl,BOS hl,AH c.bk hC,hN.keeps c.bk,T.keeps c.bk,FH h' p L⟩) _ _ z z);have J:ES3 CPU C0X:=λenv v b d=>BZL env v d;refine BF wpAny_leaves_madeW base D2R h n.heap c.ok.frames rfl E8W (D5B c.stack J) L (DR h2 t W x2 x3 x4);have m:yL oG C0X:=λb d=>by
  rw[BJN h1 h2 d];rw[BTK]
 have k:CTH a.heap.objs.size C0X:=B9T h3 (by
  rw[BC5 V h3]
  rw[B9R V]
  rw[BC9 V])
 have y:Cov outer H1 a.heap n.heap D2R:=λb o eb nb d=>by
  refine hideAll_get _ eb (k b nb λz=>?_);rw[B58 d d d]
  .exact d c.free
  rw[B9Q d]
 have hp:AQR:=by
  cases eq:H1 p with
  |none=>rfl
  |some u =>
   obtain⟨o,U⟩:=EIN c.hok p;rw[AW L.new U U]
 obtain⟨Z,R,i⟩:=BTX g H1 a.heap n.heap h2 c.base c.hok y W.1 (IP Heap.UpToSlots.of_keeps L.keeps x4) c.funs λb d=>c.stkFree b (m b d);exact⟨p,C,H1,_,IQ,rfl,c.os,c.bare,Z,R,hp,W,i,q⟩
inductive XP(X:Cx)(qK:DA)(R:DKD)(e:qB)(s':qC):Prop
 |mk (σ1:St) (H1:Hp) (s1:qC) (p C:qE) (H':Hp) (B:Heap) (a0:qB) (_:BQP) (_:E9I) (_:AMC) (_:jM) (_:AOV) (_:A13) (_:VJ) (_:DQX) (_:AOS) (_:R σ1 C H'):E8S XP
noncomputable abbrev TX:=Ends->(St->BNU)->QT
noncomputable def PSx(X:Cx)(sts:IV)(t:TX):Prop :=
 F1K DKD XP
structure OkE(P:qG)(w:World)(K:qF)(mg:AZ)(base:Heap)(x:Str)(k:Nat)(ps:AB)(sp:Sp):Prop where
 ex:CD2 AK6
def FunAt.okE{st:Stmt}{ps:AB}{k:Nat}{sp:Sp}(F:AAJ)(S:lG)(len:bM)
  (b:A1U x (WP ->
   DQG AK6)):ET4 BZ:=by
 rw[F0M]
section
variable {M:Model}{E:qH}
structure ClsX(K:qF)(C:qE)(above:AI):Prop where
 ex:F7W (LH above (EK bm.contains v))
def a1A{nm q u L:Str}{N D y:qE}{bs bm n b:AI}{hdct i:Bool}{sn v:AB}{sub l:AI}{ab m:Bool}{col j:bB}{dd o:EN}{k0 k1 k2 k3 k5 G H I J K:LS}{a:String}{g:eD}{d:Drawn}{t:Nat}{os:OsState}{e:qE}{x:Obj}{Q:YE}
  (z:A0X) (w:UV D (F2L u L y v G H I J K a)) (B:UV e x) (k:AQ6 x.cls)
  (c:DE4) (s:II bm.contains D=true) (F:DKP):DW5:=by
 rw[EYS]
 have r:AYJ D=true:=by rw[B03 s]
 rw[CBC]
 rw[EZ6 B w w z]
 exact F
#where
section
variable {qK:DA}{σ:St}{H1 H':Hp}{s1 s':qC}{p:qE}{B:Heap}{a0:qB}{h2:Heap}
def Inv.land(a:B9O)(e:AMC)(l:jM)(g:AOV)(d:A13)(j:CD5)(c:AOS)(st:DFQ)(n:C11) :
  AC6 (cZ h2):=by
 have k:B42 jF:=λb h=>by
  rw[AY5 m (a.stack.mem h)];exact g.free b o m (a.stkFree b h) AL
 obtain⟨i,f,_⟩:=X6 g d c st n j k;exact a.call' (ch:=[]) e i f l BRH
def Inv.landX(j:B9O)(w:AMC)(J:jM)(E:AOV)(v:A13)(hp:VJ)(H:CD5)(l:AOS)(c:DQW)(O:C11) :
  IW B7V (cZ h2):=by
 have I:B42 jF:=λb i=>by
  rw[ERQ t E.free t]
 rw[AJ4 A g (X6 E v l c.1 O H I)];obtain⟨y,f,m⟩:=c.there;have x:p∉nG:=λi=>by
  obtain⟨_,o,t,L⟩:=(CW7).mem i;obtain⟨M,vs,_,_,_,h,_,r,_⟩:=(pI c);rw[XA t];exact L vs r
 rw[EH1 s (by
  rw[AJI (g p y f x (.inr AM3)) c.2.1])]
 have G:BIE B7V h2:=by
  refine⟨d.keep,d.slot,BB6 n K,d.there,C43,C3R,B7R⟩
  rw[ETB s d.free K]
  rw[BAD (BXJ d.tups)]
  rw[BAD (gP d.frzs u)]
  rw[EZI d.tbls]
 have D:ACO B7V h2:=λa o e=>by
  rw[CS F a p]
  .rw[B1D F];rw[AX ⟨y,f,m⟩ ⟨y,f⟩ (λg1 P (PK q1 N) k=>PK (k o q1) N)]
  .rw[EY0 F A]
   rw[B8A]
   rw[B8A]
 rw[EGI w D J]
#where
section
variable {qK:DA}{σ:St}{s:qC}
def a6Y{M:Model}{E:qH}{i:Nat}{n:Str}{Q:kO}(I:AN)(D:X.N.Nodup)(hi:CP X.N n)(F:BB5)
  (h:B7Q (C7U (σ.set i none))):OT M ((do bindName X.env n .none;unbindBehindTheSuite X.env n pos)):=by
 rw[C7I x G];rw[F0K l]
 rw[ERI]
 have cne:=I.cne;rw[EF (wpAny_nameGoes_keeps F x l) h' v w g];obtain⟨R,_,_,J,_⟩:=id x;have f:DXV:=GW L (by
  rw[CFU L (λc B t q=>VG aS c ?_ q)];have a:=I.free;rw[PJ];rcases t with z|t
  .rw[<-z,a]at e;rw[CM]
  .rw[AW a t t])
 refine h _ (D37 E8G E8G r (DX w (CFR P C)) DLC K f)
 .exact CBR (B5X u r)
 .rw[HN sl e1 (BPA u r) sl (CBR e1)]
 .rw[HN o' e1 (CW2 r) o' (CBR e1)]
 .rw[A9T hj]
  .subst hj;rw[B08 CZ0]
  .rw[D3S O N G P C O N];rw[F3H]
   rw[F02 (y≠n) D]
   rw[CAJ EBQ]
 .rw[HN B z (AUV I.cell) B EBQ]
 .rw[BCV K];rw[EO (VG aS CU ne e) n ne nf d]
noncomputable abbrev Cx.held(X:Cx)(p:qE):Cx:={X with A:=X.A.mark UU,calm:=false,xe:=AI0}
def Inv.held(I:AN)(p:qE):DS0 :=
 B98 ⟨I.ok.mod,I.ok.kind,I.ok.glob,I.ok.blt,I.ok.above,I.ok.inj,I.ok.has,I.ok.cab,B1K,I.ok.frames,I.ok.stk,I.ok.exf,I.ok.bs,I.ok.bsz,I.ok.noex,I.ok.exfs,I.ok.funs,I.ok.frf⟩
def Inv.unheld{p:qE}(J:X.Ok)(I:DS0):AN :=
 B98 J
#where
noncomputable def b6o(K:qF)(D:qE)(j:Nat)(tx:TX)(ts:TS):TS:=CB1 (λσ1 C H'=>AYZ (WI D)/\DWG F2H E3J BJA)
def b6Y{body:IV}{tx:TX}{ts:TS}{o n:Str}{np m:Pos}{P:Stmt}{a:IV}{j:Nat}{D:qE}(g:BBX)(A:AO6)(hx:BQK PSx)
  (hg:JK o) (hm:DPX) (hD:ClsX X.K D []) (S:X.N.Nodup) (T:C6G) (E:BB5)
  (G:∀p,PSs A2Z DM8 ts) (hd:A2A o:=by decide) :
  PS X (BTM (EY8 DM8)) (b6o X.K D j tx ts):=by
 rw[lM V h];rw[CHT hx V]
 .cases f with
  |next=>rw[A7X q]
  |brk=>exact q
  |cont=>exact q
  |ret v=>exact q
 .obtain⟨σ1,H1,s1,p,C,H',B,a0,rfl,I1,hos,hbare,hU,hok,hp,fl,cov,hC,k⟩:=q;rw[EWM R];rw[EMU g A l d N];rw[EBP d b c];rw[EWZ b c N.trans c DEF (C4D R cov XD c) b.there];rw[F7X dd K];obtain⟨a6,q',a1,a4,a3,y,a7,U,a2,Q,a5,j0,j1,j2,j3,j5,r,M,w,_⟩:=hD.ex;rw[F48 K M];rw[GM codeAny_handlers_suite_as];refine CVQ b h6 u O;have W:BQO B7V h6:=D2U R u c.trans O;refine EKC (a2I W S T D7L) Y;rw[BT1 (AM (G p qK s7 _) (Y.held p) BRV) i];cases f with
  |next =>
   rw[EZS Z (a6Y (Z.unheld I.ok) S T E)]
  |brk=>rw[BC2]
  |cont=>rw[BC2]
  |ret v=>rw[ESK]
noncomputable def a0N(K:qF)(C:qE)(above:AI):Bool:=match K.lookup C with
 |AU ⟨BKK,_,.cls cd,sl⟩=>(match cd.mro,sl.toList with
  |AK C'::bm,[_,_,_,_,WE _,_]=>C'==C && ! cd.hasDel && tZ bm.contains "BaseException" && above.all λv=>bm.contains v
  |_,_=>false)
 |_=>false
def a1U{above:AI}(q:gQ a0N C above):AYZ above:=by
 rw[pK a0N q q]
 .rw[EYF]
  .rw[F6L];simp only[Bool.and_eq_true,beq_iff_eq,Bool.not_eq_true',List.all_eq_true]at q;obtain⟨⟨⟨rfl,a⟩,e⟩,d⟩:=q;rw[F6K g c];dsimp only at hmro a;subst hmro a;have b:sl=F1Y:=by
    rw[ESJ]
   subst b;exact F7P ns n ho e (λv f=>d v f)
  .cases q
 .cases q
structure JX(X:Cx)(sts:IV)(t:TX):Prop where
 h:PSx X sts t
section
variable {k:Nat}{ps:AB}{sp:Sp}{y:Str}{p qM pos':Pos}{i:Nat}
def c0f(K:qF){body:IV}{tx:TX}{ts:TS}{c n:Str}{np b:Pos}{g:Stmt}{a:IV}{j:Nat}{D:qE}(r:DQI)(l:JK c)(q:wN c D)(h:C6W)(k:X.N.Nodup)(m:C6G)
  (o:BB5) (f:∀p,JB A2Z DM7 ts) (i:AQ:=by rfl) (e:BBX:=by rfl) (d:AO6:=by rfl) (hd:A2A c:=by decide) :
  EXI [.ExceptHandler (AU (.Name c np)) CUH DM7 b] b6o:=by
 subst i;exact⟨b6Y e d r.h l q h k m o (λp=>(f p).h) hd⟩
#where
def a5J{qual:Str}{scope:Scope}{f:qE}{cd:qB}{outer:HB}{a:qC}{b:Hp}{E:XK}{bmB bmN:AI}{B Bn nid initId inN:String}{np qM:Pos}
  (O:DS6) (h:BCM) (c:B9Y) (g:BCL)
  (k:A8X C4B)
  (i:AZR C4B) (hd:GH:=by decide)
  (j:CFE:=by rfl)
  (d:C90:=by rfl) :
  EXA JS C4B:=⟨b6Z O h c g k i.h hd j d⟩
#where
section
open PySem.W Builtin Builtin.ObjectAttr Builtin.Getset_descriptor
section
variable {K:qF}{prog:qG}{w:World}{A:Around}{E:qH}{h:Heap}{g:eD}{d:Drawn}{t:Nat}{os:OsState}{a:qE}{o:Obj}{nm q:Str}{C N:qE}{bs bm:AI}{hdct:Bool}{sn:AB}{sub:AI}{ab:Bool}{col:bB}{dd:EN}{k0 k1 k2 k3 k5:LS}{qO:String}
def a8V{M:Model}{b:qB}{Q:kO}(f:A0X)(i:yR)
  (m:QI) (j:SZ) (l:DKQ):AR6 M (BUW "BaseException.__getattribute__" (JJ [AV,b])):=by
 rw[B1T k (BW builtinKind "BaseException.__getattribute__" .slot)]
 have c:BW splitId "BaseException.__getattribute__" ("BaseException","__getattribute__"):=by rw[OP]
 rw[pM e C0C List.contains_cons i]
 have n:=F.args_bexc_ga AV b;rw[E05 k c]
 .rw[BUH]
  repeat (first | rw[eO m j] | rw[A5Y f e]|wp_step)
  exact l
def b2L{M:Model}(c:QI)(b:SZ):Looks M h (II typeOf a) EA:=b ▸ (Looks.ld c).andThen .now
def c5r{R:kP}{i:qB}(X:TN)(f:QI)(b:SZ)(c:B94)(e:A79 C A2K) :
  codeAny FW A (BED .call "getset_descriptor.__get__" (JJ [DYL,AV,i])) R A2K:=by
 rw[AD j (b2L (M:=FW) f b) k (looks_mroIn (M:=FW) X c)];refine E1M KF.slot_gs.plain KF.entry_gs KF.slot_gs.check KF.type_class (iF KF.args_gs) ?_;unfold Builtin.«getset_descriptor.__get__» descrGet;rw[dga_obj];rw[kR];unfold descrGetter descrCheckInstance descrNameAndClass isInstance;simp only[KF.owner_class]
 repeat lk
 rw[DU AWT (AWD KF.entry_class)];unfold Builtin.«object.__class__» shownTypeOf
 repeat lk
 exact e
def b6d{tk:Tok}{Q:rY}(X:TN)(f:B94)(b:CBP)(e:QI)(c:SZ)(l:E1Z C A2K) :
  E8C AV (AXA "__class__"):=by
 rw[AD L (A1F b) j F.slot_gs_get.lookup];rw[AD k F.slot_gs_set.lookup i KF.type_class]
 rw[CES (by rw[eO e c]) L.at]
 refine c5r X e c f ?_
 rw[ON]
def c1v{Q:AKF}(X:TN)(m:A0X)(n:yR)(p:B94)
  (c:CBP) (e:BAE) (f:B6Q)
  (i:QI) (b:SZ) (r:Q D85 DCR):yW (getAttr? AV "__class__"):=by
 rw[AD l (looks_findIn (M:=FW) X e) L2 (A1F f)];rw[AD k PySem.F.attrBase_ValueError u (II k.ga.bind a)];rw[EM4 j]
 rw[F0J s j]
 unfold getAttr? getAttrBy? getAttrBy
 rw[EUE (by (with_reducible refine wpAny_loadPart_at i ?_;rw[b])) l.at]
 rw[BVZ k.ga.plain F.entry_bexc_ga (a8V m n i b (b6d X p c i b ?_))];exact handed_on rfl (wpAny_pure r)
structure IsX(K:qF)(C:qE):Prop where
 cls:DMU
 mro:B94
 cl:CBP
 ga:BAE
 gr:B6Q
def a0o(Z:B3U):KitX K AV EA (λh=>BP1 QI) where
 ty:=RK _ E4C (b2L f b)
 it:=RK X _ (by
  rw[F81];intro m r p s' k q;unfold isType loadHead;rw[zR (D5T (eC k X lk) wpAny_pure q)])
 ne:=λh l dd its n sl X c=>by
  rw[F81];refine Bool.eq_false_iff.mpr λq=>?_;have e:C=l:=Value.ref.inj (beq_iff_eq.mp q);rw[DQ];have z:=congrArg Obj.data (Option.some.inj ((DJ1).symm.trans c));unfold excClassObj at z;cases z
 ca:=λ{prog w A E Q s} X E4C j=>by
  obtain⟨nm,q,N,bs,bm,hdct,sn,sub,ab,col,dd,k0,k1,k2,k3,k5,qO,lk,i,_⟩:=Z.cls.ex;rw[ALY h];exact c1v X DJ1 i Z.mro Z.cl Z.ga Z.gr f b j
#where
section
variable {X:Cx}{es:BN}{e:Expr}{t:TA}{pos p:Pos}
inductive rIsX(K:qF)(xs:AA)(H:Hp)(Q:VK):Prop
 |mk (p C:qE) (vc:V) (b:Bool) (_:E78) (_:WS BJA) (_:B3U) (_:F58) (_:C1I):bL rIsX
def a3i:CDF a EG a.map V.ref (us=a.map Value.ref)
 |[],_,.nil=>rfl
 |D::a,_,A9Y=>by
  have:=a3i t;rw[X1];rw[A0Q]
def c1d(K:qF)(j:AQ:=by rfl):C3N rIsX:=by
 rw[EAJ];obtain⟨p,C,B,b,rfl,l,Z,k,q⟩:=h;rw[F3P E2E];rw[F7I]
 rw[BCX]
 rw[BCX]
 rw[F7L]
def J1(K:qF)(f:BXL)(g:BYR)(c:EQ)(b:AQ:=by rfl)(d:CG:=by rfl)(a:GG:=by rfl) :
  C3O rIsX:=(C70 c1d)
def G8{x:Str}{v:V}{u:qB}(a:MM)(b:C40)(r:OH)(hd:GH:=by decide):DT6:=⟨c2E a b r hd⟩
#where
#where
section
variable {A:Around}{H:Hp}{K:qF}{w:World}{α:Type}
def a0r{ca:A0R}{xs:DI}{i:Nat}{x:V}(h:bY ((xs.map ca))):∃z,CP xs z/\x=ca z:=by
 rw[B3Y];cases e:DBC with
 |none=>rw[AOK]
 |some z=>rw[EB4]
def c1r{β:Type}{src:OJ}{σ caps:St}{Q:VK}{k1 k2:Bool}{a b:qE}(ca:A0R)(d:β->V){xs:DI}{ys:A7W}{te:TE}(f:AO7 V)(hl:RW)
  (c:F2V d)
  (k:ALZ) (n:BAV o (BMW YH B7P (o AHT H2) (yO (CCZ d) o)))
  (hd:C6Q) :
  BCQ:=by
 rw[XQ q]
 rw[BN0 AUX (ys.map d) (LG (a0f hl q)) (BG/\zs=yZ i) (BKJ EL)]
 .rw[BCS l a0r g m a0r];rw[B0Y DNX DNX AXC [d g] (d g) k (BMI x' d g)];rw[IR AIH]
  .match j,e with
   |0,e=>rw[CM]
   |1,e=>rw[CM]
   |j+2,e=>exact e
  .exact n x' g _ _ DC5 (List.mem_of_getElem? m) s' λH2 r=>BBN (s'.trans r) l m
 .rw[oW zs];have e:yZ (min (GK xs.map ca) (GK ys.map d))=AV8:=by
   rw[BBJ List.length_map List.length_map]
  rw[B6W]
def b4h{src:OJ}{σ caps:St}{Q:VK}{a:qE}(ca:A0R){xs:DI}{k:TT}(t:DGL)(hl:RW)(b:BQQ AUX)(c:bJ)
  (f:∀x H1 (g:VU),YH->PF->CAI (g (t x) H2)->k (gH (BHF x)) H1 g) (hd:ARU (AEF (bN (FQ xs.filter t) ca))):ASD k BZZ AGG:=by
 rw[XQ l]
 refine T0 (xs:=AUX) (LG (a0f hl l)) (eQ (ys=FQ (mE xs.take i) t ca)) A4P (OB ys ⟨BJV,by rw[EL,List.length_map];exact Nat.le_trans VH nN⟩) ?_ ?_
 .rw[C8U];rw[lO z d a0r hx];rw[A6C (B75 (BHF z)) c (f z H' _ DB4 s λH2 j=>?_)];rw[List.take_add_one,d];cases e:t z with
  |true=>exact SI DC6 B3M
  |false=>rw[AY DC6 B3M]
 rw[CC3 List.length_map]
def c4I{P:qG}{mg:AZ}{base:Heap}{N:AB}{qual:Str}{scope:Scope}{f:qE}{cd:qB}{outer:HB}{d:qC}{u:Hp}{E:XK} :
  Y2 AK6 (AQ0 outer d u E) E:=by
 rw[F2P];obtain⟨p,C,H',B,a0,rfl,s,v,J,n,L,c,i,q⟩:=h;rw[F4L J];refine ESX wpAny_leaves_onW λh' y O=>?_;have r:yL oG A4B:=λb a=>by
  rw[ERA]
 have m:CE2:=B9T G (by
  rw[BC5 x G]
  rw[B9R x]
  rw[BC9 x])
 have j:BPY d.heap:=λb o F M a=>by
  rw[EUL F M]
  .rw[B58 a a a]
   .exact a g.free
   rw[B9Q a]
  .rw[AER a a a]
   rw[GE a]
   rw[ETY]
 rw[F6U O ⟨p,C,H',B,a0,rfl,g.os,v,D,t,L,y,k,q⟩]
def a1Q{P:qG}{mg:AZ}{base:Heap}{N:AB}{qual:Str}{scope:Scope}{f:qE}{cd:qB}{outer:HB}{b:qC}{a:Hp}{E:XK}
  {k:Nat}{ps:AB}{sp:Sp}{x:Str}{e:Expr}{es:BN}{t:TA}{p pos:Pos}(O:ET4 k) (m:DTX) (l:A8X uP)
  (i:DNA) (c:GH:=by decide)
  (j:EMO:=by rfl)
  (d:DV7:=by rfl) :
  JE uP DBQ DRD:=by
 rw[F6Z c4I]
def Its.put{vs:AA}{rss:LLI}{c:qE}{xs:AA}{o:HO}(h:TU)(b:uQ c):DHF:=EBG
open _root_.HT
section
variable {prog:qG}{E:qH}{s:qC}
#where
section
variable {X:Cx}{e:Expr}{te:TE}{lo hi:A84}{tl th:TO}{pos p2:Pos}
def b0X(l:qE)(items:DB)(n:Nat)(dd:EN)(sl:YM)(u:Tok)(a:D8S) :
  EG0 0 (E8Z #[]) :=
 (tH (by
  rw[bI f];rw[dU b h];have e:=AutoSeq1.idx_int;have c:¬(qZ items.isEmpty (PD==1)):=by rw[TY a]
  wp_walk using PySem.AutoSeq1.wpAny_loadPart' b
  rw[sD]))
inductive rRep0(x:V)(y:V)(H:Hp)(Q:VK):Prop
 |mk (a xs n:_) (_:IE) (_:C2E) (_:A0J) (_:BY5) (_:0<=n) (_:E96) (_:DQU):YJ rRep0
def c2M:ALX rRep0:=by
 rw[EW2 p w k g B C];rw[CS j n 0]
 .subst j;rw[A7P p w];rw[MC r E D I.tuple C2U];rw[EO7 i l E l l];have f:=r.length;rw[EC0 d f g]
  refine ERV AYQ 0
   (F3M 0 0 i AYQ)
  rw[EN4 AYQ (CBH b0X sl t (by rw[EHN d d])) i];have A:A02:=WZ;refine EDE [] G A;rw[FJ IC [] .nil AHG]
 .exact cW b3o AV qT v u Q I p w ⟨a,xs,n,rfl,rfl,k,g,BT 0x366b647936973107fc4661236 B j,C,q⟩
def c7i{a b:Expr}{ta tb:TE}(c:CF)(d:DL):AM7 rRep0:=(VZ c2M)
#where
#where
section
variable {A:Around}{C a:qE}{E Q:qH}{H H':Hp}{P prog:qG}{X:Cx}{e:Expr}{es:BN}{h h':Heap}{qL:YD}{o:eU}{p pos:Pos}{qK:DA}{ps:AB}{s:qC}{sp:Sp}{ta te:TE}{u:qB}{v y:V}{w:World}{x:Str}{xs:ANS}{σ:St}
inductive rAbs(xs:AA)(H:Hp)(Q:VK):Prop
 |mk (i:Int) (_:CWA) (_:RA BMP):fQ rAbs
def b5T:mO "abs" rAbs:=by
 rw[QA c b];rw[GN i q h];rw[GN u a b.one];rw[IM a];exact call_abs_int λu tk=>⟨VQ,H,CKX,NM u,q⟩
def c7g{t:TA}(d:JK "abs")(f:NB "abs")(b:EQ)(c:CG:=by rfl)(a:GG:=by rfl):yT "abs" rAbs:=(B0M G1 b5T c7L)
inductive rMaxQ(K:qF)(xs:AA)(H:Hp)(Q:VK):Prop
 |mk (k:Bool) (p:qE) (ns:qI) (_:sI) (_:C8G p) (_:0<ns.length) (_:∀M,M∈ns->CQ a ns (a<=M)->RA M):bL rMaxQ
def b5K(K:qF)(D:EH)(B:AQ:=by rfl):A5X "max" rMaxQ:=by
 subst B;rw[QA O M];rw[TD k p ns rfl G x q];rw[VL L M.one L];rw[MC y n N I.sqk G];rw[B4N f y.length f];rw[C69 E (I.ok.hd D)];have c:∀i v,BZN->∃t,v=E31:=λi v w=>by
  rw[OA m ALI w]
  rw[EX1 (List.getElem?_eq_some_iff.mp m) J DIG]
  rw[EC P e1 t e2 y.get J];rw[AIE m];rw[AY t (ASQ e2 List.getD_eq_getElem?_getD (MX DIG))]
 refine call_max_walk (R8 n ?_);refine⟨s.heap.objs.size,_,_,_,_,_,_,rfl,D3M E (a5G n),b2m n,iB d,?_,CmpOf.ints_gt B51 c,DP v h' tk w F⟩
 .rw[AUF];rw[RP o n.get];have r:=pP;rw[A96 d d]
  rw[DI2]
  rw[BWD r]
 .rw[AE List.size_toArray (lq 0x4657974ca1d04865c5e x f)]
 .rw[IM (AH c w)];obtain⟨z,A⟩:=E0E argBest_gt B51;rw[DTB g ns.length f.symm]
  have d:E0E argBest (λi j=>CJ (BHM > BYK))<ns.length:= jT 0x3f709f857b0d021007e55fb1eec85f x z g
  refine⟨VQ,H,I.kept (t':=tk) (a5I F),B4V,q _ ?_ λa C=>?_⟩
  .rw[FK List.getD_eq_getElem?_getD (MX d) List.getElem_mem d]
  .rw[A7L C];have:=A i (cT c4V g);rw[pM e (ns.getD i 0=ns[i]) List.getD_eq_getElem?_getD aG]
   rw[EX e this]
def c3J(K:qF){t:TA}(g:JK "max")(h:NB "max")(c:sA)(d:EH:=by rfl)(b:AQ:=by rfl)(f:A1L:=by rfl)(a:A15:=by rfl):CI (AD3 "max" UP) (AS9 rMaxQ):=(CE3 b5K c7J)
section
variable {k:Bool}
def c5s{α:Type}{M:Model}{c:Bool}{t u:BZY}{Q:B2Z}(h1:DEE)(h2:OT M u):OT M (UW c t u):=by
 cases c
 .exact h2
 .exact h1
#where
def a8R:eN "enumerate" "enumerate":=KK
section
variable {M:Model}
def a0S{nm q:Str}{N:qE}{bs bm:AI}{hdct:Bool}{sn:AB}{sub:AI}{ab:Bool}{col:bB}{dd:EN}{k0 k1 k2 k3 k5:LS}{qO:String}{g:eD}{d:Drawn}{t:Nat}{os:OsState}{e:qE}{k:Obj}{Q:YE}
  (j:A0X) (l:UV e k) (b:AQ6 k.cls)
  (a:yR) (m:DKP):CY9 EA:=by
 have c:C0C:=by rw[B03 a]
 have i:AYJ C=true:=by rw[PQ List.contains_cons]
 rw[CBC]
 repeat (first | rw[eO l b]|rw[zJ j] | (with_reducible rw[JZ wpAny_isSubtype_exc j];first|rw[c]|rw[i])|wp_step)
 exact m
#where
section
variable {k:Nat}{qM:Pos}{t:TA}
#where
section
variable (P:qG)(w:World)
#where
section
variable {o:HO}
#where
section
variable {x e:qE}{o':HO}
#where
section
variable {fs fs' ex ex':EG}{H1 H2:Hp}{h1 h2:Heap}{x e:qE}{o:HO}
#where
section
variable {σ:AK3}
#where
section
variable {a b:Expr}{tb:TE}
variable {tA tB':TT}{rest:BN}
#where
section
variable {xs ys:AA}
#where
section
variable {st:Stmt}{rest:IV}{t u:TS}
#where
section
variable {tg:Expr}
#where
section
variable {a b c:Expr}{tb tc:TE}
#where
section
variable {K:qF}{x dx f:qE}{mA:AZ}{name:Str}{v:qB}
#where
section
variable {dx:qE}{fs fs':QF}
#where
section
variable {dx:qE}{fs:QF}{f:Str}
#where
section
variable {o value:Expr}{f:Str}{pos' tpos:Pos}{tv:TE}
#where
section
variable {c:qB}{b:Bool}
#where
section
variable {t:TA}
#where
section
variable {s':qC}
#where
section
variable {CX:CXT}{k:Nat}{f:qE}{fd:FuncData}{dvs:AA}{ds:AI}{E:XK}{m:Str}{qN:Pos}{o:Expr}{t:TA}
#where
section
variable {CX:CXT}{k:Nat}{f:qE}{fd:FuncData}{ks:AB}{E:XK}{m:Str}{qN kpos:Pos}{o:Expr}{kws:APW}{t tk:TA}{nm:A85}
variable {g:EIA}{gV:EBU}
#where
section
variable {t:TA}{id T:String}{r:AN2}
#where
section
variable {κ:Type}[ANI]
noncomputable def J3(qL:KN)(k:κ):eU:=GS (cP qL.find? kv (A7N=k)) (·.2)
noncomputable def putK(qL:KN)(k:κ)(v:V):KN :=
 if LU (AGO kv A7N) then qL.map (λkv=>if A7N=k then(A7N,v)else kv)else ENP
def K0{p:C7E}{r:KN}{k:κ}(e:CU=k):J3 A8J k=some IO:=EHF
def K1{p:C7E}{r:KN}{k:κ}(e:¬CU=k):J3 A8J k=J3 r k:=EHF
def U9(k:κ):∀qL:KN,(AGO a QZ)=(J3 qL k).isSome
 |[]=>rfl
 |A8J=>by
  rw[List.any_cons];rw[AN9]
  .simp only[zW,A87,Bool.true_or,Option.isSome_some]
  .rw[zX,AJS,Bool.false_or];exact U9 k r
def a8Y(k j:κ)(y:V):∀qL:KN,J3 CDZ j=nF J3 qL j λx=>DZI (j=k)
 |[]=>rfl
 |A8J=>by
  have b:=a8Y k j y r;rw[dR List.map_cons h CU k]
  .rw[rS];rw[GC CU j]
   .rw[C4S CQ1,zW,Option.map_some,B1L e.symm.trans h]
   .rw[C4T CQ1,zX,b]
  .rw[bC];rw[GC CU j]
   .rw[C4S p,zW,Option.map_some,BA (nB h e.trans)]
   .rw[C4T p,zX,b]
def a6H(k j:κ)(y:V):∀qL:KN,AAE->EQX (qL++[BLH])
 |[],_=>by
  rw[GC k j]
  .rw[AE (DF e.symm) (C4S BLH)]
  .rw[AE (BA DVF) (C4T BLH)]
 |A8J,a=>by
  rw[List.cons_append];have b:¬CU=k:=λz=>by rw[AW (K0 z) a a]
  rw[K1 b]at a;have c:=a6H k j y r a;rw[GC CU j]
  .rw[zW,zW,BA (nB b e.trans)]
  .rw[zX,zX,c]
def b6i(qL:KN)(k j:κ)(y:V):EQX C2H:=by
 unfold putK;rw[aZ CDD]
 .rw[YA,a8Y];rw[U9]at a;rw[GC j k]
  .obtain⟨x,hx⟩:=Option.isSome_iff_exists.mp a;rw[QH,e,hx,Option.map_some,FU]
  .rw[JQ];cases CZT with
   |none=>rfl
   |some x=>rw[Option.map_some,JQ]
 .rw[XZ];refine a6H k j y qL ?_;rw[U9]at a;cases q:pF with
  |none=>rfl
  |some x=>rw[q]at a;exact(a rfl).elim
def Y6(qL:KN)(k:κ)(v:V):iQ putK qL k v<=qL.length+1:=by
 rw[TL putK]
 .rw[AE List.length_map b8R]
 .rw[BK9 List.length_append List.length_nil];rw[XW 4030111308581]
def a5i{qL:KN}{k:κ}(v:V)(h:AAE):AZI=ENP:=by
 unfold putK;rw[FK U9 h if_neg AG]
def RelO.isSome_eq{u:LS}(r:DJ7):o.isSome=u.isSome:=by
 cases o with
 |none=>cases u with
  |none=>rfl
  |some _=>rw[A1G r]
 |some _=>cases u with
  |none=>rw[A1G r]
  |some _=>rfl
def RelO.getD{u:LS}{d:V}{d':qB}(r:DJ7)(a:RelV d d'):C4J d (u.getD d'):=by
 cases o with
 |none=>cases u with
  |none=>exact a
  |some _=>rw[A1G r]
 |some _=>cases u with
  |none=>rw[A1G r]
  |some _=>exact r
def KV.val{qL:KN}{vs:A0W}(r:eF)(k:κ):RelO pF (valueAt vs k):=by
 rw[C9J];induction r with
 |nil=>exact True.intro
 |@cons p q ps qs h t a =>
  rw[QC h];rw[AN9]
  .rw[EVP (valueAt A9S k=some CZ) valueAt]
   rw[DE zW b h2]
  .rw[ENW (valueAt A9S k=CVG qs) valueAt]
   rw[DE zX b a]
def KV.any{qL:KN}{vs:A0W}(r:eF)(k:κ):(AGO a QZ)=DHE a QZ:=by
 rw[C9J];induction r with
 |nil=>rfl
 |cons h t b=>rw[DZR b CY]
def KV.repl{qL:KN}{vs:A0W}(r:eF)(k:κ)(c:LJ) :
  KV CDZ (CT5 vs.map (QZ,u)):=by
 unfold KV at r⊢;induction r with
 |nil=>rw[AFN]
 |@cons p q ps qs h t b =>
  rw[EAI b];rw[QC h];rw[AN9]
  .rw[DSM];rw[AY h1 c]
  .rw[JQ,BA BPQ];rw[AY h1 h2]
def KV.put{qL:KN}{vs:A0W}(r:eF)(k:κ)(a:LJ):KV C2H (stored vs k u):=by
 unfold putK stored;rw[r.any k];by_cases e:LU (DHE b XD)
 .rw[QH,QH];exact r.repl k a
 .rw[JQ,JQ];exact Paired.snoc r (EW a)
def KV.length{qL:KN}{vs:A0W}(r:eF):BU6 qL.length:=BXR
#where
def a3Y{k:Key}(r:RelV (kV k) u):(F3 P w).is k u=true:=by
 cases k with
 |inl i=>rw[RP t (AT2 A77 r)];rw[pT (a9Y P w i t)]
 |inr x=>rw[RP t (AT2 B6X r)];rw[pT (a9X P w x t)]
def a7f{P:qG}{w:World}:CDF ks WJ ks.map kV (ItemsAre A50 ks us)
 |[],_,r=>by rw[CA4 r r]
 |k::ks,_,r=>by
  rw[C5Y];cases r with
  |cons h t=>exact .cons (a3Y h) (a7f t)
noncomputable abbrev KT(H:Hp):FC YD ANS:=E9G ETE
def KT.val(r:A7K)(k:WJ):RelO pF ((atKey xs k).map (·.2)):=by
 induction r with
 |nil=>exact True.intro
 |@cons p q ps qs h t a =>
  obtain⟨h1,_,h2⟩:=h;rw[AN9]
  .rw[EVP (CY3 A9S CZ) atKey]
   rw[DE zW b h2]
  .rw[ENW (atKey A9S k=atKey qs k) atKey]
   rw[DE zX b a]
def KT.repl(r:A7K)(k:WJ)(d:LJ) :
  KT H CDZ (xs.map (putAt k u)):=by
 induction r with
 |nil=>rw[AFN]
 |@cons p q ps qs h t c =>
  rw[EAI c];rw[C9E b h];unfold putAt;rw[AN9]
  .rw[DSM];rw[AX h1 h2 d]
  .rw[JQ,BA BPQ];rw[AX h1 h2 b]
def KT.put(r:A7K)(k:WJ){b:qE}(c:AAB)(a:LJ) :
  KT H C2H (storedH xs k b u):=by
 have e:(AGO d kH)=EGH:=by
  rw[U9,(r.val k).isSome_eq,Option.isSome_map]
 unfold putK storedH;rw[e];by_cases q:EGH=true
 .rw[B32,B32];exact r.repl k a
 .rw[A8G,A8G];exact Paired.snoc r (lU c a)
def KT.keeps(r:A7K)(a:CRO ys ys ys):KT H' qL xs :=
 ET2 _ _ (AH a z.2.1)
def c4G{u:HO}(ok:TW)(e:CAT):AFK u:=e.ok ok
def a4b{qL:KM}(ok:TW)(e:C5J):CHJ :=
 show AFK B70 from E33
def c5j{qL:KM}(ok:TW)(e:AMA):CHJ:=EEK a4b
def a1s{ks:WJ}(ok:TW)(e:lV a ks.map kV):EAQ h ks a:=by
 obtain⟨_,its,r,o,h1,h2,n,b⟩:=(CF3 (gD ks.map kV) (ok a _ e));exact⟨o,its.toArray,n,h1,DPS,b,BM (a7f r)⟩
def a4a(ok:TW)(e:C5K):A5N/\A64 /\
  F03:=by
 obtain⟨z,y,xs,r,o,es,ep,h1,h2,d,f,g⟩:=CF3 B71 E33;refine⟨z,y,xs,r,o,es,ep,h1,h2,d,f,AM8,g⟩;have all:∀{l:YD}{m:ANS},KT H l m->JY m (EAQ h HZ A3A):=by
  intro l m q;induction q with
  |nil=>intro x b;exact nomatch b
  |@cons p q ps qs c t i =>
   intro x b;rcases B2C with e|b
   .rw[DQ];exact a1s ok (PU c.1 c.2.1)
   .exact i x b
 exact all r x b
def c5i(ok:TW)(e:A1O):A5N/\A64 /\
  F03:=EEK a4a
noncomputable def DGet(H:Hp)(a:qE)(y:V)(r:eU):Prop :=
 (∃qL k,C5J/\E5L/\r=pF)∨∃qL k b,C5K/\A9G/\AAB/\r=pF
noncomputable def DPut(H:Hp)(a:qE)(y v:V)(H':Hp):Prop :=
 (∃qL k,AMA/\E5L/\A9D/\H'=BLS AZI) ∨
 ∃qL k b,A1O/\A9G/\AAB/\A9D/\H'=DV9
def DGet.k{H:Hp}{a:qE}{qL:KM}{k:Key}(e:AMA):DGI (kV k):=CW (FY qL k BW2 rfl)
def DGet.t{b:qE}{k:WJ}(e:A1O)(c:AAB):DGI FT:=DH ⟨qL,k,b,BW2,rfl,c,rfl⟩
def DPut.k{H:Hp}{a:qE}{qL:KM}{k:Key}{v:V}(e:AMA)(hl:A9D):AX6 (kV k) v (BLS AZI):=CW (AH5 qL k e hl rfl)
def DPut.t{b:qE}{k:WJ}(e:A1O)(c:AAB)(hl:A9D) :
  AX6 FT v DV9:=DH (mQ qL k b e c hl rfl)
section
variable {r:qB}
def Inv.big(I:AN):mT sysModules:=by
 have h:mT mainGlobals:=(I.mod.glob.keeps I.bk).lt;exact Nat.lt_trans AG h
def b5A(r:sP)(I:AN)(g:CM1 SK)(m:LJ)(h:∀f s',A6Q->B4E f->cS f) :
  oO (getItem AV u):=by
 rw[APJ i i n]
 .subst i;rw[B0I];rw[EW6 (CVG vs)];exact wpAny_getItem_of (a3Y m) dd.mapOf hw DX7
 .subst i;rw[B0K m];rw[EW6 (BLV atKey xs k)];rw[ET p q j Option.map_eq_some_iff.mp hw];refine wpAny_getItem_heap (tupleKind_room_in1 r) E2R dd q ?_;rw[AE j DX7]
def c9u(j:sP)(I:AN)(g:ANW)(f:LJ)(h:E8R o.isSome) :
  EP4 .In:=by
 rw[APJ d d i]
 rw[F0Z wpAny_in_of]
 rw[F5Q wpAny_in_heap]
def c4j(j:sP)(I:AN)(g:ANW)(f:LJ)(h:E8R D51) :
  EP4 .NotIn:=by
 rw[APJ d d i]
 rw[F0Z wpAny_notIn_of]
 rw[F5Q wpAny_notIn_heap]
def a4I{t':Nat}{c:HO}(I:AN)(h:Mut (H a))(g:C8S)(f:EAK)(new:ObjOk X.prog X.w DJ9 h' a c) :
  BVW DJ9 :=
 ANY a a h HK (λb q d z=>VG aS b d z) f new
def c0R{qL:KM}{vs:C1F}(z:A5N)(hd:A64)(b:eF)(dd:h'.DictOf A50 a vs) :
  AOL H' h' a B70:=⟨z,hd,vs,b,dd⟩
def b5z{Q:kO}(J:sP)(I:AN)(g:AX6 y v H')(B:LJ)(x:B4E r)(h:B7Q kZ) :
  oO (setItem AV u r):=by
 rcases g with⟨qL,k,e,m,l,j⟩|⟨qL,k,b,e,m,t,l,j⟩
 .subst m j;rw[EV1 vs c5j vs.length d.length]
  rw[CH5 n v v l]
  refine wpAny_setItem_pairs (hsz:=p) (a3Y B) dd λh' f o=>B5N;have G:EAK:=B9J q _ i f (A7R i)
  exact a4I I AZK o G (c0R n hd (d.put k x) f)
 .subst m j;cases(lX (BDF b) B);rw[EV1 xs c5i xs.length (Paired.length d)]
  rw[CH5 n v v l]
  refine wpAny_setItem_heap (hsz:=p) (tupleKind_room_in1 J) (a1s I.hok t) dd λh' f o=>B5N;obtain⟨q,es,ep,i,h2,C,D,_,F⟩:=f;rw[EZ8 o (A7R i) ⟨n,hd,_,(EU9 d.put t x w),q,es,ep,i,h2,C,D,F⟩ w w]
#where
section
variable {qL:KM}{k:Key}
#where
noncomputable def c7T(i:Expr):Prop:=∀ov iv,subscripted i false ov iv=CEE ov iv ov iv
def c1D{env:Env}{value a:Expr}{T id:String}
  (hl:EGS) (c:c7T a)
  (h:AFX (C63 value) (λo s₁=>DM FW A (eval a env) (λi s₂=>s₂.TypeIs o T/\C0F (getItem o i) s₂) E s₁)) :
  EI (C63 (.Subscript value a pos)):=by
 refine Subscript_ (eS h (λo s₁ h₁=>eS h₁ (pS s₂ h₂)));obtain⟨b,h₂⟩:=h₂;unfold subscriptTail;rw[NI];rw[getitemInPython_of_ne b.not_modules];rw[BZJ b hl];have fin:DM FW A (subscripted a false o i) (λr s₃=>C0F (letTemporaryGo value o r>>=GA (pure r)) s₃) E s₂:=by
  rw[BJ (c o i) wpAny_operating (EP6 h₂ r wpAny_letTemporaryGo)]
 first
  |exact DN0
  |rw[zR DN0]
  |rw[zR fin]
def b0A(I:AN)(g:ANW):DR1:=by
 rcases g with⟨qL,k,e,_,_⟩|⟨qL,k,b,e,_,_,_⟩
 rw[E06 vs DDJ]
 rw[E06 xs DDK]
inductive tDGetI(Q:VK)(x:V)(y:V)(H2:Hp):Prop
 |mk (a v:_) (_:IE) (_:CRB SK) (_:Q v H2):tDGetI Q x y H2
noncomputable def c4x(td ty:TE):TE:=SL td x (ty σ H1 (tDGetI Q x))
inductive tDInI(Q:VK)(y:V)(x:V)(H2:Hp):Prop
 |mk (a o:_) (_:IE) (_:C8L) (_:A06 o.isSome H2):tDInI Q y x H2
noncomputable def c5B(ty td:TE):TE:=EKB tDInI
inductive tDNotInI(Q:VK)(y:V)(x:V)(H2:Hp):Prop
 |mk (a o:_) (_:IE) (_:C8L) (_:A06 D51 H2):tDNotInI Q y x H2
noncomputable def b2V(ty td:TE):TE:=EKB tDNotInI
inductive sDPutI(D:Ends)(σ:St)(v:V)(x:V)(y:V)(H3:Hp):Prop
 |mk (a H4:_) (_:IE) (_:DPut H3 a y v H4) (_:mR H4):sDPutI D σ v x y H3
noncomputable def c4F(td ty tv:TE):TS:=yX tv v (VF td x (ty σ H2 (sDPutI D σ v x)))
section
variable {o i value:Expr}{pos' tpos:Pos}{td ty tv:TE}
def c2G(k:A0S)(f:A0P)(hi:B88)(j:c7T i):C0D o i DRH:=by
 rw[LC];refine c1D PySem.F.slot_dict_getitem.lookup j (thn (gG f) λu s1 (A21 x H1 m q1)=>C4P d q r p);obtain⟨y,H2,c,n,a,v,ex,g,l⟩:=p;rw[vW m];rw[AY (b0A c g) (b5A k c g n λw t e b=>XV v e b l)]
def b7z(f:A0S)(hi:B88)(e:A0P):PC X .In i o DWS:=by
 rw[F77 c9u j.isSome]
def b4E(f:A0S)(hi:B88)(e:A0P):PC X .NotIn i o (b2V ty td):=by
 rw[F77 c4j (! j.isSome)]
def c2j(l:A0S)(j:A0P)(hi:B88)(m:C7Y)(k:DLT) :
  AI8 PS BQX EA6:=by
 rw[AI2 wpAny_Assign_Subscript (thn (gG m) λr s1 (mV v c q q1)=>thn (vM j c) λu z (A21 x H2 t n)=>GU (AKC hi z d n) C E A) k];obtain⟨y,B,e,w,a,b,ex,g,p⟩:=A;rw[vW t];exact b5z l e g w q λF f=>dY b f p
#where
def b0z(h:Heap)(a:DZ5):EUA nO :=
 ⟨IC,EH6,[],.nil,Heap.DictOf.new h⟩
def c0P(h:Heap)(a:DZ5):EUA AEE :=
 ⟨IC,EH6,[],.nil,_,#[],0,KC,B61,rfl,rfl,List.nodup_nil⟩
noncomputable def b6s:TE:=DL1 .dK
noncomputable def b6r:TE:=DL1 .dT
def b7u:EFE b6s:=λqK s σ H Q I h =>
 F3V (o:=nO) DUH
def b7t:EFE b6r:=λqK s σ H Q I h =>
 F3V (o:=AEE) (CWI c0P)
noncomputable def b0Z:A1I->St->AED D8I
 |[],_,H,Q=>Q [] H
 |cM tk tv,σ,H,Q=>(ZA tk x (VF tv y (b0Z r σ H2 λps H3=>Q EC8 H3)))
noncomputable abbrev VV:FC (A1Z V) DGA:=E9G (RelV CU EB/\E5X)
noncomputable def PPs(X:Cx)(pos:Pos)(keys:AK2)(values:BN)(trs:A1I):Prop :=
 B8L D8I (kT b0Z trs ->
  UO (evalPairs (pairTrees keys values X.env pos)) (λvs s'=>∃ps H',kZ/\VV ps vs/\GL ps))
def c2n:AN3 [] [] []:=BIB Q (EH7 pairTrees_nil_walk)
def b7f{k v:Expr}{ks:AK2}{vs:BN}{tk tv:TE}{trs:A1I}(f:DY k tk)(i:DY v tv)(g:AN3 ks vs trs) :
  AN3 A7E A72 EIX:=λqK s σ H Q I h =>
 pairTrees_cons_walk (thn (gG f) λu s1 (mV x c m q1)=>A9Z i c (λq o (A21 y H2 n j) =>
  thn (AKC g o d j) λr p ⟨ps,b,e,a,l⟩=>⟨EC8,b,e,.cons ⟨m,n⟩ a,l⟩))
noncomputable def a3v(qL more:KM):KM:=more.foldl (λqQ kv=>putK qQ A7N kv.2) qL
def KV.merge:∀{more:KM}{a:C1F}{qL:KM}{vs:C1F},KV more a->eF->KV (a3v qL more) (merged vs a):=by
 intro more a qL vs r;rw[C9J];induction r generalizing qL vs with
 |nil=>intro q;exact q
 |@cons p q ps qs h t b =>
  intro c;have e:KV C8V (stored vs EB CZ):=by
   have:=c.put CU EL;rw[EX CY this]
  exact b e
def a2c:∀(more qL:KM),LB a3v qL more<=qL.length+more.length
 |[],qL=>BIH (qL.length<=qL.length+0) lq 4870571525
 |A8J,qL=>by
  rw[AA9 a2c r C8V (CSF Y6)];show LB a3v C8V r<=_;rw[AE List.length_cons (lq 0xaefac0b1f143c834318 h1 h2)]
def a6d{P:qG}{w:World}:∀{qL:KM}{f:DGA},VV (qL.map λe=>(kV e.1,e.2)) f->∃d,Carries A50 f d/\KV qL d
 |[],_,r=>by rw[AW List.map_nil r r];rw[AX [] True.intro .nil]
 |p::qL,_,r=>by
  rw[C5Y];cases r with
  |@cons a b as bs h t =>
   rw[AJ4 c q (a6d (P:=P) (w:=w) t)];rw[jQ g b];rw[AX ((CU,g)::d) (DG (a3Y CY) c) (.cons (EW EL) q)]
noncomputable def c4w(trs:A1I):TE:=WC σ (∀p,ND->b0Z trs σ (cR p .dK []) λps H2=>H2 p=BV .dK []/\∃qL:KM,ps=qL.map (λkv=>(kV A7N,kv.2))/\qL.length<=15/\tV (W1 H2 p .dK (a3v [] qL)))
def c2F{b:AK2}{d:BN}{trs:A1I}(h:AN3 b d trs)(g:EK b.all ((·.isSome)))(hl:b.length=d.length)(h0:B2S)
  (i:b.length<=15):uY .Dict b d DYO:=by
 rw[lM Q q];rw[AD n (D5D Nat.le_refl s.heap.objs.size) l (EZQ (o:=nO) (AB7 oA) BPW DUH)];refine wpAny_Dict_walk (knd:=AYI) g hl h0 i (GU (E7E _ _ l (q _ n)) C B A);obtain⟨ps,H2,k,j,e,qL,ep,lk,t⟩:=A;subst ep;obtain⟨x,c,v⟩:=a6d (P:=X.prog) (w:=X.w) j;obtain⟨z,hd,y,u,dd⟩:=c5j k.hok e;cases u;refine⟨x,c,dd,λh' f p=>FY QR _ ?_ t⟩;have r:CC (LB a3v [] qL):=by
  have h1:=a2c qL [];rw[List.length_nil]at h1;rw[AE sizeLine_eq (lq 0x22e45cc7d9b978485a3ff7e71566 lk h1)]
 have m:∃q,C24 q:=B9J q _ hq f (A7R hq)
 exact a4I k AZK p m (c0R r hd (v.merge .nil) f)
structure M1(X:Cx)(o:Expr)(m:Str)(qN:Pos)(e:Expr)(qM:Pos):Prop where
 base:aD m
 few:LU (BEC UP
  && E63 UP)
 line:OM
 trees:ES1 UP (BIV bR)
structure M2(X:Cx)(o:Expr)(m:Str)(qN:Pos)(e f:Expr)(qM:Pos):Prop where
 base:aD m
 few:LU (BEC rH
  && E63 rH)
 line:OM
 trees:ES1 rH (CS4 bR (LQ f))
noncomputable def IsD(H:Hp)(a:qE):Prop:=(∃qL,C5J)∨∃qL,C5K
def b2o(I:AN)(d:IsD H a) :
  DR1/\(∀b,LR AUJ b->∃c,B35 c/\KY c.dict)/\A64:=by
 rw[DZO d e e]
 rw[F6M vs DDJ]
 rw[F6M xs DDK]
section
variable {d:V}{r:qB}
def c7E(m:sP)(I:AN)(g:ANW)(f:LJ)(h:∀i s',A6Q->C4J .non i->cS i) :
  DPW [AV,u]:=by
 rw[APJ d d j]
 .subst d;rw[B0I];rw[F4E (meets_dict_get AYI a CVF hd) E0Z]
 .subst d;rw[B0K f];rw[F4E (meetsH_dict_get D0X a b hd) ⟨tupleKind_room_in1 m,k,xs,a1s I.hok j,dd,BT4⟩]
def c7D(p:sP)(I:AN)(g:ANW)(j:LJ)(i:RelV d r)(h:∀m s',A6Q->C4J d m->cS m) :
  DPW [AV,u,r]:=by
 rw[APJ f f n]
 .subst f;rw[B0I];rw[F3T (meets_dict_get_default AYI a (a3Y j) hd r) E0Z]
 .subst f;rw[B0K j];rw[F3T (ELG meetsH_dict_get_default) ⟨tupleKind_room_in1 p,k,xs,E2R,dd,BT4⟩]
#where
noncomputable def b6u(td ty:TE):TE:=D3D (∃o,C8L/\Q (o.getD .non) H2)
noncomputable def b6t(td ty tx:TE):TE:=EH2 (∃o,DGet H3 a y o/\Q (o.getD z) H3)
section
variable {o f:Expr}{qN qM:Pos}{td ty tx:TE}
def b7w(l:A0S)(k:A0P)(j:C18)(m:F2C):AJW "get" UP DRI:=by
 rw[ERW k v p v];rw[CH9 p r t (b2o c d) r t (thn (vM j c) λw A ⟨y,H2,f,q,z,g,n⟩=>BZC)];exact c7E l f g q λC B i b=>QU H2 i b n
def b7v(r:A0S)(q:A0P)(n:C18)(p:E1T)(m:DS2):AJW "get" rH DQS:=by
 rw[ERW q F w F];rw[CH9 w D E (b2o c d) D E (A9Z n c (λJ C (XV y j A t) =>
  D4G (thn (AKC p C j t) λG L ⟨z,i,k,B,K,g,v⟩=>BZC)))]
 exact c7D r k g A B λN M l b=>QU i l b v
#where
section
variable {qL:KM}
#where
#where
universe L2
namespace Att
open PySem PySem.W PySem.Calls PyProof.Rows
section
variable {prog:qG}{w:World}{A:Around}{E:qH}{s:qC}{K:Frag}
#where
universe Att
namespace L2
open PySem PySem.Spec PyProof.Rows
section
#where
section
section
variable {P:qG}{w:World}{K:qF}{mg:AZ}{base:Heap}
#where
section
variable {X:Cx}
#where
section
variable {κ:Type}[ANI]
def a8X{qL:KN}{k:κ}(h:AAE):¬E7Z:=by
 intro m;rw[AGK p a m];have q:CDD:=DCX p a A87;rw[U9,h]at q;rw[HI q AL]
def b2O{qL:KN}{k:κ}{v:V}(h:C0U):E7Z:=by
 have q:CDD:=by
  rw[U9,h]
  all_goals rfl
 rw[ET p a e List.any_eq_true.mp q];rw[C0G p a zY]
def a8j:∀{l:qA κ}{k:κ},l.Nodup->¬k∈l->(l++[k]).Nodup
 |[],k,_,_=>AL
 |a::r,k,h,b=>by
  rw[B7Y];show(a::(r++[k])).Nodup;rw[D5U ⟨KW m,a8j h2 λm=>b (List.mem_cons.mpr (Or.inr m))⟩];rw[bK C03]
  .exact h1 q
  .exact b (List.mem_cons.mpr (Or.inl (ZJ List.mem_singleton.mp q)))
#where
#where
section
open PySem.W
variable {A:Around}{E:qH}{N ep i j n:Nat}{Q:JN (Nat×KL)}{X:Cx}{a d:qE}{es:zZ}{h:Heap}{p:KL}{prog:qG}{rss:LLI}{s:qC}{vs:AI}{w:World}{α:Type}
noncomputable def PR{α:Type}(n:Nat)(lt:AM2):FC BR3 ((JN α))
 |.ret a,Q=>Q a
 |CEX,Q=>JP/\kM/\B0B (k (lt i j)) Q
def a1X{α β:Type}{n:Nat}{lt:AM2}{f:α->KasT β}{Q:JN β}:ELY (B0B (f a) Q) (B0B (t.bind f) Q)
 |D60,h=>h
 |CEX,h=>⟨CY,YB,a1X (k _) A89⟩
def c5o{α:Type}{n:Nat}{lt:AM2}{b:AC9 (KR ((YE)))}{Q:B2Z}{s:qC}(c:∀i j C,JP->kM->C (lt i j) s->b i j C s):ELY (MK a) (t.kasWp b Q s)
 |D60,h=>h
 |CEX,h=>c i j _ CY YB (c5o c (k _) A89)
section
variable {O:KeyOrd}{key:AKD}
noncomputable def kk(key:AKD)(p:KL)(i:Nat):O.α:=key (DNT 0)
noncomputable def kl(key:AKD)(i j:Nat):Bool:=O.blt (key i) (key j)
noncomputable def PB(N:Nat)(p:KL):Prop:=p.Perm (List.toArray (List.range N))
noncomputable def SoP(key:AKD)(p:KL)(m:Nat):Prop:=ELR (A62 i j)
noncomputable def NiP(key:AKD)(p:KL)(m:Nat):Prop:=ELR (A62 j i)
def c0D(p:KL)(i:Nat):B49=DNT 0:=LZ Array.getD_eq_getD_getElem?
def c8R(i j:Nat):kl key B49 DAT=AI3 i j:=by
 unfold kl kk;rw[c0D,c0D]
def PB.size(h:TV):p.size=N:=D4R h.size_eq
def PB.lt(h:TV)(a:eY)(i:Nat):B49<N:=by
 rw[c0D];rw[A4N p.size]
 .rw[DWY];have b:p[i]∈(CQS N):=h.mem_iff.mp (Array.getElem_mem hi);simpa using b
 .rw[AE (getElem?_neg p i hi) a]
def PB.of{q:KL}(h:TV)(a:q.Perm p):PB N q:=a.trans h
def a3G(a:DJI)(k:Nat):EVS (if i<=k/\k<j then YW (AF8-1-k)else B3A):=by
 unfold kk kas_rev;rw[getElem?_mirror_all a];split<;>rfl
def a0J(b:DJI)(a:∀k,i<=k->k<j->B3A=YW BNT)(k:Nat):EVS B3A:=by
 rw[a3G b];split
 .rw[a _ AF AF,a k AF AF]
 .rfl
def a7c{k l:Nat}(a:k<p.size)(hl:l<=k)(i:Nat):kk key (bubble p k (k-l)) i=dS i l B3A (if EXD then YW (i-1)else AHR):=by
 rw[EY kk (getElem?_bubble a _ (VR 0x5a80e2fdd56156))];rw[show k-(k-l)=l by rw[ED 0x201e5982c2a0b71559e72dcdf8752be8f64ce8cd6 hl]];split
 .rfl
 .split<;>rfl
def a6j{k:Bool->BR3}{Q:DCE}(hp:TV)(a:eY)(h:kG (k (O.blt AHR (YW j)))):kG (.ask B49 DAT k) :=
 ⟨hp.lt a i,hp.lt a j,AJ c8R h⟩
def SoP.snoc(h1:OE)(h:A8N n)(e:A62 LT n):A8N CB:=λi j b d=>by
 rw[XT kM]
 .exact h i j b c
 .rw[EOE]
  rw[ES8]
  .subst a;rw[B6J]
  .exact KeyOrd.kle_trans ETW e
def NiP.snoc(h1:OE)(h:C6E)(e:A62 n LT):DMM:=λi j b d=>by
 rw[XT kM]
 .exact h i j b c
 .rw[EOE]
  rw[ES8]
  .subst a;rw[B6J]
  .exact KeyOrd.kle_trans e ETW
def b1t{Q:D91}(hp:TV)(b:eY):∀(f n:Nat),OE->A8N n->(∀m,n<=m->DE8->A8N m->(m=n+f∨AQT O.klt m (m-1))->Q m)->kG (kas_asc p f n)
 |0,n,h1,a,k=>k n BO BO a (.inl rfl)
 |f+1,n,h1,a,k=>by
  rw[C6J b];cases c:DVP with
  |true =>
   rw[AE FU (k n BO D56 a (.inr c))]
  |false =>
   rw[AE B34 (b1t hp b f CB eI (a.snoc h1 c) λm q1 d e g=>k m (~~~a3B q1) (xF b3q) e (by rw[bK g];rw[MA (BS 0x119033b1bd4967fc3e10fd7 q)];rw[QY q]))]
def a4y{Q:JN (KL×Nat×Nat)}(r:eY):∀(f:Nat) (p:KL) (n q:Nat),TV->OE->n+f<=N->C6E->q+1<=n->(A7J D0H JP EE2) ->
  (∀p' m b,BJH->n<=m->DE8->AFD NiP m->b+1<=m->(A7J (m-(b+1)) (i<m) (kk key p' i=AFD kk (m-1)))->Q (p',m,b))->kG (kas_desc f p n q)
 |0,p,n,q,a,h1,v,c,x,s,k=>F4D BO
 |f+1,p,n,q,a,h1,v,c,x,s,k=>by
  refine a6j a r ?_;cases y:DVP with
  |true =>
   rw[FU];split
   .rw[HC hz (n<=p.size) a.size (lq 0x16f8070afde2a15d7 v)]
    have u:C7G EFH AHR:=a0J hz s;have A:NiP key EFH CB:=by
     have:=c.snoc h1 (KeyOrd.kle_of_klt y);intro i j z B;rw[DE u u (this i j z B)]
    rw[CI1 (CDC _ 0 (a.of B6F) eI CA2) A BUL EGX]
   .rw[CI1 (CDC _ 0 a eI CA2) (c.snoc h1 (KeyOrd.kle_of_klt y)) BUL EGX]
  |false =>
   rw[wG];refine a6j a r ?_;cases hd:AI3 LT n with
   |true =>
    rw[AE FU (F4D D56)]
   |false =>
    rw[wG];have t:YW n=YW LT:=AM O.total y hd;rw[CI1 (CDC p (q+1) a eI CA2) (c.snoc h1 hd) (BS 0x22619215c9f82a36 x) (pS q1 w)];rw[show CB-1=n by rw[XW 0x350c5ec96277e7d8ff5],t];rw[CS hi i n]
    .rw[hi,t]
    .exact s i (BS 0x2b60c86dfbd53652e19be52fea035958aa37 q1) (cT b0e w)
def a9G{a:Nat}(e:eY)(hp:TV)(h1:OE)(g:n<=a)(h:a<=N)(l:C6E)(k:CGP):E77 kas_tail3:=by
 unfold kas_tail3;have b:PB N EK6:=hp.of B6F;rw[HC d (n<=p.size) hp.size (b1Z g h)]
 refine AJB (b1t b e (a-n) n h1 DWL λm q1 q o _=>k m _ b (A4I 88870131167231598 q1) AF o);rw[a3G d,a3G d,A8A,A8A];exact AM l (BS 0x89594d023e7691f8ded22a067d72ec9a2486ecf7c6e0dc405bfc37f6a2c38ee57c75e90e0f8744b1189d7 c) (BS 0x36cdf73991264f2115da48eb8d8fd818cf97 f)
def a3T{a:Nat}(f:eY)(hp:TV)(h1:OE)(b:CB<=a)(c:a<=N)(r:DMM)(k:CGP):E77 kas_descPart:=by
 rw[xZ kas_descPart (AJB (a4y f _ p CB 0 hp eI (BT 0x182b8cc87c15ac9d14e63234bb637 b c) r BUL (D2V u u) λp' m t d v e h l o=>?_))];dsimp only;rw[HC s (m<=p'.size) d.size (lq 0x1f532a15a7001e01cb3f6ee35ea054ab638 b c e)]
 split
 .have hkk:C7G (kas_rev p' (m-(t+1)) m) (AFD kk i):=a0J s o;refine a9G f (d.of B6F) E1C E9L c (DD i j g q) k;rw[DE hkk hkk (h i j g q)]
 .exact a9G f d E1C E9L c h k
def b7d{a:Nat}(h:eY)(hp:TV)(h1:1<=a)(o:a<=N)(k:CGP):kG (kas_count a p):=by
 rw[xZ kas_count (AJB (b1t hp h (a-1) 1 BO EWP (DP n q1 u l t)))];split
 .rename_i e;have e:n=a:=eq_of_beq e;exact k n p hp q1 (~~~b8I e) l
 .rename_i e;have e:¬n=a:=ASI beq_iff_eq.mpr;have g:AQT O.klt n LT:=by rw[bK t];rw[HI q (A4I 0xe88ab99e984b38ddc453bd91e68488b0f998a6e e)];exact q
  split
  .rename_i e2;rw[C6J h];cases r:AI3 0 LT with
   |true =>
    rw[AE FU (k n p hp q1 AF l)]
   |false =>
    rw[wG];have s:n<=p.size:=by rw[MW hp.size]
    have b:∀i,JP->EE2:=λi hi=>KeyOrd.kle_antisymm (l i LT (BX1 0x9c8dc589d0d2196) (BS 0x23298a70e5171a9ef6d e2)) (KeyOrd.kle_trans r (l 0 i BUN hi));have d:C7G EK6 AHR:=a0J s λi _ hi=>b i hi;refine a3T h (hp.of B6F) AF AF o ?_ k;refine NiP.snoc AF DWL ?_
    .rw[d,d,b i (A08 0x714920dbe8d7 f),b j f];rw[B6J]
    .rw[FK d d KeyOrd.kle_of_klt g]
  .have en:n=1:=by omega
   subst en;refine a3T h hp BO (A4I 0x2411f403ea12f05958c55166d e) o ?_ k;exact NiP.snoc BO EWP (KeyOrd.kle_of_klt g)
def a5j{k:Nat}{Q:D91}(d:eY)(hp:TV)(c:A8N k):∀(f l r:Nat),l<=r->r<=k->r-l<=f->(∀i,i<l->DVA)->(A7J r (i<k) DVB) ->
  (∀l,l<=k->(∀i,i<l->DVA)->(A7J l (i<k) DVB)->Q l)->kG (kas_place p k f l r)
 |0,l,r,h1,h2,e,a,b,q=>(F44 (BT 0x7c377c80bed1d5f59757 e hi))
 |f+1,l,r,h1,h2,e,a,b,q=>by
  rw[TL kas_place]
  .exact F44 AF
  .rw[C6J d];cases g:AI3 k E9Z with
   |true =>
    rw[FU];refine EQH l _ AF AF AF a (pS hi h) q;exact KeyOrd.kle_trans (KeyOrd.kle_of_klt g) (c _ i hi h)
   |false =>
    rw[wG];refine EQH _ r AF AF AF (AS i hi) b q;exact KeyOrd.kle_trans (c i E9Z AF AF) g
def b7e{Q:DCG}(r:eY):∀(f:Nat) (p:KL) (k:Nat),TV->k+f=N->A8N k->(ETS)->kG (kas_bin f p k)
 |0,p,k,m,e,g,q=>q p m (by rw[EX e g])
 |f+1,p,k,m,e,g,q=>by
  rw[xZ kas_bin (AJB (ETP (a5j r m g k) k BUN (VR 234949) D55 hi hi (DD l t a b)))];have u:k<p.size:=by rw[BJ m.size b9l e]
  refine b7e r f _ BZ (m.of (iF bubble_perm)) (~~~c4N e) (CYT s) q;rw[E32,E32];rw[CS n i l]
  .rw[dR (if_pos n) d j l]
   .rw[BJ AKJ KeyOrd.kle_refl _]
   .rw[DE BWV A8A (b BNT (~~~lq 0xc9c195027527fa3e7e53eb5fa6d818a8a557d7 c n d) (~~~lq 0xd748fce06130670e3fa6dd1125098a36af0086f58d8 c s n d))]
  .rw[if_neg n];by_cases h:EXD
   .rw[rS,BA (A08 0x1e537e60e4ba31d1d7 CY),A8A];exact AM g (BS 0x2998d2d7d17b4432f94dc493ac77d6 c) (jT 0x54fafa6b2d1716a225e35ab82cddd8 s CY EL)
   .rw[dR bC d j l]
    .rw[AE AKJ (a i AF)]
    .rw[BA d];by_cases o:l<j/\j<=k
     .rw[AE (DF o) (AM g AF (BT 0x5b2a0e77ae39639125e34ee97 o.1 o.2))]
     .rw[AE (BA o) (AM g c AF)]
def c2m{Q:DCG}(a:eY)(q:ETS):kG (kas_sort N):=by
 rw[xZ kas_sort (AJB (b7d a D61 a BO (DR m p' b h1 h2 c)))];rw[BUP]
 .exact b7e a _ p' _ b AF (AJ (AJ8 (max m 1=m) 0x35385fb87f927dddfe7f38e6d h1) c) q
 .exact q p' b (AJ (show N=m by omega) c)
#where
def J6:∀a:qI,yK a a
 |[]=>rfl
 |IF=>by rw[FK HT.lexLt_cons FU J6 xs]
def a1N:∀a b c:qI,DSX->DSZ->DSY
 |[],[],_,h,_=>TJ
 |HU,[],_,h,_=>TJ
 |_,HU,[],_,h=>TJ
 |[],HU,HU,_,_=>rfl
 |IF,MN,z::zs,h1,h2=>by
  rw[HT.lexLt_cons]at h1 h2⊢;rw[CS e1 x y]
  .rw[DF e1]at h1;rw[CS e2 y z]
   .rw[DF e2]at h2;rw[AE (B1L e1.trans e2) (a1N xs ys zs h1 h2)]
   .rw[BA e2]at h2;rw[DE (MV (by rw[AE e1 e2])) e1 h2]
  .rw[BA e1]at h1;have h1:=of_decide_eq_true h1;rw[CS e2 y z]
   .rw[MV (by rw[EX e2 e1]),<-e2];rw[DG7]
   .rw[BA e2]at h2;have h2:=of_decide_eq_true h2;rw[BJ (BA (B6K 0x4657a03a9eed92c3b8e)) decide_eq_true (B6K 0xf8c34121c3b8e)]
def Q5:∀a b:qI,yK a b->DV8->a=b
 |[],[],_,_=>rfl
 |[],HU,h,_=>TJ
 |HU,[],_,h=>TJ
 |IF,MN,h1,h2=>by
  rw[HT.lexLt_cons]at h1 h2;rw[GC x y]
  .rw[DQ];rw[FU]at h1 h2;rw[Q5 xs ys h1 h2]
  .rw[JQ]at h1;rw[E57]at h2;rw[S1 h1 of_decide_eq_false h1 h2 of_decide_eq_false h2];omega
def c3u(a b c:qI)(h:DSY):DSX∨DSZ:=by
 cases h1:HT.lexLt a b with
 |true=>rw[MA rfl]
 |false =>
  rw[GM .inr];cases h2:HT.lexLt b a with
  |true=>exact a1N b a c h2 h
  |false=>rw[EX (Q5 a b h1 h2) h]
noncomputable def OL:KeyOrd:=⟨qI,HT.lexLt,J6,a1N,c3u,Q5⟩
noncomputable def G6(qP:LLI):Prop:=qP.Pairwise λa b=>DV8
noncomputable def c3v(fin:Bool):EBV
 |[],_=>fin
 |HU,[]=>fin
 |IF,MN=>BRN (c3v fin xs ys)
def b0h:∀(xs ys:qI),c3v (CJ (xs.length<ys.length)) xs ys=A59 HT.lexLt
 |[],[]=>rfl
 |[],MN=>by
  show EK decide (0<ys.length+1);exact decide_eq_true (VR 769297720157)
 |IF,[]=>by
  rw[E5J (B1O<0) (VR 21542613500661)]
 |IF,MN=>by
  rw[HT.lexLt_cons];show UM (x=y) _ _=_;split
  .rw[<-A59 b0h];congr 1;simp only[List.length_cons];exact decide_eq_decide.mpr AF
  .rfl
def b4I{c:Bool}{a b:Int}{t u:Tok}{Q:YE}(h:Q (decide (a<b)) s):EI (oneLt' c ANK (ACL b)):=by
 cases c with
 |true=>exact oneLt_int h
 |false=>exact AH kat_one (lt_int h)
def b0k{b fin:Bool}{Q:YE}{a:AI}{ns ms:qI}(i:Nat)(h1:A9R)(h2:IntsAre a ms)(h:MK (c3v fin ns ms)):dI KatLex A b fin Q (vs.zip a) i s:=by
 induction h1 generalizing a ms i with
 |nil=>exact h
 |cons x t f d=>cases h2 with
  |nil=>exact h
  |cons y u c =>
   rw[List.zip_cons_cons];rw[dJ kat_cons wpAny_eqBool_int];have h:MK (BRN (c3v fin _ _)):=h;rw[GC x y]
   .rw[QH]at h;rw[BJ (show gK x y from beq_iff_eq.mpr e) kat_yes (d AR c h)]
   .rw[JQ]at h;rw[AE (show AAU x y from beq_eq_false_iff_ne.mpr e) (kat_no (b4I h))]
noncomputable def TupsAre(h:Heap)(vs:AI)(rss:LLI):Prop:=vs.length=rss.length/\GP i Nat v qB A58 (∃(r:qI) (b:qE) (its:DB),C17/\DFU v/\C5N/\E51)
def TupsAre.keeps{h':Heap}(t:ADR h)(k:∀b its,C5N->BJM h'):ADR h' :=
 ⟨t.1,PP v (CG6 r b its (t.2 i v e) ⟨r,b,its,e1,e2,AJD e3,e4⟩)⟩
def c1x{b:Bool}{C:YE}(T:A9P)(hi:D7G)(k:j<vs.length)(h:C CTK s):dI kas_ask A (tuples' b) vs i j C s:=by
 unfold kas_ask;obtain⟨r,x,xs,e1,e2,⟨o,q1,v,n,q⟩,g⟩:=A1A T.2 hi;obtain⟨t,y,ys,c,d,⟨o',e,p,u,f⟩,a⟩:=BFX T.2 j k;rw[DZQ aG D9Z];dsimp only[Option.getD_some];rw[e2,d];refine kat_lt q1 q e f (b0k 0 g a ?_);have l:xs.size=r.length:=by rw[D98 g.length]
 have m:ys.size=t.length:=by rw[D98 a.length]
 rw[l,m,b0h];rw[BKD e1 List.getD_eq_getElem?_getD c h];exact h
def a9a{h:Heap}:∀{vs:AI}{rss:LLI},ADR h->C1Z->∃fs,KatTups h vs fs/\BU6 fs.length/\∀f∈fs,∃n t,f=DOS
 |[],_,_,_=>oB [] trivial RE
 |A72,[],T,_=>ADZ T.1
 |A72,B8S,T,hw=>by
  rw[B9H fs k (a9a (vs:=vs) (rss:=rss) ⟨D4R T.1,PP u (T.2 AR u e)⟩ λr c=>hw r BWZ)];obtain⟨q,b,its,e1,e2,⟨o,q1,m,n,p⟩,d⟩:=T.2 0 v rfl;cases e1;have c:=hw r List.mem_cons_self;obtain⟨x,t,g,j⟩:∃x t g,its.toList=Value.int x t::g:=by
   generalize its.toList=l at d;cases d with
   |nil=>simp at c
   |cons x t h=>rw[FJ x t _ rfl]
  refine⟨.int x t::fs,⟨⟨b,o,its,n,e2,q1,m,p,?_⟩,h1⟩,IN h2,AS f a⟩
  .rw[D58 j];rfl
  .rw[A1N]
   .rw[AX x t rfl]
   .exact k f a
def b4g{Q:KR SortKind}(T:A9P)(hw:AND)(a:BXD)(h:Q (tuples' true) s):EI (CU6 keyKind'):=by
 rw[B9H fs b (a9a T hw)];refine kat_kind (T:=A6M) h1 (BT 0x46f5808b701f8d3e85e a h2) C0L rfl ?_
 .rw[PY n t (b v a)];exact .now
 .rw[AE (AJ9 (LU (ACS "int" != C1C))) h]
noncomputable def b7B(vs:AI)(p:KL):AI:=DUB
noncomputable def b5c(rss:LLI):QO OL.α:=λi=>(AVG:qI)
def a5B{P:rY}(k:EMH)(T:A9P)(hw:AND)(c:B5R)
  (h:EV2 p KL CNC CNX (EIJ p)) :
  EMG:=by
 rw[list_sort_plain];have x:mT a:=Heap.lt_size k;rw[gX listItems_at k rfl];rw[BI (listUpdate_at k rfl ?_ (by rw[FK List.size_toArray sizeLine_eq a8o c]) (Nat.zero_le _))];obtain⟨e1,l⟩:∃e1,BAR (CKU get?):=ES (get?_update_seq k BY1);rw[CYL l];rw[EUZ (wpAny_newTuple ?_ (by show vs.length<=_;rw[BJ sizeLine_eq a8o c]))];rw[D9Q];have d:BAR (BS5 BI7 AUA oT):=by
  rw[DE (DB2 (KG size_push' Heap.size_update (Nat.ne_of_lt (Nat.lt_succ_of_lt x)))) (DB2 (HG Heap.size_update Nat.ne_of_lt x)) l]
 have v:ADR ((BI7 AUA).push oT):=T.keeps λb its (rM q1 g I)=>by
  have F:BWX:=λz=>by
   rw[cJ z k q1 q1];have g:C1D=Value.type "tuple":=g;injection g with g
   rw[HI g AG]
  refine⟨o,?_,g,I⟩;exact nT (AJ (AKL F) q1)
 show DM FW A _ P E COM;dsimp only;by_cases h2:vs.toArray.size<2
 .rw[OA h2' DSE h2]
  rw[BX8,BX8];rw[kR];rw[StateT.run_pure];rw[kR];dsimp only;rw[F3N (by rw[Array.size_map];show(pairsOf vs).size<=_;rw[pairsOf_size,sizeLine_eq];rw[ED 0x2337d58d87dc7b29e3bfa5 h2'])];rw[EHV];have e:A22 arrOf (SortSt.mk' general' (vs.toArray.zip vs.toArray) #[] 7) none (·.2)=EIJ CYS:=by
   have:=kat_snds (vs:=vs) (ks:=vs) (st:=SortSt.mk' general' (CU6 vs.toArray.zip) #[] 7 none) (p:=CYS) rfl (by
    rw[CAR (CZB kas_range) (BZE (vs.toArray.zip vs.toArray).size vs.length)])
   rw[A7O]
  rw[e];rw[SJ (h _ D61 ?_)];intro i j q t;have:jH:= jT 0x7e3ed6525e659003741f1cdba7 h2' q t
  rw[X1];rw[B6J]
 .have h2':2<=vs.length:=by
   have:¬DSE:=BM h2
   rw[XF 0x66c3a9712ba5]
  rw[BA h2,BA h2];rw[jE (b4g v hw E1D ?_) (UN (kat_run (ks:=vs) (κ:=tuples' true) (Q:=λf s'=>∃p:KL,arrOf f=p.map (CZB kas_item)/\FV failedOf f/\CT6)
   (G:=λp s'=>CT6) rfl h2' c (λp' f s' J y B D=>⟨p',y,B,D⟩) ?_) ?_ _ _ e e)]
  .refine c5o (n:=vs.length) (lt:=kl (O:=OL) (b5c rss)) (λi j C hi t H=>c1x v hi t H) _ (c2m E1D λp' q1 g=>lU q1 g)
  .rintro⟨⟨⟩,f⟩ s' ⟨p,har,hf,rfl,hp,hs⟩;dsimp only;have m:=kat_snds (ks:=vs) rfl har;have u:(List.toArray DUB).size=vs.length:=by rw[List.size_toArray,List.length_map,Array.length_toList,hp.size]
   rw[m];rw[F3N (Nat.le_trans (Nat.le_of_eq u) (AJ sizeLine_eq (lq 0x6bdafe01701339304fa642a5 c)))];rw[hf];rw[EHV];rw[NW (h p hp hs)]
def a0O{out:DB}:uB BWX QD EMW:=JL c e (by
 unfold sortedHeap;rw[AE (AKL c) (nT (AJ (AKL c) e))])
def a2a{out:DB}(e:XJ (tW vs.toArray n)):∃c,OX EMW (tW out c):=by
 unfold sortedHeap;have f:B6I:=pP;obtain⟨e1,b⟩:∃e1,BAR (DHM get?):=ES (get?_update_seq e BY1);have d:BAR (BS5 (DHM push) AUA oT):=nT b;exact ES (get?_update_seq d (GA out))
def b4Z(xs:DI)(d:α):iC xs.length (λi=>xs.getD i d)=xs:=by
 rw[DY0];rw[D57 List.getElem_range];rw[DKZ h2]
def PB.mem(h:TV)(hi:i∈p.toList):i<N:=by
 have:i∈p:=BM hi
 simpa using h.mem_iff.mp this
def PB.perm(h:TV):BIL p.toList.Perm N:=by
 rw[wB (Array.perm_iff_toList_perm.mp h)]
def b6J(hp:TV)(h:CMQ N):G6 (CW9 AVG):=by
 rw[EY G6 List.pairwise_iff_getElem];intro i j hi b a;simp only[List.length_map,Array.length_toList]at hi b;have q:=h i j (Nat.le_of_lt a) (PU hp.size b);unfold kk b5c KeyOrd.kle at q;rw[DWY,getElem?_pos p j b]at q;rw[D57 Array.getElem_toList];exact q
def a5N{qK:DA}{σ:St}{H:Hp}(I:AN){ys:AA}{us:AI}(h:BYO)(r:A8W):TupsAre s.heap us rss:=by
 rw[DU (BOS CY) C0E];have hi:i<ys.length:=by rw[rB r.length e]
 rw[XU e1 e2 (A7U r.get hi)];rw[SO e1 e1];obtain⟨b,q1,a,c,d⟩:=A1A EL hi;rw[B08 c];rw[B1H f g (EIK d)];exact⟨b,a,its.toArray,q1,rfl,g,BM (a2z f)⟩
noncomputable def R9(h:Heap)(v:qB):qI:=match v with
 |FT=>match D7V with
  |AHE=>match o.data with
   |.seq xs _=>xs.toList.map numOf
   |_=>[]
  |none=>[]
 |_=>[]
def N3{b:qE}{its:DB}{r:qI}(t:C5N)(i:E51):R9 h FT=r:=by
 rw[xE h1 h2 n a t];unfold R9;simp only[h1,a];exact i.nums
def U4{β:Type}{f:DM4}{os ls:A7W}(h:os.Perm ls):∀{T:DI},ls=T.map f->∃c:DI,c.Perm T/\c.map f=os:=by
 induction h with
 |nil=>intro T e;cases T with|nil=>rw[AX [] .nil rfl]|cons _ _=>rw[CM]
 |cons x _ m =>
  intro T e;cases T with
  |nil=>rw[CM]
  |cons t T =>
   rw[ANG]
   rw[ET c h1 h2 m e2];rw[AX (t::c) (h1.cons t) (pX List.map_cons h2 e1)]
 |swap x y l =>
  intro T e
  match T,e with
  |a::b::T,e =>
   rw[ANG]
   injection e2 with e2 e3
   rw[AX (b::a::T) (.swap a b T) (by rw[List.map_cons,List.map_cons,e1,e2,e3])]
 |trans _ _ d g =>
  intro T e;rw[oZ h1 h2 (g e)];rw[ET i j k d h2.symm];rw[AX i (j.trans h1) k]
def a2b{P:rY}(k:EMH)(T:A9P)(hw:AND)(hz:B5R)
  (h:EV2 os AI CWO D3R os.toArray) :
  EMG:=by
 refine a5B k T hw hz λp c l=>h _ ?_ ?_
 .rw[RV (c.perm.map λi=>CZK) b4Z]
 .have q:=b6J c l;unfold G6 at q;unfold b7B;rw[List.pairwise_map]at q⊢;refine q.imp_of_mem (AXP m o d);have g:∀i∈p.toList,R9 s.heap (vs.getD i Value.none)=AVG:=λi hi=>by
   have e:=c.mem hi;obtain⟨r,b,its,e1,e2,f,j⟩:=A1A T.2 e;rw[DZQ (List.getElem?_eq_getElem e) e1];show R9 s.heap vs[i]=r;rw[AE e2 (N3 f j)]
  rw[DE (g x m) (g y o) d]
def a4u{x:qB}{Q:qH}(g:EYB t u l l vs (EEQ t u))
  (T:A9P) (hw:AND) (q:B5R)
  (h:∀(h1 h':Heap) (os:AI) (c:Nat),F28 (oC (AK h1.objs.size))) :
  EET:=by
 rw[F72 (iF g λh1 k1=>?_) H H];have z:=D6U;rw[F4A D (by
  rw[WQ i hi List.mem_iff_getElem?.mp D];rw[F5T])]
 rw[F4G CUZ CUZ z C B (ELQ k1 AYX B j (C.imp_of_mem (AXP F G k)))]
 rw[ET1]
 .rw[<-DO2,<-d _ (j.mem_iff.mp G)];exact k
inductive rSortA(K:qF)(xs:AA)(H:Hp)(Q:VK):Prop
 |mk (p:qE) (ys:AA) (rss:LLI) (_:sI) (_:CAG) (_:BYO) (_:ys.length<64) (_:C1Z) (_:∀l zs qP,A4Z->AZN->DIQ->yV->zs.Perm ys->CYA):bL rSortA
def a1G:∀{ys:AA}{us:AI}{rss:LLI},A8W->ADJ rss.length->∃T:E18,T.map (·.1)=us/\T.map (·.2.1)=ys/\T.map (·.2.2)=rss/\∀(i:Nat) t,CP T t->BMN/\CP ys ARY/\oE ADC
 |[],us,rss,r,e=>by
  cases r;cases rss with
  |nil=>exact A51 [] rfl (λi t h=>sM)
  |cons _ _=>rw[CM]
 |MN,us,rss,r,e=>by
  cases r with
  |cons h d =>
   cases rss with
   |nil=>rw[CM]
   |cons r rss =>
    obtain⟨T,e1,e2,b,c⟩:=a1G d D82;refine⟨(_,y,r)::T,B46 e1,B46 e2,B46 b,pS t a⟩;cases i with
    |zero=>cases a;rw[PZ h rfl]
    |succ i=>exact c i t a
def Y4:∀{T:E18},CQ t T BMN->OU ((T.map (·.2.1))) ((T.map (·.1)))
 |[],_=>.nil
 |t::T,h=>.cons A16 (Y4 λu a=>h u wD)
def b2A(K:qF)(hK:AQ:=by rfl):A5X "sorted" rSortA:=by
 subst hK;rw[F2A p ys w hI];obtain⟨its,N,g,r⟩:∃its:AI,C0O/\kK/\EYB D E B B its (DM SD D (CV3 p) B E s):=by
  rw[B9I w]
  rw[F63 I.list pl.isList HK]
  rw[F63 I.tuple pl A80]
 rw[CH3 N.length (a5N I hI N) W (a1G N HP)];refine a4u r TT hw (~~~b9G F hl) λh1 h' os c k1 k2 e hp R=>?_;rw[CG2 j M W.symm O (t':=s.toks)];rw[CGK C j L (by
  rw[D45 (List.mem_iff_getElem?.mp (M.mem_iff.mp L)) U a0 U Z its W]
  rw[CHG l S P Z U P P])]
 have A:(j.map (·.2.1)).Perm ys:=by rw[A2V t2 M.map _]
 rw[CF8 hv ((j.map (·.2.1))) L C L]
 have Y:=BF O.laid h' h' a h1.objs.size (o:=BQ ((j.map (·.2.1)))) (t':=s.toks) k2 BO ⟨AJ A.length_eq g,os,c,hv,e⟩;refine AG7 h1.objs.size Y (C38 ((j.map (·.2.2))) O.hok.fresh DW9 (xY t3 M.map _) ?_ A)
 .rw[B1I m];cases e2:j[i]? with
  |none=>rw[BAJ]
  |some t =>
   rw[BAJ];rw[CEV C]
 .rw[CGX R R.imp_of_mem hx z];rw[CBG (A6N C) C z z]
def b0p(K:qF){e:Expr}{t:TA}{p pos:Pos}(f:BXM)(g:BYS)(c:sA)(b:AQ:=by rfl)(d:A1L:=by rfl)(a:A15:=by rfl):CI (AD3 "sorted" UP) (AS9 rSortA):=(BM4 b2A a3N)
noncomputable def DRaw(h:Heap)(d:qE)(es:zZ)(ep:Nat):Prop:=∃ob:Obj,UV d ob/\ob.ExactDict/\ob.data=B92
def DRaw.typ(x:A9I):BXY d "dict":=by
 obtain⟨a,e1,e2,_⟩:=x;rw[AX a e1 e2.1]
def DRaw.lt(x:B6A):d<h.objs.size:=by
 obtain⟨a,e1,_⟩:=x;exact Heap.lt_size e1
def DRaw.to{h':Heap}(x:B6A)(k:∀a,UV d a->BIN d a):ART h':=by
 rw[MB a e1 q x a (k _ e1) q]
section
variable {it:qE}
def b6O{Q:qH}(b:AM6)(D:A9I)
  (q:DHW "dict_keyiterator" #[iI,ABX 0,ABX es.size,ABX ep]):C2S d:=by
 rw[CE6 c a D];rw[BW0 ty PySem.F.slot_dict_iter (nX PySem.F.slot_dict_iter ty PySem.F.entry_dict_iter ?body PySem.F.args_dict_iter_1)]
 case body =>
  rw[A7S Builtin.«dict.__iter__» Builtin.Dict.dictSlotNone (AC8 wpAny_notOrdered_dict ty)];rw[AOB (Builtin.Dict.showsAll d)];rw[EY Builtin.Dict.showsAll (BA (λz=>by rw[iX b]))];rw[E66 (BL6 (EIE wpAny_bind (wpAny_dictEpoch e1 a ?_))) (mF "dict_keyiterator" _ AHO PySem.F.slot_dict_keyiterator_next.lookup ?_)]
def b6P{Q:AKF}(I:EGW)(D:A9I)(hi:D7J)
  (q:B7T (EX7 h'.IsKeyIter) (Q (some (BYC).key) UI)):B37:=by
 rw[EC h b g a id I];rw[BB4 f D];rw[F3B]
 case body =>
  rw[DTH]
  rw[BBP]
  rw[BI (wpAny_fieldsOf b a ?_)];rw[F5E f f (ESP=some BYC) Array.getElem?_eq_getElem]
  rw[BBP]
  rw[BI (wpAny_isOneOf_keyiter I.typeIs ?_)];rw[AOB (setField jC 1 (rawInt CP2))];have e:EX7 (s.heap.update it D3C).IsKeyIter :=
   KS (AAF b a) (IP Obj.cls_mapFields .. g) (by rw[Obj.data_mapFields a];simp[rawInt])
  rw[jE (E1J a (ADO wpAny_holding)) (wpAny_isOneOf_keyiter (s:=KQ (BKF it D3C)) e.typeIs ?_)];exact AI4 (CD (zN (q _ e AL7)))
def c2c{Q:AKF}(h:OG)(I:EGW)(D:A9I)(hi:es.size<=i)
  (q:E6R):B37:=by
 rw[EC k f j g id I];rw[BB4 e D];rw[F3B]
 case body =>
  rw[DTH]
  rw[BBP]
  rw[gX wpAny_fieldsOf f g];rw[F5E e e (KY (ESP)) Array.getElem?_eq_none]
  rw[BBP]
  rw[AOB (setField jC 0 .none)];rw[C2P f g AL];rw[AOB CEY];rw[F1L]
def b4w(m:OG)(J d:qE)(f:d≠J)(es:zZ)(ep:Nat) :
  EY5 d CD1 (D2H h.IsKeyIter J) B6A where
 sub:=λb c=>A82 (List.mem_singleton.mp c)
 frame:=zL g ⟨QB (aY).at (g J List.mem_cons_self o e),QB (aX).to (g d B2V o e)⟩
 item:=EZU a (b6P aY aX hi λh' k j=>B9D (a _ h' s.toks (XO BYC (IN hi)) ⟨k,QB (aX).to (j.extBut d o f e)⟩) c j.extBut c)
 done:=λs Q E st a=>c2c m aY aX BO λh' l=>B9D (a h' s.toks) c l c
 self:=λ_ _ _ _ st a=>wpAny_pyIter_keyiter aY a
def b3i(c:AM6)(es:zZ)(ep:Nat):dI KdlSrc "dict" d d es.size CD1 (λh=>B6A) where
 type:=DOL
 there:=ECA
 keep:=RK D b (QB D.to (b d HK o e))
 notList:=AG
 notTuple:=AG
 hint:=EPK kdl_hint_dict
 iter:=RK a D (EVA (b6O c D q) (b4w a _ d DIP es ep))
#where
def a0U{x:qB}{Q:qH}(g:D3V t l l vs (EEQ A.in1 t))
  (T:A9P) (hw:AND) (q:B5R)
  (h:∀(h1 h':Heap) (os:AI) (c tk:Nat),F28 (B1X h1.objs.size ZU)) :
  EET:=by
 rw[F72 (D6K λh1 tk k1=>?_) G G];have u:=D6U;rw[F4A C (by
  rw[jQ hi (List.mem_iff_getElem?.mp C)];rw[F5T])]
 rw[F4G CWL CWL u B z (ELQ tk k1 AYX z j (B.imp_of_mem (AXP D F k)))]
 rw[ET1]
 .rw[<-d _ (j.mem_iff.mp D),<-DO2];exact k
noncomputable def IK(rss:LLI):BDA Key:=AVA (BN3 r.map)
inductive rSortD(xs:AA)(H:Hp)(Q:VK):Prop
 |mk (d:qE) (qL:YD) (rss:LLI) (_:DDW) (_:CBV) (_:C5Q) (_:qL.length<64) (_:C1Z) (_:ERP DIQ):fQ rSortD
def b3w{H:Hp}:∀{qL:YD}{xs:ANS}{rss:LLI},A7K->C5Q->AB1 (AEC (vQ A3A))/\xs.length=rss.length:=by
 intro qL xs rss r e;induction r generalizing rss with
 |nil =>
  cases rss with
  |nil=>rw[AY (EW (λi v z=>AC2 z)) rfl]
  |cons _ _=>rw[CM]
 |@cons p q ps qs h _ c =>
  cases rss with
  |nil=>rw[CM]
  |cons r rss =>
   rw[ANG]
   rw[QC (c e2)];rw[DU ⟨by rw[List.length_map,List.length_cons,List.length_cons,h2],pS v b⟩ (pX List.length_cons List.length_cons h2)];cases i with
   |zero =>
    cases b;refine A51 r q.2.1 ?_;have a:=YB;have e1:CU=r.map Sum.inl:=e1;rw[jP e1 List.map_map a a]
   |succ i=>exact h1.2 i v b
def a1H{α:Type}(f:α->qE):∀xs:DI,OU (DI7 V.ref) (DI7 Value.ref)
 |[]=>.nil
 |IF=>.cons rfl (a1H f xs)
def b2z(hc:EH):DD8 rSortD:=by
 rw[F2A d qL hd hk];obtain⟨Y,z,j,kt,ob,es,ep,e1,e2,e3,P,R⟩:=DO4;obtain⟨hI,U⟩:=b3w kt hk;rw[AJO n j.length (Paired.length kt)];rw[BAY l j.length P]
 have D:A9I:=⟨ob,e1,e2,e3⟩;have M:OU (CY6 j.map) B8I:=a1H E94 j;have w:EH4 N C C B8I d C N:=λN C k=>by
  rw[F2U (b3i z es ep) (b8x Y n l) m B8I (by
   rw[CGO j.length]
   .rw[CF0 m.1 l]
    rw[kI he J (m.2 i BYD BYI)];rw[HC g DHB Array.getElem?_toList he]
    rw[P,List.getElem?_map,aG]at g;injection g with g
    rw[CEA J g]
   rw[CF5 m.1 l])]
  rw[ESR]
 rw[CH3 M.length (a5N I hI M) t1 (a1G M HP)];refine a0U w TT hw (LG (b9G F n)) (F6J W);rw[CG2 p L t1.symm O (t':=tk)];rw[CGK B p G (by
  rw[F1J L.mem_iff.mp G a0 R B8I]
  rw[CHG r' Z S R r3 S S])]
 have K:CC (UG ((p.map (·.2.1)))):=by
  rw[EUB E L.map E E];exact b8x Y n E
 rw[CF8 J ((p.map (·.2.1))) G B G]
 rw[F13 O.laid ((p.map (·.2.1))) K J (C38 ((p.map (·.2.2))) O.hok.fresh (CYF r) (xY t3 L.map _) ?_)]
 .rw[B1I r];cases e2:p[i]? with
  |none=>rw[AW e2 r r]
  |some t =>
   rw[AW e2 r r];rw[CEV B]
 .rw[CGX W W.imp_of_mem hx A];rw[CBG (A6N B) B A A]
#where
section
variable {X:Cx}
#where
section
open PySem.W
section
variable {prog:qG}{w:World}{A:Around}{E:qH}{s:qC}{d:qE}{ep:Nat}{es:zZ}
def c2b{Q:qH}(b:AM6)(D:A9I)(hz:BH es.size<WX)
  (q:Q (.int es.size gN) (A27 (gN+1))):EI (A4C "len" (WI d)):=by
 rw[D01 kind_len plain_len entry_len args_len1];rw[CE6 c a D];rw[xZ Builtin.«len» (BMJ (oneArg "len" _))];refine wpAny_bind (m:=callSpecial? iI (Str.ofString "__len__")) (BMR (DK "__len__") ty PySem.F.slot_dict_len PySem.F.slot_dict_len ty PySem.F.entry_dict_len PySem.F.args_dict_len_1)
 case body =>
  rw[LW (dictSize d>>=λn=>_)];unfold dictSize;rw[OR wpAny_bind (EIE wpAny_pure ?_)];rw[LW (Builtin.Dict.pendingCount d>>=λn=>_)];rw[BI (wpAny_pendingCount_other b (wpAny_ret_mkInt ?_))];rw[tN _ _ dG];rw[BZE (BXC+BKV) (BH es.size)];rw[BI (nP wpAny_holding DHD)];rw[LW (jJ (BXC<0) _)];rw[BA COX];rw[LW (jJ (BUR BXC) _)];rw[BJ (BA (BS 4879956384879447 hz)) wpAny_bind (nP wpAny_mkInt (CD q))]
#where
inductive rLenT(xs:AA)(H:Hp)(Q:VK):Prop
 |mk (a:qE) (qL:YD) (_:mY CUM) (_:A1O) (_:RA qL.length):fQ rLenT
section
variable {X:Cx}
def b5L:B4X rLenT:=by
 rw[QA p r];rw[RC a qL rfl j q];rw[VL n r.one n];obtain⟨k,b,f,l,m,es,ep,e1,e2,g,i,o⟩:=BNH j;rw[AJO d f.length (Paired.length l)];rw[BAY c f.length i]
 have e:=k;rw[sizeLine_eq]at e;refine c2b b ⟨m,e1,e2,g⟩ AF ?_;rw[c,<-d];rw[EO (BD qL.length) H UA OZ q]
variable {a b c e o i value:Expr}{es rest:BN}{ta tb tc te to td ty tv:TE}{t:TA}{pos p qN qM p2 pos' tpos:Pos}
def c3L(d:B36)(f:B3Z)(b:sA)(c:A1L:=by rfl)(a:A15:=by rfl):DNB rLenT:=B0M G1 b5L a8Q
def c0n(f:BXM)(g:BYS)(b:sA)(c:EH:=by rfl)(d:A1L:=by rfl)(a:A15:=by rfl):AZV "sorted" rSortD:=(E8F b2z a3N)
def b3D:EFI b6r:=⟨b7t⟩
def c9p(c:HD)(hi:ANJ)(b:sG)(a:DUP):CI (D2W .In) DWS:=CG4 c6k b7z
def c7a(c:HD)(hi:ANJ)(b:sG)(a:DUP):EK1 .In c5B:=CG4 b6U b7z
def b5g(c:HD)(hi:ANJ)(b:sG)(a:ACN .NotIn o):EK1 .NotIn b2V:=CG4 b6U b4E
def a1O(c:HD)(a:sG)(hi:ANJ)(d:C7T)(b:DLT:=by rfl):AI8 JS BQX EA6:=⟨c2j AX3 a.h hi.h d.h b⟩
def D6(K:qF){f:Str}(c:APM e)(a:AQ:=by rfl)(b:CFV:=by rfl):EP1 c8m ta:=by
 subst a;exact⟨c6j c.h b⟩
def J0(K:qF){f:Str}(b:A8O)(d:C7T)(a:AQ:=by rfl)(c:DLS:=by rfl):EFW BQ4 c8u f:=by
 rw[EF7 c5V]
#where
structure MethOk(P:qG)(w:World)(K:qF)(mg:AZ)(base:Heap)(C:qE)(m:Str)(k:Nat)(ps:AB)(sp:Sp):Prop where
 ex:CDW CX0
structure MethAt(K:qF)(C:qE)(m qual:Str)(st:Stmt)(ps:AB):Prop where
 ex:∃f fd,BML m/\Fun K m qual st f fd/\A3Z
structure MakeOk(P:qG)(w:World)(K:qF)(mg:AZ)(base:Heap)(x:Str)(C:qE)(k:Nat)(ps:AB)(sp:Sp):Prop where
 ex:EBJ CX0
section
variable {P:qG}{w:World}{K:qF}{mg:AZ}{base:Heap}{C:qE}{m qual:Str}{st:Stmt}{N ps:AB}{k:Nat}{sp:Sp}
def MethAt.fnJ(F:C77)(S:lG)(len:bM)
  (b:A1U qual (WP ->
   DVI)):A25 MethOk m BZ ps sp:=by
 rw[xA c F.ex];rw[EO f fd h1 c (E7D h2.okJ)]
def MethOk.make{x:Str}(O:CDQ)(d:yY)(c:B6Y)(b:C4U):EPA sp:=by
 rw[F37]
#where
section
variable {X:Cx}{C:qE}{m x:Str}{k:Nat}{ps:AB}{sp:Sp}{o e:Expr}{es:BN}{ta:TE}{t:TA}{pos qN p:Pos}
def a0g{pl:kU}(O:DS7)(c:lC)(j:fF)(i:A8O)(h:EQ)
  (b:CG:=by rfl) (a:GG:=by rfl)
  (l:LQ B41=(APR>>=λd=>CFZ [d] (getMethod d m pl) f f DIN):=by rfl) :
  A2S ASH (E2Z t):=by
 rw[xA g O.ex];exact⟨CF7 b3n i.h g j h2 .nil a6U h.h b a l⟩
def a4F{pl:kU}(O:DS7)(c:lC)(e:fF)(d:A8O)
  (g:LQ B8F=(APR>>=λa=>CFZ KJ (getMethod a m pl) f f C30):=by rfl) :
  CI B8F (E2Z a0X):=by
 rw[xA b O.ex];exact⟨CF7 b7o d.h b e h2 .nil a6U g⟩
def c0q(O:DYE)(j:A12)(i:MM)(g:EQ)(a:GH:=by decide)
  (h:CG:=by rfl) (b:GG:=by rfl) :
  A2S nC (EVN t):=by
 rw[AOT c h1 h2 d];exact⟨c2D h1 d j i c h2 .nil a6U g.h a h b⟩
def c3P(O:DYE)(e:A12)(d:MM)(a:GH:=by decide) :
  CI DL9 (EVN a0X):=by
 rw[AOT b h1 h2 c];exact⟨b7p h1 c e d b h2 .nil a6U a⟩
#where
#where
section
variable {H:Hp}
def a5C{K:qF}{src:OJ}{σ caps:St}{Q:VK}{a:qE}{vs:AA}{rss:LLI}{l:TT}(t:A40 qI)(hl:AYB)(b:E9R)(hI:TU)(d:bJ)
  (j:EVT k k t (l AG5 H1 k)) (hd:∀H1 p m,PF->AQR->Its H1 m (rss.filter t)->DB9 m):CompW src DD9 l BZZ σ Q AM4 H:=by
 refine R1 (xs:=vs) AF (eQ (Its H' ys (mE rss.take i t))) (ACC (BM Its.nil)) (OB ys ⟨BJV,AJ YB (Nat.le_trans VH nN)⟩) ?_ ?_
 .rw[AVJ H' s hy];rw[EC r n g c hI.mem hx];rw[A6C EKE d (j x r H' _ n (c.same s) s λH2 f=>?_)];rw[List.take_add_one,g];cases e:t r with
  |true=>exact SI DA8 (by simpa[e]using DSV f ((c.same s).same f))
  |false=>rw[AY DA8 (BN8 e (hy.same f))]
 .rintro ys H' ⟨s,hy⟩ p hp;rw[C50];exact hd H' p ys s hp hy
noncomputable def Prs(H:Hp)(ps:AA)(f:B2X)(js:RU):Prop:=ps.length=js.length/\GP i Nat q V (CP ps q) (∃(j:Nat) (b:qE) (v:V),CP js j/\LR q b/\DJY/\EV4)
def Prs.same{H H':Hp}{ps:AA}{f:B2X}{a:RU}(h:EK9 H)(s:BG):EK9 H' :=
 (ARC (PP q (CG6 j b v (uV q) ⟨j,b,v,e1,e2,D9D,e4.same s⟩)))
def Prs.nil{f:B2X}:Prs H [] f []:=EW (PP q BP3)
def Prs.snoc{ps:AA}{f:B2X}{c:RU}{j:Nat}{b:qE}{v:V}(h:Prs H ps f c)(d:DJY)(g:EV4):Prs H (ps++[FT]) f (c++[j]):=by
 rw[CEH DWH (PP q ?_) ps.length]
 .rw[BLR];obtain⟨k,b',l,e1,e2⟩:=uV q;rw[EO k b' l CQK e2]
 .rw[C3G];have a:DG5=0:=by
   rcases Nat.eq_zero_or_pos DG5 with z|z
   rw[OD]
   .rw[HM (BVF (by simp;rw[ED 0x6ca87428612c29990c9d322d15e z]))]
  rw[HM a];exact⟨j,b,v,DZE a,rfl,d,g⟩
section
variable {X:Cx}{k:Nat}{ps:AB}{sp:Sp}{x y:Str}{p pos qM pos' ip sp':Pos}{e:Expr}{es:BN}{t:TA}{i:Nat}{z:Int}{jj:Nat}
#where
#where
universe L2
section
open PySem PyProof.Rows
#where
namespace L2
open PySem PySem.Spec PyProof.Rows
section
variable {X:Cx}
variable {o e:Expr}{es:BN}{to:TE}{t:TA}{pos qN qM:Pos}
#where
universe L2
namespace L2
variable {α:Type}
def c9n{us:DI}(h:us.length=0):us=[]:=D79
def c6T{us:DI}(h:us.length=1):∃a,us=[a]:=by
 cases us with
 |nil=>cases h
 |cons a us=>rw[AY a (LZ (APC c9n))]
def c6S{us:DI}(h:B13 2):∃a b,us=bS:=by
 cases us with
 |nil=>cases h
 |cons a us=>rw[RP b (APC c6T)];rw[AX a b BYY]
def c6R{us:DI}(h:B13 3):∃a b c,us=[a,b,c]:=by
 cases us with
 |nil=>cases h
 |cons a us=>obtain⟨b,c,e⟩:=APC c6S;rw[FJ a b c BYY]
def c8Q{us:DI}(h:B13 4):∃a b c d,us=[a,b,c,d]:=by
 cases us with
 |nil=>cases h
 |cons a us=>obtain⟨b,c,d,e⟩:=APC c6R;rw[EO a b c d BYY]
def c9m{us:DI}(h:B13 5):∃a b c d e,us=[a,b,c,d,e]:=by
 cases us with
 |nil=>cases h
 |cons a us=>rw[uK b c e q (APC c8Q)];rw[ID a b c d e (LZ q)]
section
open PySem PySem.Spec PyProof.Rows PySem.W
noncomputable abbrev FnL(K:qF)(f:qE)(nm qn:Str)(st:Stmt)(oc:qB)(od:EN)(sl:YM)(kV dc pm:qB)(an:EN)(cd ct:qB):Prop:=BCJ (PySem.W.fnOf nm qn ASW uS uF .none kV dc pm an cd ct) sl
variable {K:qF}{h:Heap}{mg:AZ}{x qn:Str}{st:Stmt}{f:qE}{od an:EN}{sl:YM}{oc kV dc pm cd ct:qB}{C:qE}{m:Str}
def c8X(X:TN)(G:AZE)(a:CGC)(l:EDW)(c:DR8)(k:B5F){ps:AB}
  (e:D3Z EA7):AAJ:=(ENK (mg_of X G a))
def c8M(a:E6A)(i:DET)(l:EDX)(c:DR9)(k:B5F){ps:AB}
  (e:EY6):DNO:=(ENK ⟨a,i,k⟩)
#where
section
open PySem PySem.Spec PyProof.Rows PySem.W
variable {K:qF}{h:Heap}{mg:AZ}{x nm qn:Str}{C N:qE}{bs bm sub bmB above:AI}{hd ab:Bool}{sn:AB}{col:bB}{dd:EN}{k0 k1 k2 k3 k5:LS}{qO:String}
def b7A(X:TN)(b:yY)(c:ENV)(tx:gQ tailIn bmB bm)(ok:U3 nsOkIn N)(a:AAR nsIn N "__init__"):BTT h :=
 ⟨b,bm,N,nm,qn,bs,hd,sn,sub,ab,col,dd,k0,k1,k2,k3,k5,_,B1Q c,.of_isNs (isNs_of_in X ok),D5J ok a,D7F tx⟩
def c4k(b:ENV)(a:yR):DMU :=
 F7P N qO b a RE
#where
inductive Ex1{α0:Type}(p:JN α0):Prop
 |mk (a0:α0) (h:p a0):Ex1 p
inductive Ex2{α0 α1:Type}(p:FC α0 α1):Prop
 |mk (a0:α0) (a1:α1) (h:p a0 a1):Ex2 p
inductive Ex3{α0 α1 α2:Type}(p:α0->FC α1 α2):Prop
 |mk (a0:α0) (a1:α1) (a2:α2) (h:p a0 a1 a2):Ex3 p
inductive Ex4{α0 α1 α2 α3:Type}(p:α0->α1->FC α2 α3):Prop
 |mk (a0:α0) (a1:α1) (a2:α2) (a3:α3) (h:CG8 p):Ex4 p
inductive Ex5{α0 α1 α2 α3 α4:Type}(p:α0->α1->α2->FC α3 α4):Prop
 |mk (a0:α0) (a1:α1) (a2:α2) (a3:α3) (a4:α4) (h:p a0 a1 a2 a3 a4):Ex5 p
inductive An3(a0 a1 a2:Prop):Prop
 |mk (h0:a0) (h1:a1) (h2:a2):An3 a0 a1 a2
inductive An5(a0 a1 a2 a3 a4:Prop):Prop
 |mk (h0:a0) (h1:a1) (h2:a2) (h3:a3) (h4:a4):An5 a0 a1 a2 a3 a4
inductive An6(a0 a1 a2 a3 a4 a5:Prop):Prop
 |mk (h0:a0) (h1:a1) (h2:a2) (h3:a3) (h4:a4) (h5:a5):An6 a0 a1 a2 a3 a4 a5
inductive An9(a0 a1 a2 a3 a4 a5 a6 a7 a8:Prop):Prop
 |mk (h0:a0) (h1:a1) (h2:a2) (h3:a3) (h4:a4) (h5:a5) (h6:a6) (h7:a7) (h8:a8):CG8 An9 a4 a5 a6 a7 a8
inductive An10(a0 a1 a2 a3 a4 a5 a6 a7 a8 a9:Prop):Prop
 |mk (h0:a0) (h1:a1) (h2:a2) (h3:a3) (h4:a4) (h5:a5) (h6:a6) (h7:a7) (h8:a8) (h9:a9):CG8 An10 a4 a5 a6 a7 a8 a9
universe L2
namespace L2
variable {i j k mask:Nat}{owner:A00}{t:SetTable}{xs:KL}{α:Type}
namespace Tab
open PySem
noncomputable def gI:DF8
 |0,x=>x
 |CB,x=>5*ANU+1
noncomputable def gS:B2W
 |0=>0
 |CB=>5*gS n+1
def c5h:∀n x,gI n x=C7K*x+gS n
 |0,x=>xX gI gS
 |CB,x=>by
  rw[gI,c5h n x,gS,Nat.pow_succ,Nat.mul_add,<-Nat.mul_assoc,Nat.mul_comm 5 C7K];omega
def b3L:∀n,4*gS n+1=C7K
 |0=>rfl
 |CB=>by
  have:=b3L n;rw[DE0 gS]
def a5T:∀k,∃u,5 ^ (KH)=EEZ
 |0=>NM 0
 |BZ=>by
  rw[CB8];rw[IR (u+DZ0*AX5)];rw[Nat.pow_succ 2 k,Nat.pow_mul,h,Nat.pow_two];have e1:2 ^ (BZ+2)=8*KH:=by rw[DE0 Nat.pow_add]
  rw[CHA]
  rw[EBB]
  grind
def c7v(k:Nat):∃u,gS KH=DZ0:=by
 rw[CB8];rw[IR u];have:=b3L KH;rw[CHA]
 rw[h,e2,Nat.mul_assoc]at this;omega
def c4d(k y:Nat):gI KH y % A78=(y+KH) % A78:=by
 rw[CB8];obtain⟨v,h2⟩:=c7v k;rw[c5h,h,h2];have e:(EEZ)*y+KH*(2*v+1)=(y+KH)+A78*(2*AX5*y+v):=by
  rw[EQE]
  rw[CHA]
  rw[EBB]
  grind
 rw[e,Nat.add_mul_mod_self_left]
noncomputable def fI(M:Nat):DF8
 |0,x=>x
 |CB,x=>(fI M n x*5+1) % M
def c0K(M:Nat)(x:Nat)(a:x<M):∀n,fI M n x=ANU % M
 |0=>(ZJ Nat.mod_eq_of_lt a)
 |CB=>by
  rw[fI,c0K M x a n,gI,Nat.mul_comm,Nat.add_mod,Nat.mul_mod,Nat.mod_mod,<-Nat.mul_mod,<-Nat.add_mod]
def c0F(m:Nat):∀n x,gI (n+m) x=gI n (gI m x)
 |0,x=>ZW Nat.zero_add
 |CB,x=>by rw[Nat.add_right_comm,gI,c0F m n x,gI]
def c0E:∀(k x s:Nat),∃n,n<KH/\ANU % KH=s % KH
 |0,x,s=>⟨0,AG,pX Nat.pow_zero Nat.mod_one Nat.mod_one⟩
 |BZ,x,s=>by
  obtain⟨n,l,h⟩:=c0E k x s;rw[EQE]
  rw[E6N KH];rw[CS a (ANU % A78) (s % A78)]
  .rw[AX n AF a]
  .rw[DV (KH+n) AF ?_];rw[c0F,c4d];generalize ANU=y at *;rw[e1]at a⊢;generalize KH=M at *;rw[AD f (Nat.mod_add_div y A57) g (Nat.mod_add_div s A57)];rw[AD i (Nat.mod_lt y DJO) j (Nat.mod_lt s DJO)];have b:y % M=DZG % M:=ESY y;have c:s % M=DNU % M:=ESY s;rw[Nat.add_mod,Nat.mod_eq_of_lt (A6H (M<A57))];generalize DZG=p at *;generalize DNU=q at *;rw[b,c]at h;have d:p % M=if p<M then p else p-M:=by
    split
    rw[E1U]
    rw[EKM]
   have e:q % M=if q<M then q else q-M:=by
    split
    rw[E1U]
    rw[EKM]
   rw[d,e]at h;split at h<;>split at h
   .omega
   .rw[MW D7Q]
   .rw[show p+M=p-M+2*M by omega,Nat.add_mod_right,D7Q];omega
   .omega
noncomputable abbrev Pr:=SetTable.Probe
noncomputable def adv(mask:Nat)(p:Pr):Pr :=
 if p.more > 0 then {p with j:=p.j+1,more:=p.more-1} else
 {p with j:=BAQ,more:=AZM BAQ-BAQ,i:=BAQ,perturb:=(ASY p.i p.perturb).2}
def c7N(t:SetTable)(p:Pr):t.advance p=BR9:=rfl
noncomputable def E9(mask:Nat)(p:Pr):QO Pr
 |0=>p
 |CB=>adv mask (B89 n)
def N9(mask:Nat)(p:Pr):∀n,B89 CB=OW E9 (adv mask p) n
 |0=>rfl
 |CB=>SH E9 (N9 mask p n)
def a2D(mask:Nat)(p:Pr)(m:Nat):∀n,B89 (m+n)=OW E9 (B89 m) n
 |0=>rfl
 |CB=>DSH E9 (a2D mask p m n)
def a3g(mask:Nat)(p:Pr):∀n,AUB dummy=p.dummy
 |0=>rfl
 |CB=>by
  rw[E9,<-a3g mask p n];unfold adv;split<;>rfl
noncomputable def a3s(mask i pt:Nat):Pr:=F42 i iV
noncomputable def st0(mask:Nat)(h:Int):Pr:=a3s mask dQ (SetTable.bits h)
def a3J(mask i pt:Nat):∀c,c<=iV->B7S c=F42 (i+c) (iV-c)
 |0,_=>rfl
 |c+1,h=>by
  rw[E9,B0O c (AKE 0x2a496af476bacbb87d8aae8cd63137)];rw[EY adv (DF (AJ8 (iV-c > 0) 0x4fe2023c5e365674345e8c47a2b21fbf8186ef80894deb137 h))];simp only[SetTable.Probe.mk.injEq,and_true];omega
def c1W(mask i:Nat):iV<=9:=by
 rw[AO4]
def a9W(mask i pt:Nat):B7S A7Z=EEX:=by
 rw[E9,a3J mask i pt _ (Nat.le_refl _)];rw[A4T adv (MV (by show ¬iV-(iV) > 0;exact lq 0x2aab65e05e51d7579805b764e2151c8f915e))]
noncomputable def U1(mask:Nat)(i pt:Nat):QO (Nat×Nat)
 |0=>(i,pt)
 |BZ=>ASY A9Q C82
def b6H(mask i pt:Nat):∀k,∃n,n<=10*k/\B7S n=OW a3s A9Q C82
 |0=>XO 0 BO
 |BZ=>by
  obtain⟨n,h1,h2⟩:=DEW b6H;have:=c1W mask A9Q;rw[DV (n+(AZM A9Q-A9Q+1)) (A4I 0x2042fd78d207a0f11815eaa156f2d702f42836cf8015ea8 this) ?_];rw[a2D,h2,a9W];rfl
def b6G(mask i pt:Nat):∀k,C82=pt / 32 ^ k
 |0=>IN U1
 |BZ=>by
  rw[U1,Nat.pow_succ,<-Nat.div_div_eq_div_mul,<-DEW b6G];rfl
def a5d(mask i pt a:Nat):∀b,AQX (a+b)=U1 mask (ASV a) (AQX a).2 b
 |0=>rfl
 |b+1=>DSH U1 (a5d mask i pt a b)
def a9z(mask i:Nat):∀k,U1 mask i 0 k=(EK7,0)
 |0=>rfl
 |BZ=>by
  rw[U1,OW a9z i k];show((EK7*5+1+DZH) % CIS,DZH)=_;rw[Nat.zero_div,Nat.add_zero];rfl
def c4n(h:Int):AQA<bD:=by
 unfold SetTable.bits;rw[AA9 Int.emod_nonneg h (ABM ((BH 2) ^ 64≠0)) (Int.emod_lt_of_pos h (A4M bD))];omega
def c1X(mask i pt:Nat)(hi:DAK):∀k,T2 A9Q
 |0=>hi
 |BZ=>by
  rw[BJ U1 Nat.le_of_lt_succ CS1]
def a9B(c:AA0)(h:Int)(s:Nat)(f:B57):∃r,r<mask+14/\(BAG U1 r).1=s:=by
 rw[AD b (c4n h) hi (c1X mask dQ AQA CZ2 13)];rw[QV a (BAG b6G 13) (Nat.div_eq_of_lt (Nat.lt_of_lt_of_le b AG)) a];obtain⟨n,d,e⟩:=c0E k (BAG U1 13).1 s;rw[DV (13+n) AF ?_];rw[<-c]at e;rw[a5d,a,a9z];show iF fI=s;rw[FK (AH c0K AF) e Nat.mod_eq_of_lt AF]
noncomputable def pos(mask:Nat)(h:Int)(n:Nat):Nat:=BHQ E3O n
def b7g(a:AA0)(h:Int)(s:Nat)(b:B57):∃n,n<10*BH9 mask/\RJ=s:=by
 obtain⟨r,d,e⟩:=a9B a h s b;obtain⟨n,c,e2⟩:=BAG b6H r;rw[DV n (by rw[DMA]) ?_];unfold pos st0;rw[e2,<-e];rfl
def a6h(xs:KL)(j:Nat)(n:EY3):∀(fuel lo hi:Nat),hi-lo<=fuel->lo<=hi->BHA hi->(∀i,i<lo->AF1<j)->(A7J hi A6R CXJ) ->
  EII CHH CHH CHH
 |0,lo,hi,h1,h2,c,k,l=>by
  have:hi=lo:= B6K 0xdafc96140fc4ddd4b2324b39756
  rw[EKU]
 |A7Y,lo,hi,h1,h2,c,k,l=>by
  unfold SetTable.below.go;by_cases h:lo<hi
  .rw[rS];rw[rP o (C58<hi/\lo<=C58)]
   dsimp only;generalize C58=m at o⊢;obtain⟨g,r⟩:=o;have p:xs.getD m j=AFV m:=by
    have:m<xs.size:= E9J
    rw[BUF this]
   rw[p];by_cases f:AFV m<j
   .rw[DF f];refine F21 0x57227860e2f69468309206f3ac64eda92358 r (~~~a8w g) c (AS i d) l;rw[GC i m]
    .rw[AE e f]
    .exact Nat.lt_trans (n i _ (~~~b0e d e) E9J) f
   .rw[BA f];refine F21 0x31ca8dee388ce716f72ee310ea76eada358 g AF (A08 0x6758737691d7 g) k (pS d q);rw[GC i m]
    .rw[BJ e S6 f]
    .rw[XY (n m i (BT 0x5cd65729ee1d25f880d6 d e) q) 0xb56f3deed2297 f]
  .rw[bC];have:hi=lo:= BT 0x5cd6b167161d4ef1abd6 h2 h
   rw[EKU]
noncomputable def Ris(xs:KL):Prop:=EY3
def N1(a:A0F)(j:Nat):EII A1M A1M A1M :=
 ETP (a6h xs j a xs.size) xs.size D55 BUN BO h h
def a3a(h:A6R):CP xs AF1:=xX Array.getD h
def a3e(b:A0F)(h:CP xs j):E1E xs j:=by
 rw[kI c d E2M];have hi:A6R:=yI h;have a:DMV j:=by rw[cY (a3a hi) h];rw[E0C];exact this.symm
 rcases Nat.lt_trichotomy A1M i with z|z|z
 .rw[AD h1 (d _ BO (~~~b8m hi z)) h2 (AM b z hi)];exact lq 0x48ca70cacc226b3b8aabd0459 a h1 h2
 rw[OD]
 .rw[XY (c i z) 0x350cf9801e06aa51758 a]
def a3M(a:A0F)(j:Nat):A86 A1M j↔j∈xs:=by
 constructor
 .intro h;exact Array.mem_of_getElem? h
 .intro h;rw[jQ hi (Array.mem_iff_getElem?.mp h)];rw[AE (a3e a hi) hi]
def b3e(a:C79)(hd:C5V)(j:Nat):t.slot j=if iH j then BJD .live j else .empty:=by
 rw[BUG SetTable.slot];by_cases h:iH j
 .rw[rS,if_pos];rw[PQ (DPQ mpr h)]
 .rw[bC,if_neg,hd]
  .rw[if_neg];rw[A6E SetTable.has]
  .intro z;exact h (DPQ mp (BM z))
def a9F{t:SetTable}(i:C79)(hd:C5V)(a:JU)(h:Int):GP fuel Nat p Pr (KY p.dummy) ((∃n,n<fuel/\DIW) ->
  (CET DIW CE0 EYZ (.empty AGH none)) ∨
  ∃n,iH AGH/\a DFA=h/\CQU CE0/\EYZ=some (.candidate AGH DFA (E9 t.mask p CB)))
 |0,p,_,⟨n,g,_⟩=>eB g AFO
 |A7Y,p,c,⟨n,g,f⟩=>by
  rw[EY SetTable.probe.go (b3e i hd)];by_cases b:iH p.j
  .rw[if_pos b];dsimp only;by_cases e:a (ACB p.j)=h
   .right;refine⟨0,b,e,EFZ,?_⟩;rw[if_pos (by simpa using e)];rfl
   .have hn0:n≠0:=λz=>dB f z b;obtain⟨n,rfl⟩:∃k,n=BZ:=⟨LT,BS 0x394440f4347860aa68ed90083da16c6c8c125 hn0⟩;rw[N9]at f;rw[AKO,c7N];have first:∀N,(∀m,m<N->CT8 DUJ DUJ)->∀m,m<N+1->CE0:=λN j m d=>by
     cases m with
     |zero=>rw[AY b e]
     |succ m=>rw[AE N9 (j m (xF b2a))]
    rcases a9F i hd a h fuel BR9 (PU c (a3g t.mask p 1)) ⟨n,~~~b2a g,f⟩with⟨N,h1,h2,h3⟩|⟨N,h1,h2,h3,h4⟩
    .left;rw[FJ (N+1) DMH (first N h2) (AJ N9 h3)]
    .right;rw[EO (N+1) DMH (B20 N9) (first N h3) (KG N9 N9 h4)]
  .rw[if_neg b];left;rw[A3Q 0 b EFZ];show some (SetTable.Met.empty p.j p.dummy)=_;rw[c];rfl
def a1v(xs:A8B)(p:Nat)(x:α)(hp:B7M):BKL xs p x toList=xs.toList.take p++x::xs.toList.drop p:=by
 unfold SetTable.insertAt;simp only[Array.toList_append,Array.toList_push,Array.toList_extract,List.extract_eq_take_drop,List.drop_zero,Nat.sub_zero,List.append_assoc,List.singleton_append];rw[List.take_of_length_le (l:=CVI List.drop) AL]
def ris_list:A0F↔xs.toList.Pairwise (· < ·):=by
 rw[List.pairwise_iff_getElem];unfold Ris;constructor
 .intro h i j hi hj hij;have:=h i j hij (BM hj);simpa[Array.getD,BKC A6R hi,BKC (j<xs.size) hj]using this
 .intro h a b hab hb;have:=h a b (AVM b8M hab hb) (BM hb) hab;simpa[Array.getD,show a<xs.size by exact b8M hab hb,hb]using this
def a7i(h:i<xs.toList.length):DMV xs.toList[i]:=by
 rw[OA h' A6R h]
 rw[BUF h']
def c1z(b:A0F){x:Nat}(h:EJY xs.toList.take):x<j:=by
 rw[oZ a d E2M];rw[C8F];rw[List.length_take]at hi;rw[List.getElem_take,<-a7i];exact a i (~~~b3s hi)
def b3Q(d:A0F){x:Nat}(c:E00)(h:EJY xs.toList.drop):j<x:=by
 rw[kI f b (N1 d j)];rw[OA a YH (List.mem_of_mem_drop h)]
 rw[C8F];rw[List.length_drop]at hi;rw[List.getElem_drop,<-a7i]at a⊢;have:=b (A1M+i) (~~~b8N) (by simp at hi;rw[ED 0x7b1059a48b54dd5c1017 hi]);rw[CA (Nat.lt_or_eq_of_le this)]
 rw[OD]
 rw[HQ (yA a) c]
def c1Y(a:A0F)(c:E00):Ris (SetTable.insertAt xs A1M j):=by
 rw[ris_list,BOF (N1 a j).1];have d:=ris_list.mp a;rw[List.pairwise_append,List.pairwise_cons];rw[DV d.take ⟨λy b=>b3Q a c b,d.drop⟩ (DD x e y b)];have h1:=c1z a e;rw[CA B2C]
 .rw[AE z h1]
 .exact Nat.lt_trans h1 (b3Q a c z)
def a8k{p x:Nat}(hp:B7M):x∈E1W j↔x=j∨YH:=by
 rw[<-Array.mem_toList_iff,DPC,List.mem_append,List.mem_cons,<-Array.mem_toList_iff];constructor
 .rintro(h|h|h)
  .exact bQ List.mem_of_mem_take h
  rw[GE h]
  .exact bQ List.mem_of_mem_drop h
 .rintro(h|h)
  .exact AQG h
  .rw[<-CVI List.take_append_drop]at h;rw[DTM]
   rw[GE z]
   .exact A6V z
def nodup_le{α:Type}[DJH]:F3I
 |[],b,_,_=>IC
 |eW,b,e,h=>by
  rw[F6Q nodup_le]
structure TabOk{α:Type}(t:SetTable)(es:sS):Prop where
 size:t.place.size=es.size
 dum:C5V
 ris:C79
 le:∀j∈t.place,j<=t.mask
 pow:∃k,3<=k/\BV7=KH
 room:B12 es.size
 reach:∀(i j:Nat) (e:lZ α),CP t.place j->BLL->CYX (iH (AEA e.1))
def TabOk.free{es:sS}(h:sX)(x:Int):∃n,n<B95/\A5I (lP x n):=by
 obtain⟨k,_,f⟩:=h.pow;have:∃s,B12 s/\A5I s:=by
  rw[C23 e];have a:∀s,s<BV7->s∈t.place.toList:=λs b=>by
   refine Classical.byContradiction λz=>cL e s AF (λq=>BVG z q)
  have:=nodup_le (List.range BV7) t.place.toList List.nodup_range λs b=>a s (List.mem_range.mp b);rw[List.length_range,Array.length_toList,h.size]at this;rw[LF h.room]
 obtain⟨s,b,g⟩:=this;rw[MB n c d (b7g f x s b) n c (AJ d g)]
def TabOk.first{es:sS}(h:sX)(x:Int):∃N,N<B95/\DIV/\DWK:=by
 rw[ET n b d h.free x];induction n using Nat.strongRecOn with
 |ind n e =>
  rw[XT (BR8 (A5I (AEA x)))]
  .obtain⟨m,a,hm2⟩:=c;exact e m a (BT 0xc184ffd7f5df77b6ea7 b a) hm2
  .exact⟨n,b,d,λm a=>Classical.byContradiction λz=>cL c m a z⟩
def b3K{xs:A8B}{p:Nat}{x:α}(hp:B7M)(i:Nat):(E1W x)[i]?=if i<p then DBC else dS i p WM xs[i-1]?:=by
 rw[D58 DPC];rw[mU h1 p]
 .rw[AYK,List.getElem?_append_left (by rw[DE List.length_take Array.length_toList (lq 0x178fd23718d8ccf916d91d7 hp h1)]),List.getElem?_take_of_lt h1,Array.getElem?_toList]
 .rw[AK5,E0X List.getElem?_append_right Array.length_toList 0x9c8e19205e9fe97 h1,List.length_take,Array.length_toList,D4I hp];rw[CS h2 i p]
  .rw[BX8,h2,Nat.sub_self];rfl
  .rw[BA h2];obtain⟨c,a⟩:∃c,i-p=c+1:=⟨i-p-1,AF⟩;rw[a,List.getElem?_cons_succ,List.getElem?_drop,Array.getElem?_toList];congr 1;rw[ED 0x9f102d013653cc7ee0977e3faf804166ea5c3b902ead64357 a]
def TabOk.add{es:sS}(h:sX){x:Int}{v:α}{N:Nat}(h1:DIV)(h2:DWK)(o:B12 nD)(d:es.size<t.mask) :
  TabOk (AUL nD) (BQJ (CN5 nD) BP9):=by
 have g:=(N1 h.ris nD).1;have hd:(AUL nD).dummies=#[]:=by
  show UM (SetTable.has t.dummies nD=true) _ t.dummies=#[];rw[h.dum,if_neg];rw[A6E SetTable.has]
 have c:A4O<=es.size:=by rw[EX h.size g]
 have f:∀{β:Type}(xs:YQ β) (p:Nat) (y:β),B7M->BKL xs p y size=xs.size+1:=λxs p y w=>by
  rw[<-Array.length_toList,BOF w,List.length_append,List.length_cons,List.length_take,List.length_drop,Array.length_toList];rw[XW 0x6201ae1bcedeba611b1690aebf26c0e60a29d6]
 refine⟨?_,hd,c1Y h.ris h1,B1Y u,h.pow,?_,DP i j e b a⟩
 .show D1C t.place=DXM;rw[MZ f g,DTU,h.size]
 .rcases aP a8k g u with z|z
  .rw[AE z o]
  rw[JR h.le j]
 .show B12 DXM;rw[AE DTU d]
 .change CP ((D3Y)) j at b;change CP ((BQJ A4O BP9)) e at a;rw[b3K g]at b;rw[b3K c]at a;show ER8;have k:∀l,OO t.place l j->OO es l e->ER8:=λl q1 C=>by
   rw[MB n A B (h.reach l j e q1 C) n A (EMT (B m q))]
  rw[mU r A4O]
  .rw[DF r]at b a;exact k i b a
  .rw[BA r]at b a;rw[CS s i A4O]
   .rw[DF s]at b a;cases b;cases a;rw[PZ N (EMT (h2 m q))]
   .rw[BA s]at b a;exact k _ b a
def a6Q(hi:DAK):T2 AQN:=by
 rw[AO4]
def b6h(mask:Nat)(p:Pr)(h:T2 (p.j+p.more)):∀n,T2 (BHQ p n+AUB more)
 |0=>h
 |CB=>by
  have b:=b6h mask p h n;rw[E9];rw[TL adv]
  .dsimp only;omega
  .dsimp only;rw[F2W CC0 CC0 CC0 (by
    rw[AO4])]
   rw[KZ 0x482873b773a2e9541d9b081d7 h2 a]
def a3t(mask:Nat)(h:Int)(n:Nat):T2 RJ:=by
 rw[F2W dQ dQ dQ (by
  rw[AO4])]
 have:=b6h mask E3O (by rw[MJ (T2 (dQ+(AZM dQ-dQ)))]) n;unfold pos;rw[XF 0xd20040647ef3d97]
noncomputable def fr(owner:A00)(j:Nat):Bool:=E0L j
def b3M(mask:Nat)(owner:A00):∀(fuel i pt:Nat),(∃r,r<fuel/\AIL (ASV r)) ->
  CET (AIL (AZT n)) E91 (SetTable.layClean.free mask owner fuel i pt) (AZT n)
 |0,_,_,(DSL _)=>eB h AFO
 |A7Y,i,pt,(DSL c)=>by
  unfold SetTable.layClean.free;have f:i<=AQN:=by
   rw[AO4]
  cases e:AHH (AQN+1-i) find? (λk=>E0L (i+k))with
  |some k =>
   dsimp only;rw[List.find?_range_eq_some]at e;obtain⟨e1,e2,l⟩:=e;have d:=List.mem_range.mp e2;rw[A3Q k ?_ (AJJ a)]
   .rw[AE EBI e1]
   .rw[B0O m (BT 0x40afc388d153e6a49e61fc945354520edbd8 d a)];have:=l m a;rw[A6G fr]
   .rw[EBI]
  |none =>
   dsimp only;rw[List.find?_range_eq_none]at e;have b:∀m,m<A7Z->E91:=λm a=>by
    rw[B0O m (bE 0x4a0046fa5a421d81bf312aeb74cb417)];have:=e m (BT 0x189200d44dfc5f0f6d1290a5215b715edd7 f a);rw[A6G fr]
   cases r with
   |zero =>
    have:=b 0 (VR 592550711181662);rw[cJ (A4E (AZT 0) (ASV 0) rfl) c this this]
   |succ r =>
    have hf':AIL (U1 mask BO2 BOL r).1:=by
     rw[jP Nat.add_comm a5d c c]
    rw[B9H n o (b3M mask owner fuel BO2 BOL ⟨r,~~~b2a h,hf'⟩)];have key:∀m,B7S (A7Z+m)=OW E9 EEX m:=λm=>by
     rw[a2D,a9W]
    refine⟨A7Z+n,BKI key,AJJ a,AJ key o⟩;by_cases g:m<A7Z
    .exact b m g
    .obtain⟨j,rfl⟩:∃j,m=A7Z+j:=⟨m-(iV+1),AF⟩;rw[AE key (h2 j (bE 0x4c93d69981f094e5fd66ab33c73cacd19a458))]
structure Lay(mask:Nat)(owner:A00)(hs:qI):Prop where
 size:C96
 val:∀j q:Nat,AAD->∃h,OO hs q h/\∃n,RJ=j/\AWN C4A
 ex:∀q,q<hs.length->QE j AAD
 uniq:∀j j' q:Nat,AAD->E4X j'->j=j'
def a1w(b:C96)(a:T2 j):AVC j↔∃q,AAD:=by
 have h:D94:= BT 0x288f82733da1795ed7 b a
 unfold fr;rw[Array.getElem?_eq_getElem h,show CZY j=DDS by rw[BUF h]];cases DDS with
 |none=>simp
 |some q=>simp
def Lay.start(mask:Nat):OW Lay (Array.replicate vI none) []:=by
 refine⟨AL,FH j q h,wT q h h,DD j a q h⟩<;>
 .rw[Array.getElem?_replicate]at h;split at h
  .cases h
  .cases h
def Lay.free(z:AA0){d:qI}(L:C6I d)(hl:T2 d.length)(h:Int):CET DLW C4A F3K RJ:=by
 have:∃s,B57/\AIL s:=by
  rw[C23 l];have c:∀s:Nat,B57->∃q,E4X s:=λs d=>by
   rw[<-a1w L.size d];cases e:fr owner s with
   |false=>rfl
   |true=>rw[HI (AE0 s d) l]
  have:=nodup_le (iC vI λj=>(owner.getD j none).getD 0) (B10 d.length) ?_ ?_
  .rw[List.length_map,List.length_range,List.length_range]at this;omega
  .rw[C9D];refine(List.nodup_iff_pairwise_ne.mp List.nodup_range).imp_of_mem λ{a b} v w i e=>i ?_;rw[AJ5 q f (c a (pY (List.mem_range.mp v))) t g (c b (pY (List.mem_range.mp w)))];rw[CBK g1 (owner.getD a none) q f]
   rw[CBK u (owner.getD b none) t g]
   rw[g1,u]at e;change q=t at e;exact L.uniq a b q f (e ▸ g)
  .intro x hx;rw[GQ j y hx];obtain⟨q,f⟩:=c j (pY (List.mem_range.mp y));obtain⟨h',h1,_⟩:=E3Q f;rw[CBK g1 (BEN owner.getD) q f]
   rw[BJ g1 List.mem_range.mpr DAQ]
 obtain⟨s,o,p⟩:=this;obtain⟨r,A,e⟩:=a9B z h s o;exact b3M mask owner _ _ _ ⟨r,by rw[DMA],AST p⟩
def Lay.put{a:qI}(L:Lay mask owner a){h:Int}{n:Nat}(h1:DLW)(h2:AWN C4A):OW Lay BB8 (a++[h]):=by
 have o:RJ<owner.size:=by have:=DWF;rw[AE L.size (lq 157452360662 this)]
 have g:∀q,owner[RJ]?≠BHE q:=λq z=>by
  have:=C9V DWF mpr (A7R z);rw[AW h1 this this]
 have get:∀j:Nat,(BB8)[j]?=AJ7 (j=RJ) a.length owner[j]?:=λj=>by
  rw[Array.getElem?_setIfInBounds];rw[GC RJ j]
  .rw[QH,DF e.symm,DF o]
  .rw[JQ,AKN (e z.symm)]
 have d:(BB8).size=vI:=by rw[Array.size_setIfInBounds,L.size]
 have keep:∀j,T2 j->AVC j->lT fr BB8 j:=λj b e=>by
  rw[a1w d b,get];split
  .exact OZ
  .exact C9V b mp e
 refine⟨d,vD j q,AS q k,DP j i q e e'⟩
 .rw[get]at e;rw[CS c j RJ]
  .rw[HM AKI];rw[EO h (SH A8S Nat.sub_self) n c.symm (E95 (OW a3t h m) (h2 m f))]
  .rw[BYL];obtain⟨h',e1,p,e2,l⟩:=L.val j q e;rw[EO h' (AJ (D4H DAR) e1) p e2 (E95 (OW a3t h' m) (l m f))]
 .rw[CS c q a.length]
  .rw[AY RJ (pX get FU c)]
  .rw[List.length_append,List.length_singleton]at k;obtain⟨j,b⟩:=L.ex q (~~~b0e k c);rw[IR j];rw[get,if_neg]
   .exact b
   .intro z;exact g q (yA b)
 .rw[get]at e e';have lt:∀j:Nat,AAD->q<a.length:=λj z=>by
   obtain⟨_,e1,_⟩:=E3Q z;exact DAR
  rw[CS c j RJ]
  .rw[CS c' i RJ]
   .rw[c,c']
   .rw[AKI]at e;rw[AW D8N e' e];rw[E3E e']
  .rw[CS c' i RJ]
   .rw[BYL];rw[AW (DF c') e' e'];rw[E3E e]
   .rw[BYL];rw[FF D8N e' (L.uniq j i q e e')]
def b0i{mask k:Nat}(b:AA0):∀(rest done:qI) (owner:A00),C6I done->T2 (done.length+rest.length) ->
  ∃a,mM rest.foldl (λqQ h=>do
   let (owner,k) <-qQ
   let j <-SetTable.layClean.free mask owner (SetTable.turns mask) (SetTable.bits h % (mask+1)) (SetTable.bits h)
   pure (owner.setIfInBounds j (some k),k+1)) (owner,done.length)=some (a,ZN done rest)/\Lay mask a (done++rest)
 |[],done,owner,L,_=>⟨owner,AL,BM L⟩
 |A2G h,done,owner,L,d=>by
  rw[List.length_cons]at d;rw[B9H n c (L.free b AF h)];obtain⟨a,e1,e2⟩:=b0i b rest (done++[h]) _ (AGJ L.put) (DJM List.length_singleton);rw[DN ⟨a,?_,AH2 List.append_assoc e2 e2⟩ List.foldl_cons];rw[List.append_assoc]at e1;refine Eq.trans (congrArg (λz=>List.foldl _ z rest) ?_) e1;show(Option.bind F3K λj=>AU (CNB j done.length,done.length+1))=_;rw[c,List.length_append];rfl
def b0j(b:AA0)(a:YQ Int)(hl:T2 a.size):∃owner,SetTable.layClean mask a=some owner/\C6I a.toList:=by
 obtain⟨owner,e1,e2⟩:=b0i b a.toList [] _ (Lay.start mask) B2F;rw[DV owner ?_ e2];unfold SetTable.layClean;rw[<-Array.foldl_toList];exact congrArg (Option.map (·.1)) e1
def b2r{α β:Type}(f:α->qD β):∀l:DI,CQ x l (B1P f x)->(l.filterMap f).map some=l.map f
 |[],_=>rfl
 |oF,h=>by
  rw[AD c (b2r f l λy b=>h y vJ) a A5Z];cases e:f x with
  |none=>rw[SO a a]
  |some y=>rw[List.filterMap_cons_some e,List.map_cons,List.map_cons,c,e]
def b6R(es:A8B):C4K es.size (es[·]?)=es.toList:=by
 have h1:((List.range es.size).filterMap (es[·]?)).map some=iC es.size (es[·]?):=BX b2r λq a=>by
  have:=BVX;simp[this]
 have h2:es.toList.map some=iC es.size (es[·]?):=by
  rw[DY0];simp at h1;simp[h1]
 exact SN List.map_inj_right (vT h BNP) (h1.trans h2.symm)
noncomputable def I0(mask:Nat)(owner:A00):YO Nat Nat:=C4K vI λj=>nF owner.getD j none (j,·)
def W5(b:C96)(j q:Nat):(j,q)∈E82↔AAD:=by
 rw[EY I0 List.mem_filterMap];constructor
 .rw[AFP j' a];have a:=BVX;rw[Option.map_eq_some_iff]at e;rw[AJ4 e1 e2 e];cases e2;rw[Array.getD_eq_getD_getElem?,EAD]at e1;rw[AE EAD (nM some e1)]
 .intro e;have c:D94:=yI e;rw[AX j (List.mem_range.mpr (BT 0x46f5807638284ca0ed7 b c)) (SH Array.getD_eq_getD_getElem? e)]
def b9T(mask:Nat)(owner:A00):(I0 mask owner).Pairwise λa b=>QZ<XD:=by
 rw[xZ I0 (List.Pairwise.filterMap _ (λa b c p d q e=>?_) List.pairwise_lt_range)];rw[Option.map_eq_some_iff]at d e;rw[B1G d];rw[B1G e];exact c
def c3y(D:AA0)(G:3<=k)(es:sS)(hl:T2 es.size)(finger moves:Nat)(led plain:Bool) :
  ∃t' c,SetTable.laid mask finger moves led plain (es.map (·.1))=some (t',c)/\t'.mask=mask/\t'.led=led/\ETD plain:=by
 rw[aM owner L (b0j D (es.map (·.1)) B2F)];refine⟨{mask,place:=DH6,dummies:=#[],finger,led,moves,plain},ADK (((I0 mask owner).map (·.2))),?_,rfl,rfl,rfl,?_⟩
 .rw[A4T SetTable.laid e]
 have y:∀p∈E82,IO<es.size:=λp g=>by
  obtain⟨h,h1,_⟩:=L.val CU IO (CCT g);rw[wB DAQ]
 have v:=b9T mask owner;have nd:((I0 mask owner).map (·.2)).Nodup:=by
  rw[C9D];refine v.imp_of_mem λ{a b} H I x z=>?_;rw[S1 h1 (AGR QZ a.2 mp) H h2 (AGR XD b.2 mp) I];rw[z]at h1;rw[XY (A20 L.uniq h1 h2) 899404274651542 x]
 have f:∀q,q∈BLV I0 mask owner↔q∈B10 es.size:=λq=>by
  rw[List.mem_range];constructor
  .intro t;rw[GQ p g t];exact y p g
  .intro t;obtain⟨j,r⟩:=L.ex q (BM t);rw[C0G (j,q) (AGR j q mpr r) rfl]
 have perm:BIL ((I0 mask owner).map (·.2)).Perm es.size:=(List.perm_ext_iff_of_nodup nd List.nodup_range).mpr f;have o:∀l:RU,(l.toArray.filterMap (es[·]?)).toList=l.filterMap (es[·]?):=λl=>AL
 have d:(((I0 mask owner).map (·.2)).filterMap (es[·]?)).map some=((I0 mask owner).map (·.2)).map (es[·]?):=BX b2r λq t=>by
  have:=List.mem_range.mp (SN f q t);simp[this]
 have u:(((I0 mask owner).map (·.2)).toArray.filterMap (es[·]?)).size=EJM:=by
  rw[AZF d];rw[List.length_map,List.length_map,List.length_map]at this;rw[<-Array.length_toList,o];rw[A7O]
 have s:EJM=es.size:=by
  have:=perm.length_eq;rw[jP List.length_map List.length_range this this]
 rw[IR ⟨?_,rfl,?_,B1Y r,⟨k,G,D⟩,KG u s hl,DP i j e' w C⟩]
 .rw[PQ u]
 .rw[ris_list];show((I0 mask owner).map (·.1)).Pairwise (· < ·);rw[AE List.pairwise_map v]
 .rw[OA r (ELZ j) r]
  rw[GQ p g r];rw[cY (Array.getElem?_eq_some_iff.mp (CCT g)).1 L.size];rw[MJ (T2 CU)]
 .rw[OA w (CP (((I0 mask owner).map (·.1))) j) w]
  rw[<-Array.getElem?_toList,o]at C;rw[List.getElem?_map,Option.map_eq_some_iff]at w;rw[PY p g w];have h1:=congrArg (λl=>BYN) d;simp only[List.getElem?_map,C,g,Option.map_some]at h1;rw[C9P]
  have A:=B1M CCT g;obtain⟨h,q1,n,E,F⟩:=L.val CU IO A;have J:h=e'.1:=by
   rw[Array.getElem?_toList,Array.getElem?_map,<-h1]at q1;injection q1 with q1
   exact q1.symm
  rw[J]at E F;rw[DV n E (AJJ K)];obtain⟨M,B⟩:=C9V (a3t mask _ m) mp (F m K);have:ELZ E4U:=List.mem_map.mpr (FZ (AGR _ M mpr B));show E4U∈DH6;rw[A33]
 .rw[o];refine kJ perm.filterMap _ (List.Perm.of_eq ?_);exact b6R es
def b3f(n:Nat):∀(fuel a:Nat),3<=a->n<2 ^ (a+fuel)->∃b,3<=b/\SetTable.sizeAbove.go n fuel D8C=wK/\n<wK/\(b=a∨DZ3)
 |0,a,c,h=>(EL6 h)
 |A7Y,a,c,h=>by
  unfold SetTable.sizeAbove.go;by_cases d:D8C<=n
  .rw[AKJ,<-Nat.pow_succ];obtain⟨b,e,f,g,i⟩:=b3f n fuel (a+1) (BS 0x66a144d53c8d c) (KG Nat.add_assoc (Nat.add_comm 1) h);refine⟨b,e,f,g,DH ?_⟩;rw[CA i]
   .rw[z,Nat.pow_succ];omega
   rw[OD]
  .rw[BWV];exact EL6 AF
def a2K(n:Nat)(h:n<AEX):∃b,3<=b/\SetTable.sizeAbove n=wK/\n<wK/\(b=3∨DZ3) :=
 b3f n 64 3 BO (Nat.lt_of_lt_of_le h AG)
def b4v(t:SetTable)(es:sS)(a:Nat)(hw:a<AEX)(hl:es.size<a) :
  ∃t' c,t.relaid (es.map (·.1)) a=some (t',c)/\a<=t'.mask/\t'.mask<=2*a+7/\t'.led=t.led/\ETD t.plain:=by
 obtain⟨b,d,e,l,f⟩:=a2K a hw;rw[E6N wK];rw[EY SetTable.relaid e];obtain⟨t',c,h1,h2,g,h,i,j⟩:=BF c3y mask CUX k b AF d es AF t.finger (t.movedTo CUX) t.led t.plain;rw[DN ⟨t',c,h1,SG h2,?_,g,h,i,j⟩ h2];rw[CA f]
 .rw[BJ z lq 0xa2a16c9ecd75dcd5d87cf5d]
 .omega
universe Tab
universe L2
namespace L2
variable {Q:YE}{a:qE}{r:qI}
namespace Tab
open PySem
section
variable {prog:qG}{w:World}{A:Around}{E:qH}{s:qC}
noncomputable abbrev TK(prog:qG)(w:World)(h:Heap)(r:qI)(a:qE):Prop:=IsTupleKey AHI h r a
def TK.keep{h h':Heap}(x:BTE h)(k:DUF):BTE h':=by
 rw[xE its n h1 h2 x];rw[EO o its n (AJD h1) h2]
def items_int{vs:AI}(h:ItemsAre AHI r vs):LH vs (∃i t,v=AUY):=by
 induction h with
 |nil=>intro v b;cases b
 |@cons k v ks vs h1 _ c =>
  intro u a;rcases BFO with e|a
  .rw[WQ t ht Value.isInt_shape h1];rw[AX k t (e.trans ht)]
  .exact c u a
def a9V(e:DRZ)(h:BZM):E30 ofAClassStatement:=by
 rw[F4H d];have c:=items_int hi;rw[iZ ofAClassStatement (wpAny_typeOf f ?_)];dsimp only;rw[xO];rw[kR];rw[A0E];rw[AS1 g hd];dsimp only;rw[NI];rw[ESD c]
 rw[F52 ofAClassStatement]
 rw[ERC]
def c1g(e:DRZ)(h:MK true):E30 hashByValue:=by
 rw[F4H c];have d:=items_int hi;unfold hashByValue;rw[BZJ f F.slot_tuple_hash.lookup];dsimp only;rw[AS1 g hd];rw[NI];rw[LW (forIn c _ _)];rw[ESD d]
 rw[F52 hashByValue]
 rw[ERC]
def b7Z{b:qE}{l:AI}(f:CC4)(hl:CGG l s.heap)(h:BZM):EI (LV searchCouldBeSeen b l):=by
 unfold searchCouldBeSeen;rw[NI];rw[D3L (BM8 c (s'=s/\KY c.1/\CGG rest s.heap)) hl]
 .rw[D32 c hc];obtain⟨a,b',rfl,d⟩:=CY5;have e:CGG rest s'.heap:=λv g=>hr v BO0;rw[BUP]
  .exact wpAny_pure (A3O e)
  .rw[BI (DVX f ?_)];rw[A0E];rw[BI (DVX d ?_)];rw[A0E];rw[BI (a9V f ?_)];rw[A0E];rw[BI (a9V d ?_)];rw[pQ XR (A3O e)]
 .rintro c s' ⟨rfl,hc,_⟩;dsimp only;rw[pQ hc h]
noncomputable def hsh(prog:qG)(w:World)(r:qI):Int:=tupleKeyHash AHI r
noncomputable def ent(prog:qG)(w:World)(x:ADT):BZ6:=(BSF,YX PN)
def M7{α:Type}{t:SetTable}{es:sS}(ok:sX):EK t.fits es.size:=by
 unfold SetTable.fits SetTable.fill;have:=ok.room;simp[ok.size,ok.dum,this]
def c6I{α:Type}{t:SetTable}{es:sS}(ok:sX):HX t.gaveWay:=by
 obtain⟨k,a,b⟩:=ok.pow;obtain⟨c,rfl⟩:∃c,k=c+1:=⟨k-1,bE 0x3f1f0b1fb2fa055ac16d2cb48d⟩;rw[Nat.pow_succ]at b;unfold SetTable.gaveWay;have:t.mask % 2=1:=AF
 rw[this];rfl
def b9U{c:Bool}{m:kU}{X Y:Sem SetFound}{Q:D9A}(b:∀a:YE,a false s->AFX m a)(h:EI Y):EI (UW c (m>>=λz=>UW z X Y) Y):=by
 split
 .rw[BI (b _ ?_)];rw[AE XR h]
 .exact h
def a6O{a b:qE}{r:qI}{o:Obj}{es:AM9}{ep:Nat}{t:SetTable}{xs:kF}{Q:D9A}(V:DG8)(hd:DSF)(ok:sX)
  (G:∀e∈es.toList,∃x∈xs,e=BA7) (O:jW (BA7∈es.toList)) (g:ELL) (T:CC4) (hu:C95) {N:Nat}(Z:N<B95) (j:A5I A3U) (u:BQV N WH)
  (K:r∈cK xs.map->Q (.there none) s) (C:DIX r->MK (.free A3U false)) :
  ∀(fuel d:Nat) (st:qD SetTable.Probe),AGA<fuel->d<=N->st.getD (t.probeStart WH)=CEN->(∀m,m<d->AJ2 i x ADT (YH->CP t.place (AEA WH)->CP es BA7->HZ≠r)) ->
   EI (setSearchFrom a FT WH true fuel st)
 |0,d,st,h,_,_,_=>eB h (VR 592614721759062)
 |A7Y,d,st,hf,l,X,M=>by
  rw[iZ setSearchFrom (wpAny_setState_of V hd BPF ?_)];dsimp only;rw[c6I ok,XR,X];have f:∀m,AQS CEN m=DP2:=λm=>BU9 a2D
  have hg:GP i Nat e BZ6 BLL ((es[i]?.map (·.1)).getD 0=e.1):=λi e z=>ZW z
  have R:∀n,d+n<N↔iH DP1/\AWN (iH DP2):=λn=>by
   constructor
   .intro h;rw[AY (u _ h) (λm H=>u _ (BT 0x424b2ebcea1c84998 h H))]
   .rw[C9M];rw[EPP]
    rw[OD]
    .rw[z]at h1;rw[HI h1 j]
    .have:=h2 AGA EIO;rw[gU CGU];rw[HI this j]
  rcases a9F ok.ris ok.dum (λi=>(es[i]?.map (·.1)).getD 0) WH B95 CEN (ZW a3g) ⟨AGA,BS 0xdeec04ff2151ab59e7c9d3deea7 Z,KG f CGU j⟩with⟨n,h1,h2,h3⟩|⟨n,h1,h2,h3,h4⟩
  .rw[F46 h3 h3 h3];rw[f]at h1⊢;have e:d+n=N:=by
    rw[EPP]
    rw[HQ (u _ z) h1]
    rw[OD]
    .have:=(h2 AGA EIO).1;rw[f,CGU]at this;rw[HI this j]
   rw[e];rw[SJ (C λH=>?_)];rw[GQ x I H];rw[jQ hi (List.mem_iff_getElem?.mp (O x I))];rw[Array.getElem?_toList]at hi;have v:i<t.place.size:=by rw[ok.size];exact yI hi
   obtain⟨q,q1,q2⟩:=ok.reach i _ _ (a3a v) hi;change E34=_ at q1;change BQV q BSF at q2;have k:CP t.place E34:=by rw[BJ q1 a3a v]
   have U:q<N:=by
    rcases Nat.lt_trichotomy q N with z|z|z
    rw[OD]
    .rw[FF z k (pA Array.mem_of_getElem? k j)]
    rw[HQ (q2 N z) j]
   rw[XT (q<d)]
   .exact M q c i x I k hi rfl
   .rw[EZY h2 q (jT 0xc381240c6e9bcb94c8f9d91b1e30a598 e U c) q q (a3e ok.ris k)];exact D rfl
  .rw[F46 h4 h4 h4];rw[f]at h1 h2⊢;have L:d+n<N:=jL R n ⟨h1,λm H=>by rw[RV (h3 m H).1 f]⟩;have k:=(a3M ok.ris _).mpr h1;generalize J:ACB DP1=P at h2 k⊢;have v:P<es.size:=by rw[<-ok.size];exact yI k
   obtain⟨x,I,ex⟩:=G es[P] AL;have F:OO es P BA7:=by rw[Array.getElem?_eq_getElem v,ex]
   rw[F];dsimp only;rw[JZ b9U (λQ' hq=>b7Z T DHX hq)]
   .rw[GQ e S hy];have S:e∈es:=by
     have:=Array.mem_toList_iff.mp S;exact(Array.mem_filter.mp this).1
    obtain⟨x',B,ex'⟩:=G e (BM S);rw[FJ x'.1 x'.2 (ZW ex') E9C]
   rw[AFW (BKG AHI eqBool hu DTA T ?_)];rw[A4X wpAny_setState_of V hd BPF];dsimp only;rw[CS p HZ r]
   .rw[BJ (if_pos (by rw[decide_eq_true p];rfl)) wpAny_pure (BNE K ⟨x,I,p⟩)]
   .rw[E4Y];have sm:t.sameMemory t.moves t.mask=some true:=by rw[A6E SetTable.sameMemory]
    rw[sm];dsimp only;rw[FU,b3e ok.ris ok.dum,AYK];dsimp only;rw[J,F];dsimp only;rw[KA wpAny_isSame_ref_self];rw[FU];rw[kR];dsimp only;rw[E4Y];refine a6O V hd ok G O g T hu Z j u K C fuel (d+n+1) _ (BT 0x130daeb00a179953af34bc9141d14d25f470e305e3358 hf L) (BS 89347051605268887 L) (by rw[<-a2D];rfl) λm H i x' B W hi=>?_;rw[XT (m<d)]
    .exact M m c i x' B W hi
    .rw[CS c2 m (d+n)]
     .subst c2;have:P=i:=by rw[<-J];exact a3e ok.ris W
      rw[X1];rw[F]at hi;injection hi with hi
      have D:PN=x'.2:=by
       rw[ASF Prod.snd hi];injection this
      intro z;have Y:=DTA;rw[FF D Y (p (kJ Y.inj E9C z))]
     .rw[EZY h3 m (~~~lq 0x212da69d8ddb0d7c8451a07feed55bde5a74ab5317 H c c2) m m (a3e ok.ris W)];intro z;exact D (BU9 z)
noncomputable def a1E(prog:qG)(w:World)(ld:Bool)(h:Heap)(a:qE)(xs:kF):Prop :=
 ∃o es ep t,QI/\o.ExactSet/\o.data=D1Z/\E0G D7E/\sX/\D5R/\es.size*5<t.mask*3/\t.mask<=8*xs.length+7/\t.led=ld
def c7O{ld:Bool}{b:qE}{xs:kF}(hS:DV3 a)(M:ELL)(hk:CC4)(hu:C95)(hl:xs.length<1000)
  (h:∀h' I c,C8S->A3X ld h' a I->((r∈xs.map (·.1)/\I=xs)∨(r∉xs.map (·.1)/\I=(r,b)::xs))->Q c (A28 CNA)):EI (setAdd a FT):=by
 obtain⟨o,es,ep,t,J,D,hd,q,ok,G,U,T,R⟩:=hS;rw[BAY V xs.length q.length_eq]
 unfold setAdd;refine wpAny_holding (wpAny_bind (wpAny_pyHash_tuple hu hk ?_));unfold setAddHashed;rw[D9Q];unfold setAddHashedIn;rw[KA EGT];dsimp only;rw[vN (lT byScan FT es),XR];unfold setSearch;rw[EC N hN K L ok.first WH];have a6:N<100000:=by unfold SetTable.turns at hN;omega
 rw[BI (BF a6O s BFB xs xs J hd ok (AS e he) (A5Q (BNE q.mem_iff.mpr (XO x hx))) M hk hu hN K L (KW a2) (KW C) 100000 0 none AF IC rfl (A30 m hm hm AFO))]
 .rw[MB x hx rfl (List.mem_map.mp (q.mem_iff.mp he)) x hx rfl]
 .rw[pC];exact h s.heap xs false (Heap.SameBut.refl a s.heap) ⟨o,es,ep,t,J,D,hd,q,ok,G,U,T,R⟩ (A5R a2)
 .dsimp only;rw[KA EGT];dsimp only;rw[BPI E0T G];rw[BI (c1g (s:=BFB) hk ?_)];simp only[↓reduceIte,Bool.not_false,Bool.true_and];have k:=ok.add (v:=CMZ) K L (iF a3t) (BS 0x1f7bf9f1fed1e2cf3c5016e6 U);have S:BR5 mask=t.mask:=rfl;have p:E0T:=G;have n:BR5 led=ld:=R;have Z:BRB<=es.size:=by
   rw[RV (N1 ok.ris A3U).1 ok.size]
  have P:=a1v es BRB CZF Z;change DM _ _ (storeSet a ED9 _>>=_) _ _ _;generalize (AUL A3U)=l at k S p n⊢;generalize ED9=d at k P⊢;have u:d.toList.Perm (GS D1U D7E):=by
   rw[P];rw[GM List.perm_middle.trans];rw[DE List.take_append_drop List.map_cons (List.Perm.cons _ q)]
  have y:d.size=B1O:=by rw[E0D u.length_eq List.length_cons]
  have W:CC d.size:=by rw[AE sizeLine_eq (lq 0x18cb50a80d39c92822e7c5121dd27b180e6 hl y)]
  rw[OR (D1B wpAny_storeSet_of ?_) W];have B:E3D BK4 (.set d BV6 l):=by
   rw[RV (BZ8 E4G J (by rw[EK5];rfl)) EK5]
  have Y:=Heap.SameBut.update s.heap a E4G;have O:l.fill=d.size:=by unfold SetTable.fill;rw[k.size,k.dum];rfl
  by_cases f:l.tooFull=true
  .rw[DF f];rw[EQ3];rw[NI];unfold setRelay;rw[KA (tI wpAny_setState_of s CRN B (M7 k))];dsimp only;have a1:SetTable.grown (es.size+1)=B72:=by
    unfold SetTable.grown;rw[FK (BA (BT 0xe2b0bca77bae2cb7f6f483c55f23180e6 hl V)) V lq 0x1678989ff922ef5]
   rw[a1];obtain⟨sb,a5,a3,a8,a4⟩:=a2K B72 E1B;have a7:SetTable.sizeAbove B72<=16000:=by
    rw[a3];rw[CA a4]
    .rw[TY z]
    .omega
   rw[MV (by rw[MW sizeLine_eq])];obtain⟨H,g,r1,r2,r3,r4,r5,X,F⟩:=b4v l d B72 E1B (BS 0x11242a2843a0e36b4076d6 y);rw[r1];rw[DKV i (g.filterMap (d[·]?)).size d.size F.length_eq]
   rw[NI];rw[LW ((if ((g.filterMap (d[·]?)).size != d.size)=true then _ else pure (g.filterMap (d[·]?),H)))];rw[MV (by rw[PQ i])];rw[pC];dsimp only;generalize g.filterMap (d[·]?)=j at X F i⊢;refine wpAny_storeSet_of (s:=CRN) B rfl ?_ (AJ i W);have a0:E3D ((BK4).update a (Obj.putSet j H)) (.set j (BV6+1) H):=by
    rw[RV (BZ8 (Obj.putSet j H) B (by rw[EIU];rfl)) EIU]
   rw[EZC (Y.trans (Heap.SameBut.update _ a _)) ⟨_,j,_,H,a0,D,rfl,F.trans u,X,AJ r5 p,?_,?_,AJ r4 n⟩]
   .rw[i,y];rw[ED 0x212523b51c25abf1c3f2f0dcd5765bca079e r2]
   .rw[AE List.length_cons (lq 0x3c092244e61dc6f3ae7a5b49241a6 r3)]
  .rw[BA f];rw[EQ3];rw[EZC Y ⟨_,d,_,l,B,D,rfl,u,k,p,BS 0x7136d5d0d6a225e53c7eeb66 f,?_,n⟩];rw[List.length_cons,S];rw[ED 0x666b1058898722ff2393a326 T]
#where
universe Tab
universe L2
namespace L2
namespace Tab
open PySem
structure Came(rows:A8L)(i:Nat)(xs:kF):Prop where
 len:BKZ
 nd:C4G
 from_:jW EER
 all:∀j,j<i->(rows j).1∈cK xs.map
section
variable {prog:qG}{w:World}{A:Around}{R:kP}{I:qE}{fp wr:EG}{G:E16}{n:Nat}{P:DOB}{St:BX2}
def a9f(W:F5J)(S:qE)(D:DNZ){ld:Bool}{h0:Heap}(L:DJB (b∉wr/\HY S))(rows:A8L)
  (K:BQW JP (P i v) A68) (l:∀i,JP->TK prog w h0 CXM A68) (hn:YC) (hu:BOB 10) :
  EX3 xs kF (n-i=k->B3I->E1O->(DJB LA)->DV3 S->Came rows i xs ->
   F27 f (A3X ld s'.heap S f) (E5O n) ->
   EPF):=by
 have E:DO0:=E6Z D;have m:E86:=λb F=>JC F;intro k;induction k with
 |zero =>
  rw[F69];have X:i=n:= cT c4S O
  rw[F1R X r u];refine wpAny_pure (hR s' xs (u.mono m) ?_ d);obtain⟨o,es,ep,t,Y,rest⟩:=T;rw[ID o es ep t EMA rest]
 |succ k ih =>
  rw[F69];have a:JP:= ~~~c4O O
  rw[BTN (CCP a r (DP v s' hP J u))];obtain rfl:=K i v a hP;have U:A3X ld s'.heap S xs:=by
   obtain⟨o,es,ep,tb,Y,rest⟩:=T;rw[ID o es ep tb EMA rest]
  have p:nJ (HV h0.get?) s'.heap.get?:=GW o (u.heap b o (ADM L) (NE y));rw[F0F (YX A68) (AK A68) (c7O U C16 ((l i a).keep p) (AJ8 sP 0xc5a20a69ea1a6 hu) (by have:=d.len;exact lq 0x27bc4e65f1fa42ff6e3261b080e7 hn a this) (DR h' f c q V Z))]
  .rw[PY j g (BVV M)];exact(l j (~~~b8m a g)).keep p
  have Q:E5O AR:=by
   rcases Z with⟨h1,rfl⟩|⟨h1,rfl⟩
   .refine⟨DSI d.len,d.nd,C16,B1Y g⟩
    rw[EDU (BVV M)]
    .rw[A9T c]
     .rw[AE c h1]
     .exact d.all j DUZ
   .refine⟨EHG d.len,by rw[AY2 List.nodup_cons];rw[AY h1 d.nd],C16,B1Y g⟩
    .rw[CA (AD8 M)]
     .rw[AX i BUM z]
     rw[EDU (BVV z)]
    .rw[dR List.map_cons c j i]
     .rw[AE c List.mem_cons_self]
     .exact JC (d.all j DUZ)
  rw[ED6 (ih AR _ f (~~~c8O O) a (F1N J F) AYX V Q) a0 N H C B]
  .rw[AE (BTJ CZ (ARW D h F)) e]
  .show AJR;rw[AE (CZ b (NE L).2) (NE p)]
  .refine hR a0 N (Moved.trans W.gtrans (ES0 u.mono m F) H) C B;rw[ESS CZ F]
#where
section
variable {prog:qG}{w:World}{A:Around}{E:qH}{s:qC}
def a0i(a:qB){Q₁:qH}
  (h:LV Q₁ s.heap.objs.size CL9) :
  AIM FW (BED .call "set.__new__" (oH A23 a)) (BG6 Q₁):=by
 rw[GM codeAny_of_tree];show MD A.in1 ((do checkBuiltinCall "set.__new__" ⟨[.type "set",a],[]⟩;again (.builtin "set.__new__" ⟨[.type "set",a],[]⟩)));rw[BI (wpAny_of_eq (PySem.F.newCall_set_1 a) (zN ⟨AG6 PySem.F.plain_set_new,AWD PySem.F.entry_set_new⟩))];rw[CKM PySem.F.plain_set_new];unfold Builtin.«set.__new__» Builtin.Frozenset.newClass;have b:=sub_set_self;rw[bI c];dsimp only
 wp_walk
 rw[dJ wpAny_askSetting wpAny_pure];dsimp only;simp only[newObj];rw[BI (vK wpAny_alloc)];rw[NW h]
def a6N{c:Bool}{h:Heap}{a:qE}(e:XJ (APP c)):A3X c h a [] :=
 ⟨_,#[],0,_,e,B61,rfl,List.Perm.nil,⟨rfl,rfl,λa b h1 h2=>eB h2 (IN SetTable.fresh),λj d=>by simp[SetTable.fresh]at d,XO 3 BO,IC,λi j e h1 h2=>AC2 h2⟩,rfl,cG (0*5<7*3),cG (7<=8*0+7),rfl⟩
def a2H:DRB A23:=AJ1
def V3:DRB D6G:=AJ1
def a6F{l:qE}{items:DB}{rows:A8L}{Q:qH}
  (hh:OG) (hl:DL5) (y:EGB) (u:EME) (hn:D8Q) (hu:DP5)
  (h:EGZ (AWZ ->
   C8H)) :
  CEL:=by
 rw[CI3]
 rw[ON]
 rw[CHW];cases r with
 |error e=>exact K
 |ok fl =>
  cases fl with
  |ret z =>
   rw[F15]
   rw[ON]
   rw[CHK (BK6 (BJS a) (AWZ /\
     ADU))]
   .rw[CI4 t EOX a2H V3 C1D]
    rw[CHZ IsList t]
    wp_walk
    rw[DYG]
    have q:l≠AEG:=by
     rw[AA5 p]
    rw[CDP (by
     rw[CFB])]
    have m:DY6
       = BVJ:=KP P
    rw[F1P (F76 (DYA)
     CD4)]
    rw[F45]
    case hR =>
     rw[CI6 (by
      rw[AA5 S])]
     rw[CG1]
   .cases r₂ with
    |error e=>exact hr₂
    |ok fl₂ =>
     cases fl₂ with
     |ret r =>
      rw[CI0]
      rw[ON]
      rw[CHF]
     |_=>rw[B1C]
  |_=>exact K.elim
def a6o:DRA A23:=AJ1
def a1Y:DRA D6G:=AJ1
def a6f{l:qE}{items:DB}{rows:A8L}{Q:qH}
  (hh:OG) (hl:BIX s.heap.IsTuple) (y:EGB) (u:EME) (hn:D8Q) (hu:DP5)
  (h:EGZ (AWZ ->
   C8H)) :
  CEL:=by
 rw[CI3]
 rw[ON]
 rw[CHW];cases r with
 |error e=>exact K
 |ok fl =>
  cases fl with
  |ret z =>
   rw[F15]
   rw[ON]
   rw[CHK (BK6 (BJS a) (AWZ /\
     ADU))]
   .rw[CI4 t (nE dC k D11 d) a6o a1Y C1C]
    rw[CHZ IsTuple t]
    wp_walk
    rw[D4B wpAny_pyIter_tuple]
    have q:l≠AEG:=by
     rw[AA5 p]
    rw[CDP (by
     rw[CFB])]
    have m:D2T (uE "tuple_iterator" BEI)
       = BVJ:=KP P
    rw[F1P (F76 (D3F Walks.tuple)
     CD4)]
    rw[F45]
    case hR =>
     rw[CI6 (by
      rw[AA5 S])]
     rw[CG1]
   .cases r₂ with
    |error e=>exact hr₂
    |ok fl₂ =>
     cases fl₂ with
     |ret r =>
      rw[CI0]
      rw[ON]
      rw[CHF]
     |_=>rw[B1C]
  |_=>exact K.elim
#where
universe Tab
universe L2
namespace L2
variable {i:Nat}{it:qE}{t:SetTable}
namespace Tab
open PySem PySem.W
def a5Y{α:Type}:AE1 l DI i h D7I (([l[i]]++l.eraseIdx i).Perm l)
 |oF,0,_=>AL
 |oF,AR,h=>by
  have a:=a5Y l i A04;simp only[List.getElem_cons_succ,List.eraseIdx_cons_succ,List.singleton_append];exact(List.Perm.swap x (l[i]'(A04)) _).trans (List.Perm.cons x a)
def b3m{α:Type}(next:B2W):∀(fuel k:Nat) (left:DI) (out:A8B),left.length=fuel->(pickOrder.go next fuel k left out).toList.Perm (out.toList++left)
 |0,k,left,out,h=>by
  rw[FK D79 List.append_nil List.Perm.refl _]
 |A7Y,k,left,out,h=>by
  unfold pickOrder.go;have hi:next k % left.length<left.length:=D5L (~~~b9D h)
  rw[aG];dsimp only;refine mC (b3m next fuel BZ _ _ (AJ (List.length_eraseIdx_of_lt hi) (lq 0x2474f277238766d84af0b9cdf36d6 h))) ?_;rw[DE Array.toList_push List.append_assoc (List.Perm.append_left _ (a5Y left _ hi))]
def b4C{α:Type}(next:B2W)(xs:A8B):(pickOrder next xs).toList.Perm xs.toList:=by
 have:=b3m next xs.size 0 xs.toList #[] AL
 rw[jP (AJ9 ((#[]:A8B).toList=[])) List.nil_append this this]
def slot_seti_next:DSS "__next__" "set_iterator.__next__" :=
 F3J "__next__"
  EHE (by rw[BI8])
def a0T:AOO "set_iterator.__next__" Builtin.«set_iterator.__next__»:=entryFor_of_tree (by kernel_rfl)
def a1D(a:qB):DO1 "set_iterator.__next__":=by
 rw[BRP]
def a0Y:DSS "__iter__" "set_iterator.__iter__" :=
 F3J "__iter__"
  EHE (by rw[BI8])
def a5Z:AOO "set.__iter__" Builtin.«frozenset.__iter__» :=
 F0V "frozenset.__iter__"
structure SRaw(h:Heap)(a:qE)(es:AM9)(ep:Nat)(t:SetTable):Prop where
 ex:∃o,QI/\o.ExactSet/\DSF
 ok:sX
 plain:D5R
section
variable {prog:qG}{w:World}{A:Around}{E:qH}{s:qC}{a:qE}{es:AM9}{ep:Nat}
def SRaw.typ(x:A9J):DR2:=let ⟨o,h1,h2,_⟩:=x.ex;(AW9 h2.1)
def c0x{Q:YE}(e:DR2)(h:BZM):ASX Builtin.List.listLengthHint a:=by
 unfold Builtin.List.listLengthHint;rw[BZJ e PySem.F.slot_set_len.lookup];generalize d:("set.__len__" : String)=f
 wp_delta
 rw[show BW splitId f ("set","__len__")from by subst d;rw[OP]];subst d;rw[CON "set" e AJ1];refine wpAny_ite_split (λc=>absurd c AG) AKK;refine wpAny_ite_split AKK (λc=>absurd BK c);rw[BI (wpAny_typeOf e ?_)];rw[NW h]
noncomputable def a1j(w:World)(a:qE)(ep:Nat)(es:AM9):AM9:=D4W (pickOrder (w.params.setOrder a ep) es) es
def ord_perm:(BH8).toList.Perm es.toList:=by
 rw[TL a1j]
 .exact BX b4C
 .exact List.Perm.refl _
noncomputable def a4d(w:World)(t:SetTable):B2W
 |0=>0
 |AR=>D4W 0 AA4
noncomputable def SetIt(w:World)(h:Heap)(it a:qE)(i n ep:Nat)(t:SetTable):Prop:=∃o,uA it/\AEJ "set_iterator"/\ARN #[AFL B69,rawInt i,AV,rawInt n,AFL ep]
def b6A{Q:qH}(D:A9J)
  (q:DHW "set_iterator" #[DDA,DDA,AV,AFL es.size,AFL ep]):C2S a:=by
 rw[CE6 o b D.ex];rw[BW0 ty PySem.F.slot_set_iter (nX PySem.F.slot_set_iter ty a5Z ?body PySem.F.args_set_iter_1)]
 case body =>
  rw[A7S Builtin.«frozenset.__iter__» Builtin.Frozenset.slot0 AM1];unfold Builtin.Frozenset.sizeOf setEntries;rw[wJ wpAny_bind (wpAny_setState_of e1 b AV1 AM1)];rw[A7S setDrawn setsByText (EJF wpAny_setState_of)];dsimp only;rw[BI (CU9 wpAny_askSetting AM1)];dsimp only;rw[BA (λz=>by
   have c:=(BX Bool.and_eq_true ▸ z).2;rw[EI0 c];rw[AW D.plain c c])]
  rw[kR];rw[E66 (EJF wpAny_setEpoch_of) (EF9 AHO ?_)]
def SetIt.typ{a:qE}{n ep:Nat}(x:DRV):BXY it "set_iterator":=let ⟨o,h1,h2,_⟩:=x;DL6
def b6y(D:A9J)(f:E23)(hi:DAJ):E1E t.place B69:=by
 rw[AJ4 b e (N1 D.ok.ris B69)];have c:=D.ok.size;cases i with
 |zero =>
  rcases BJD Nat.eq_zero_or_pos (ARS 0)with z|z
  rw[OD]
  .have:=b 0 z;exact DH2 this
 |succ i =>
  have g:AWS=AA4:=by
   show C07 AA4=_;rw[f,XR]
  rw[g]at d b e⊢;rcases CU8 (ACB AA4) AR with z|z|z
  .have:=e i (BS 144901260758 z) (A08 0x288f82733d9eb7f157 hi);rw[XF 0x33a13065d8a6077]
  rw[OD]
  .rw[AA9 b AR z (D.ok.ris i AR BUM (BT 97351043426285015 d z))];rw[B8C 0x6bae9d7124e4493b211d8]
def a9u(D:A9J)(d:A9W){Q:KR (qD (qB×Nat))}(hi:DAJ)
  (h:MK (BND[i]?.map λe=>(e.2,AWS))):EI (setNext a B69 i ep):=by
 obtain⟨o,e1,_,f⟩:=D.ex;unfold setNext setsByText;rw[BI DXU];rw[E04];dsimp only;by_cases b:BJC
 .rw[DF (show CF9 from b),B34];rw[A7S setWalk setsByText DXU];rw[E04];rw[BPI CF9 b];rw[OR wpAny_askSetting AM1];have g:∀j,ARS j=0:=λj=>by
   cases j with
   |zero=>rfl
   |succ j=>show C07 _=0;rw[if_pos b]
  rw[g]at h⊢;rw[VN a1j];rw[FF B2B h h]
 .rw[OA hf' E23 b]
  rw[BA (show ¬CF9 from b)];rw[BA (λz=>by
   rw[EI0 z];rw[iX D.plain])]
  rw[NI];rw[LW (jJ (hQ (! t.led) (! es.isEmpty)) (pure ()))];rw[MV (by rw[d,hf'];simp)];rw[dJ wpAny_pure wpAny_pure];rw[b6y D hf' hi];rw[VN a1j];rw[B2A]at h;rw[mU c es.size]
  .have hp:=a3a (xs:=t.place) (i:=i) (AJ D.ok.size c);rw[hp];have k:AWS=AA4:=by
    show C07 AA4=_;rw[hf',XR]
   rw[k]at h;rw[Array.getElem?_eq_getElem c]at h⊢;exact h
  .rw[IX Array.getElem?_eq_none]at h⊢;exact h
def b4l{Q:AKF}(I:EJR BQI)(D:A9J)(e:A9W)(hi:D7J){v:BZ6}(h:ABF (BND))
  (q:B7T (E65 DKA AR) (Q (some v.2) UI)):B37:=by
 rw[EC j d g b id I];rw[BB4 f D.ex];rw[F3C]
 case body =>
  rw[F2G d b (D1V A71) e CWE];rw[DZF h];have g1:BW (DJS it (CPI D30)) it (Obj.mapFields D7D j):=AAF d b;have c:=Obj.data_mapFields b D7D;rw[C2P d b AL];rw[KA (wpAny_setField (s:=KQ _) g1 c AL)];rw[SJ (CD (zN (q _ (KS (AAF g1 c) ?_ ?_) (kJ Heap.SameBut.update .. (Heap.SameBut.update ..)))))]
  .rw[DE Obj.cls_mapFields Obj.cls_mapFields g]
  .rw[Obj.data_mapFields c];simp[rawInt]
def b6z{Q:AKF}(h:OG)(I:E65 BQI es.size)(D:A9J)(c:A9W)
  (q:E6R):B37:=by
 rw[EC j e i f id I];rw[BB4 g D.ex];rw[F3C]
 case body =>
  rw[F2G e f (wpAny_setState_of e1 g AV1 A71) c BO];rw[DKV d C7N es.size ord_perm.length_eq]
  rw[DZF (Array.getElem?_eq_none (~~~b8I d))];rw[BI (wpAny_setField e f AL ?_)];rw[AOB CEY];rw[F1L]
def SetIt.at{h h':Heap}{a:qE}{n ep:Nat}(x:BSW (BI5 h))(k:CBN it it):BSW DKA:=EQ1 x
def SRaw.to{h h':Heap}(x:AMG)(k:E7F):BEU h':=⟨EQ1 x.ex,x.ok,x.plain⟩
def a4r:AOO "set_iterator.__iter__" Builtin.«dict_keyiterator.__iter__» :=
 F0V "dict_keyiterator.__iter__"
def a6k(a:qB):DO1 "set_iterator.__iter__":=by
 rw[BRP]
def b4k{n:Nat}{Q:qH}(I:DRV)(h:DCZ):ASX pyIter it:=by
 rw[BW0 I.typ a0Y (nX a0Y I.typ a4r ?_ a6k)];show MD _ (II ret it);rw[NW (EF9 I.typ h)]
def b7C:C7N=es.size:=by rw[ATJ ord_perm.length_eq Array.length_toList]
def b4m(p:OG)(J:qE)(j:a≠J)(g:A9W) :
  EY5 a EBH (EJR (SetIt w h J a)) AMG where
 sub:=λb d=>A82 (List.mem_singleton.mp d)
 frame:=zL k ⟨QB (aY).at (k J List.mem_cons_self o e),QB (aX).to (k a B2V o e)⟩
 item:=EZU c (by
  rw[HC f (i<C7N) b7C hi]
  exact b4l aY aX g hi (Array.getElem?_eq_getElem f) λh' m l=>B9D (c _ h' s.toks (FZ (Array.getElem?_eq_getElem f)) ⟨m,QB (aX).to (l.extBut a o j e)⟩) d l.extBut d)
 done:=λs Q E st c=>b6z p aY aX g λh' n=>B9D (c h' s.toks) d n d
 self:=λ_ _ _ _ st c=>b4k aY c
def SRaw.lt{h:Heap}(x:AMG):B6I:=let ⟨_,h1,_⟩:=x.ex;Heap.lt_size h1
def c1K(b:A9W):dI KdlSrc "set" a a es.size EBH (λh=>AMG) where
 type:=DOL
 there:=ECA
 keep:=RK D d (QB D.to (d a HK o e))
 notList:=AG
 notTuple:=AG
 hint:=EPK c0x
 iter:=RK c D (EVA (b6A D q) (b4m c _ DIP b))
#where
universe Tab
universe L2
namespace L2
open PySem PySem.Spec PyProof.Rows
section
open PySem.W Tab
noncomputable def a7N(P:qG)(w:World)(a:qE)(xs:kF):HO:=AZO (∃es ep t,AMG/\E0G (Tab.ent P w)/\A9W)
def c4t{P:qG}{w:World}{H:Hp}{h:Heap}(ok:TW){r:qI}{b:qE}(x:UE FT r):TK P w h r b:=by
 rw[aM a q x];rw[CM];obtain⟨_,its,c,o,h1,h2,n,d⟩:=(A2O (A2E P w h b D9I) (ok b _ q));refine⟨o,its.toArray,n,h1,DPS,d,?_⟩;have:∀{r:qI}{its:AI},A4U r.map V.int its->ItemsAre D8W r its:=by
  intro r;induction r with
  |nil=>intro its c;cases c;rw[AFN]
  |cons x r f =>
   intro its c;cases c with
   |cons h t =>
    rw[IG tk h];exact .cons (A45 intKind_is) (f t)
 simpa using this c
inductive rSetT(K:qF)(P:qG)(w:World)(ys:AA)(H:Hp)(Q:VK):Prop
 |mk (k:Bool) (p:qE) (vs:AA) (rss:LLI) (_:DPF) (_:E5M vs) (_:TU) (_:D8P) (_:∀a xs,A01->C4G->(∀r,r∈xs.map (·.1)↔r∈rss)->DMT->Q AV (A5S xU)):EMR rSetT
inductive rSortS(P:qG)(w:World)(ys:AA)(H:Hp)(Q:VK):Prop
 |mk (a:qE) (xs:kF) (_:DPE) (_:cQ xU) (_:DMT) (_:(AYY (0<UG HZ))) (_:DFS) (_:ERP (qP.Perm (xs.map (·.1)))):EMZ rSortS
section
variable {X:Cx}
def b5G(K:qF)(P:qG)(w:World)(R:HD)(hc:EH)(hK:AQ:=by rfl)(hP:kD:=by rfl)(hw:kE:=by rfl):dV A23 DRJ:=by
 subst hK hP hw;rw[ZE ys us rv];obtain⟨k,p,vs,rss,rfl,O,hI,N,q⟩:=h;rw[VL C rv.one C];have M:X.A.handled=none:=CYD;have step:∀(its:AI),DF5->∀(h':Heap) (tk:Nat) (xs:kF) (c:A8L),(∀i,B25->EHI) ->
   a1E X.prog X.w (CIL X.w.params.followText) h' s.heap.objs.size xs->Came c its.toArray.size xs->ADU->nZ QR ZU:=by
  intro its r h' tk xs c d m g y;obtain⟨o,es,ep,t,e1,e2,S,T,U,V,e7,e8,W⟩:=m;have A:its.toArray.size=rss.length:=by rw[<-HP,r.length];simp
  have E:A02:=WZ;have D:jW BSV:=λx G=>by
   rw[PY j l E1H];exact(d j l).2
  refine EZO a7N xs y ⟨⟨es,ep,t,⟨rM e1 e2 S,U,V⟩,T,W⟩,iK e1,λh1 h2 (EQ2 q1) kk=>EQ2 (q1.to kk)⟩ (q _ xs E g.nd (KW r) D);constructor
  .intro hr;rw[GQ x G hr];rw[PY j l E1H];exact List.mem_of_getElem? (d j l).1
  .intro hr;rw[ANL l hr];have n:j<its.toArray.size:=by rw[rB A l]
   rw[QV h1 (d j n).1 l h1];rw[C9P]
   rw[AE h1 (g.all j n)]
 have P0:∀(its:AI),DF5->∃c:A8L,(BQW B25 BZN CWU)/\∀i,B25->EHI:=by
  intro its r;have f:∀i,∃x:ADT,B25->(∀v,BZN->uR PN)/\oE HZ/\BSV:=λi=>by
   rw[A4N its.toArray.size]
   .have hi':i<vs.length:=by rw[r.length];simpa using hi
    rw[XU eu C (A7U r.get hi')];obtain⟨L,Z,b,Y,hb⟩:=A1A hI.2 hi';rw[AW Y C C];rw[DU (L,b) (GA (FY (dE F) Z b hb))];have:ALI:=BM F
    rw[gU eu];rw[E0C]
    exact this.symm
   .rw[AY ([],0) (λz=>eB z hi)]
  rw[AX (λi=>Classical.choose (f i)) (λi v hi F=>(EFD).1 v F) (λi hi=>(EFD).2)]
 cases k
 .rw[ANE hz O];rw[F6S a6F pl.isList]
 .rw[C3Q hz O];rw[F6S a6f pl]
def b2y(P:qG)(w:World)(hc:EH)(hP:kD:=by rfl)(hw:kE:=by rfl):DD8 D8X:=by
 subst hP hw;rw[ZE ys us rv];obtain⟨a,xs,rfl,ha,L,R,hn,q⟩:=h;rw[CYW];obtain⟨⟨es,ep,t,D,p,M⟩,_⟩:=(CK1 (E22 a7N xs) (BNH ha));rw[AJ4 G te (U4 (f:=BD5 Tab.ent) ((ord_perm (w:=X.w) (a:=a) (ep:=ep)).trans p) rfl)];have A:JY d YH:=λx B=>G.mem_iff.mp B;have g:es.size=d.length:=by rw[E0D p.length_eq G.length_eq]
 have hI:OV EB2 ((d.map (·.1))):=⟨BM2,PP v (by
  rw[B1I e];cases e2:d[i]? with
  |none=>rw[HM e2]
  |some x =>
   rw[HM e2];rw[PZ HZ (L x (A x (List.mem_of_getElem? e2)))])⟩
 have W:OU EB2 BAA:=a1H (λx:ADT=>PN) d;rw[A4H 64]
 rw[HC z (d.length<64) G.length_eq hn]
 have n:EH4 Y J J BAA a J Y:=λY J k=>by
  rw[F2U (c1K M) (lq 0x1e8b4695fdeb2d10f77cd8b67fd57 g hz z) j BAA (by
   rw[CGO d.length]
   .rw[CF0 j.1 g]
    rw[kI F O (j.2 i BYD BYI)];rw[<-Array.getElem?_toList,<-te,List.getElem?_map,aG]at F;injection F with F
    rw[CEA O F]
   rw[CF5 j.1 g])]
  rw[ESR]
 rw[CH3 W.length (a5N I hI W) t1 (a1G W HP)];refine a0U n TT (λr hr=>by rw[GQ x B hr];exact R x (A x B)) jG (F6J hs);rw[CG2 l U t1.symm Z (t':=tk)];rw[CGK E l N (by
  rw[F1J U.mem_iff.mp N a1 e5 BAA]
  rw[CHG r' a0 f1 e5 r3 f1 f1])]
 have S:CC (UG ((l.map (·.2.1)))):=by
  rw[EUB K U.map K K];exact lq 0x1e531405706eba8a5076efbefedbf hz z K
 rw[CF8 O ((l.map (·.2.1))) N E N]
 rw[F13 Z.laid ((l.map (·.2.1))) S O (C38 ((l.map (·.2.2))) Z.hok.fresh DW9 (by have:=U.map (BGB ADC);rw[lW t3 (this.trans (G.map _))]) ?_)]
 .rw[B1I m];cases e2:BYN with
  |none=>rw[BAJ]
  |some t =>
   rw[BAJ];rw[CEV E]
 .rw[CGX hs hs.imp_of_mem B C];rw[CBG (E x B) E C C]
variable {e:Expr}{es:BN}{t:TA}{p pos:Pos}
def c3H(K:qF)(P:qG)(w:World)(j:HD)(h:D9W)(i:DBL)(d:EQ)(f:EH:=by rfl)(b:AQ:=by rfl)(c:kD:=by rfl)(hw:kE:=by rfl)(g:CG:=by rfl)(a:GG:=by rfl):DJF DRJ:=(F2E (b5G K P w j f b c hw))
def c0m(P:qG)(w:World)(g:BXM)(h:BYS)(c:EQ)(d:EH:=by rfl)(b:kD:=by rfl)(hw:kE:=by rfl)(f:CG:=by rfl)(a:GG:=by rfl):yT "sorted" D8X:=(CTV (b2y P w d b hw) a3N)
#where
#where
section
variable {A:Around}{E Q:qH}{H:Hp}{X:Cx}{e:Expr}{kw:rA}{pos:Pos}{prog:qG}{s:qC}{t:TA}{vs:AI}{w:World}
section
variable {a b:Expr}{ta tb:TE}
#where
def a6R:F3A
 |[],[],_,_,_,_,_=>rfl
 |[],A8P,_,_,_,_,h=>EOH
 |eW,[],_,_,_,_,h=>EOG
 |eW,A8P,ra,rb,na,nb,h=>by
  rw[F7C (by
   rw[EKW]
   .rw[B7G (SN h x)]
    .rw[BJ z J6 y]
    rw[JR q1 x]
   .rw[B7G (WT h y)]
    .rw[BJ z J6 x]
    rw[JR j y])]
  rw[ETH a6R]
  .rw[BBL BQB]
   rw[HQ (yA hv) f]
   rw[OD]
  .rw[BBL (WT h v)]
   rw[HQ (yA hv) c]
   rw[OD]
structure Srt(rss srt:LLI):Prop where
 ri:DFB
 nd:srt.Nodup
 mem:EG6
def Srt.eq{rss a b:LLI}(h:E3A)(g:C87):a=b:=F0I a6R
section
open PySem.SeqAt
open PySem.AutoSeq1 (wpAny_loadPart')
open PySem.MeetsSeq PySem.MeetsSeq2 PySem.MeetsSeq3
def a6m(l b p q:qE)(k k2:Nat)(dd o:EN)(sl z:YM)(n m:Int)(t u:Tok)(ns ms:qI) :
  EGF
   (BBI (CLI (.seq #[.int n t,EU] k)/\B35 (nE dC o (.seq #[ACL m,mZ] k2) z) /\
    B9S A.in1 EU mZ decide BM9 /\
    (∀(prog:qG) (w:World) (E:qH) (Q:qH),CXX HT.lexLt->C2R A.in1 (C64 EU mZ)) /\
    A9A BT2 s)) :=
 (tH (by
  rw[bI j];rw[RC D B r v h];have H:=AutoSeq1.sub_tuple_tuple
  rw[EHW (wpAny_loadPart' D) (wpAny_loadPart' B) (XD=none/\s'=A9C /\
   ((rest=[(DOS,Value.int m u),(EU,mZ)]/\A9A BT2 A9C)∨(rest=[(EU,mZ)]/\A9A (HT.lexLt ns ms) A9C) ∨
    (rest=[]/\A9A false A9C)))]
  case turn =>
   rintro⟨y,x⟩ rest b s' ⟨f,rfl,⟨a,hR⟩|⟨a,hR⟩|⟨a,hR⟩⟩
   .rw[C9F a]
    rw[CE7]
    subst hy hx hrest;rw[HT.lexLt_cons]at hR;rw[kI C c (HT.eqAt_int A.in1 A9C n t m u)];rw[CEJ C];cases e with
    |true =>
     rw[B1L c.mp rfl]at hR
     wp_walk
     rw[PZ rfl (A94 hR)]
    |false =>
     rw[E8L c.mpr];have i:=HT.rcLt_int A.in1 A9C n t m u prog w
     wp_walk using i
     rw[BYW]
   .rw[C9F a]
    rw[CE7]
    subst hy hx hrest;rw[CEJ r];rw[GC ns ms]
    .rw[A87]
     wp_walk
     refine A3O (A6V rX);rw[jP e J6 hR hR]
    .rw[AJS];have i:=AAN v
     wp_walk using i
     rw[BYW]
   .cases a
  case fin =>
   rintro⟨F,G⟩ s' ⟨f,rfl,⟨a,hR⟩|⟨a,hR⟩|⟨a,hR⟩⟩
   .cases a
   .cases a
   .simp only at f;subst f
    wp_walk
    rw[EJU]
  case h =>
   rw[PZ rfl (AJV h)]))
#where
section
variable {qK:DA}{σ:St}
def c3k(I:AN){l b a c:qE}{n m:Int}{ns ms:qI}(hl:A7B l AXG)(K:A7B b [BD m,MH])(C:A7B a ATS)(D:A7B c (bX ms.map))
  (y:BOB 9) (h:DLJ):oO (C64 GV FT):=by
 rw[AE2 its P M (BU3 hl) o R (I.tuple K)];obtain⟨e,f,rfl,⟨t,rfl⟩,U⟩:EVK its n (RelV AV f):=by
  rw[EVC P]
 obtain⟨Y,Z,rfl,⟨u,rfl⟩,W⟩:EVK o m (LV RelV c f):=by
  rw[EVC R]
 rw[pJ U W];rw[B0V F g k M];rw[AE3 B v r z j d k2 i p2];rw[B9K g d i g d i];obtain⟨G,S,N,_⟩:=I.tuple C;obtain⟨J,T,O,_⟩:=I.tuple D;exact F43 F (FZ j) (a6m l b a c k k2 dd v sl z n m t u ns ms)
  ⟨F,j,(EqV.ints (k:=true) C D).at I (C9K 0x42163268ec02a4be6 y) rfl rfl,λprog w E Q L=>(HT.lt_tupInts N O (a2z S) (a2z T) (C9K 0xc5a20a69e4be6 y) L:C2R A.in1 (compareOp .Lt AV MH)),
   EHX (Value.bool (HT.lexLt dW CNR)) DLJ⟩ (BS 0x70f128744be6 y)
#where
section
variable {I l S:qE}{R:kP}{h₀:Heap}
noncomputable def Y3(h h':Heap):Prop:=DUF
def b4Y(B:AM2)(hh:OG)(L:l≠I)(r:S≠I)(J:D64 I)(K:D64 S)(hl:BOJ h₀.IsList)
  (D:F7J X Y AN8 X Y B (richCompare .Lt X Y))
  (hR:∀v h' tk,yE (argBest B D88) v->EI5->A63 v ZU) :
  ∀(k j:Nat) (h:Heap) (t:Nat) (p:qB) (c:Nat),vs.length-(j+1)=k->OC<=vs.length->h.IsListIter I l OC->AN8->yE E3Y p->UV S (EOY #[p,p]) ->
   codeAny FW A (CQB "min.loop" [AE4,.none,AQV]) R (gE h t):=by
 have m:EQI="min.loop":=by decide
 rw[EQ0 (EW1 hh I l L vs.toArray) G];have gI:ESM AN8 I EI5:=EGQ u u J;have gS:∀{h:Heap}{f:DYU},AN8->Y3 h₀ (h.update S f):=λg b o e=>DIA K CVO;rw[F06 AN8 (by
  rw[F4U])]
 intro k;induction k with
 |zero =>
  rw[F74];have F:BU6 OC:= BT 0x11e445716d92b4a725b90d6170fad366d6 u T
  rw[EY4 (ENR ⟨BUQ G F y,lst g⟩)];have a:=d S _ AHJ C;rw[E7W BY1];refine wpAny_updateSeq a rfl (wpAny_bind B5K);exact hR p _ tk (PU F n) (gS E6P)
 |succ k V =>
  rw[F74];have x:j+1<vs.length:= BS 0x291e662bf1df8ecd21ab6d7 u
  rw[EY4 (EW4 OC G x ⟨y,lst g⟩ tk Z q)];rw[OA U (yE OC v) Z]
  rw[AD a (d S _ AHJ C) H E6P];rw[BPX (holding [v,v] (richCompare .Lt v p>>=_))];rw[AYG (A2R wpAny_holding (AM D OC E3Y v p _ _ H U n ?_))];rw[jE (wpAny_holding (wpAny_truthy_bool ?_)) B5K];cases P:B OC (argBest B j)with
  |true =>
   simp only[if_true];rw[NI];refine wpAny_updateSeq a rfl DHD;rw[m];rw[EC oI M N O id EB];rw[DQ6 (V OC _ _ v _ E1A x ⟨oI,rF r M,N,O⟩ (gS H) (by simp only[argBest,P,if_true];exact U) (B5Y a))]
  |false =>
   simp only[Bool.false_eq_true,if_false];rw[D9O];rw[m];rw[DQ6 (V OC _ _ p c E1A x EB H (by simp only[argBest,P,Bool.false_eq_true,if_false];exact n) a)]
#where
def a3O(a v:qB):argsOk "min" (CXK KJ v):=D4T
def a8L{id:String}{b:Builtin}{args:AI}(i:FV builtinKind id)(hp:EK plainId id)
  (h:AOO id b) (g:argsOk id (aE args))
  (d:DM FW A.in1 (b DEQ) (λfin s'=>match fin with
   |.done f=>(match (Except.ok f:Result)with | AS2 v=>BOZ | AJG=>False | BW3=>E43)
   |.again c'=>c'.quiet=true/\codeAny FW A c' (λr s'=>match r with | AS2 v=>BOZ | AJG=>False | BW3=>E43) s') E s) :
  EJG id args kw:=by
 rw[A5L (codeAny_call_builtin hp h ?_)];simp only[checkBuiltinCall,i];cases a:Manifest.signature? id with
 |none=>rw[NW d]
 |some sig =>
  have c:A8Q (C9S id DEQ):=by simpa only[argsOk,a]using g
  simp only[c];rw[NW d]
def b5I{l:qE}(t:AM2)(M:OG)(hl:BOJ s.heap.IsList)
  (k:F7J N O C3F N O t (C64 N O))
  (T:BWL->∀h' tk,C2W->Q .none ZU) (h1:∀v h' tk,yE (argBest t D88) v->C2W->Q v ZU) :
  EJG "min" ATG [(DK "default",.none)]:=by
 have a:EQI="min.loop":=by decide
 obtain⟨ol,H,_⟩:=id hl;have C:mT l:=Heap.lt_size H;refine a8L PySem.F.kind_min PySem.F.plain_min PySem.F.entry_min (BX a3O) ?_;show MD A.in1 (EX6>>=_);rw[BI (wpAny_of_eq (vN (EX6=pure [none,AU .none])) ?_)];rw[kR];rw[EUZ (wpAny_pyIter_list hl ?_)];rw[a];have L:AMN=GO:=size_push' ..;have m:l≠s.heap.objs.size:=Nat.ne_of_lt C;rw[HC c (AMN≠s.heap.objs.size) L DFZ]
 rw[SJ (GZ (AG6 PySem.F.plain_min_loop))];have r:Y3 s.heap (C1U oT):=GW x AEY;have gI:A4F (ASR C1U oT) AS5 :=
  B2J
 have gS:AH9 C1U oT AMN oT:=KC;have P:D63 s.heap.objs.size:=DAU;have J:D63 AMN:=Heap.get?_none_of_le (by rw[BJ L Nat.le_succ _]);generalize AMN=S at c gS J;rw[EQ0 (EW1 M s.heap.objs.size l m vs.toArray) I];rw[F06 C3F (by
  rw[F4U])]
 rw[D2G _];rw[AGL gS];rw[BPX (AR3 s.heap.objs.size)];have K:ESM C3F s.heap.objs.size C2W:=EGQ V V P;rw[CS n vs []]
 .subst n;rw[AYG (ENR EHR)];rw[BI (vK wpAny_rule)];exact T rfl h' tk DTY
 .have hpos:BXD:=List.length_pos_iff.mpr n;rw[AYG (EW4 0 I hpos EHR Z U p)];rw[OA X (yE 0 v) U]
  rw[AD f (d S _ D80 gS) R DTY];rw[E7W (GA #[v,v])];refine wpAny_updateSeq f rfl ?_;rw[a];rw[EC Y D F G id CU];rw[NW ⟨AG6 PySem.F.plain_min_loop,BF b4Y h₀ s.heap s s t M m c P J hl k (λv' y q B u=>h1 v' y q B u) _ 0 _ _ v _ rfl hpos ⟨Y,rF c D,F,G⟩ (GW o (DIA J (NE R))) X (B5Y f)⟩]
noncomputable def PrI(K:qF)(H:Hp)(vs:AA)(rss:LLI):Prop:=ER7 (BCT r p (DFW/\C0A/\DOZ/\DN1))
def PrI.same{K:qF}{H':Hp}{vs:AA}{rows:LLI}(h:ECD)(s:BG):PrI K H' vs rows:=(BGV (let ⟨n,r,p,a,e1,e2,e3,e4⟩:=A49;⟨n,r,p,a,e1,e2,D9D,HF e4⟩))
def PrI.snoc{K:qF}{vs:AA}{rows:LLI}(h:ECD){n:Int}{r:qI}{p a:qE}(hp:DOZ)(c:DN1):PrI K H (vs++[EU]) (rows++[BNZ]):=by
 rw[DU BYJ C0E];rw[C2C]
 .rw[BLR];rw[AE CNM A49]
 .have hi':vs.length<=i:= ~~~S6 hi
  rw[List.getElem?_append_right hi']at e;have b:DG4=0:=by rw[wB AKV]
  rw[HM b];rw[ARW List.getElem?_append_right CY hi',<-CY,b];exact EZD hp c
def a5F{rss:LLI}:∀(k:Nat),k<rss.length->E39<=k/\∀j,j<=k->HX (HT.lexLt E3K (rss.getD E39 []))
 |0,_=>⟨BO,λj a=>HG (Nat.le_zero.mp a) J6 _⟩
 |BZ,b=>by
  rw[QC (EIZ k (~~~b8W b))];rw[TL argBest]
  .rw[ESE BO]
   .rw[BJ e J6 _]
   .have h3:=h2 j DVL;cases e2:HT.lexLt E3K (rss.getD BZ [])with
    |false=>rfl
    |true=>rw[AW (A20 a1N e2 hb) h3 h3]
  .rw[ESE (AE6 a3V)]
   .rw[e];simpa using hb
   .exact h2 j DVL
inductive rMinD(K:qF)(xs:AA)(H:Hp)(Q:VK):Prop
 |mk (p:qE) (ys:AA) (rss:LLI) (_:sI) (_:BLZ) (_:PrI K H ys rss) (_:(rss=[]->Q .non H)) (_:∀v r,v∈ys->xN->(BCT t q (r=DEZ/\uR q/\DP0/\DN2))->CQ r' rss (yK r' r)->AL5):bL rMinD
section
variable {p kp np:Pos}{nk:Nat}
def c3G(K:qF)(U:HD)(R:D9U)(S:DBJ)(N:sA)(O:EH:=by rfl)(M:AQ:=by rfl)
  (P:AEO UP=(false,bR)::C30:=by rfl) (y:BFT UP:=by rfl) :
  CI (EZP "min" UP "default" .none) (AS9 rMinD):=by
 rw[F09 M Q R S c1k];refine callWith_kw (B3O N.h us zz) P y;rw[EL1 f Z zz Constant_none];obtain⟨l,ys,rss,rfl,T,B,W,q1⟩:=q1;rw[VL ru Z.one ru];rw[MC A sq hz f.list T];have b:its.length=rss.length:=by rw[<-A.length,B.1]
 have c:GP i Nat w qB (CP its w) (BCT r p (DFW/\LR w p/\EU∈ys/\C7R p AXG/\AUO D9I)):=λi w hi=>by
  have d:i<ys.length:=by rw[rB A.length hi]
  obtain⟨n,r,p,a,e1,e2,k,m⟩:=A1A B.2 d;obtain⟨v',q,E⟩:=A7U A.get d;rw[A32 hi];rw[AW e2 E E];exact⟨n,r,p,a,e1,rfl,xY e2 List.getElem_mem d,k,m⟩
 refine b5I CXV (f.ok.hd O) sq.isList (λh tk i j w vj Q' E' g hi x C=>?_) (DD e h' tk g) (DP v h' tk D g)
 .obtain⟨n,r,p,a,e1,rfl,_,k,m⟩:=c i w hi;obtain⟨n',Y,p',a',G,rfl,_,J,L⟩:=c j vj x;refine c3k CDN (GR k) D7O D7M B26 (C9K 0xca6596e1f6d846b12a6 U) ?_;rw[C62 e1 G C];exact C
 .refine FY .non H1 CDN (W ?_);rw[e]at b;exact List.length_eq_zero_iff.mp b.symm
 .obtain⟨n,r,p,a,e1,rfl,e2,k,m⟩:=c _ v D;have o:its.length-1<rss.length:=by
   rw[XY (IB D) 0x90f8d363ecef1b220deecbd57 b]
  obtain⟨b1,F⟩:=EIZ _ o;refine FY EU H1 CDN (q1 _ BNZ e2 DSB (EZD k m) λY z=>?_);obtain⟨j,x⟩:=List.mem_iff_getElem?.mp z;have:=F j (D4S (IB x) c4V b);rw[C62 e1 x this];rw[A7O]
#where
section
variable {te:TE}{p2:Pos}
#where
section
variable {I l S:qE}{R:kP}{h₀:Heap}
#where
section
variable {p kp np:Pos}{nk:Nat}{d:Int}
#where
section
variable {es:BN}{p:Pos}
#where
#where
section
open PySem.W
variable {X:Cx}
section
variable {tg:Expr}
#where
section
variable {o e:Expr}{es:BN}{to:TE}{t:TA}{qN qM:Pos}
#where
section
variable {k:Nat}{ps:AB}{sp:Sp}{x:Str}{p pos qM:Pos}{e:Expr}{es:BN}{t:TA}
#where
#where
section
section
variable {X:Cx}
variable {e:Expr}{es:BN}{t:TA}{p pos:Pos}
#where
#where
section
open PySem.W
variable {X:Cx}{prog:qG}{w:World}
section
variable {κ:Type}[ANI]{knd:DUU}{A:Around}{E:qH}{s:qC}
def c1N{d a:qE}{xs:YO κ BI2}{k:κ}{v:qB}{Q:qH}(t:knd.room A)(c:ECF)(z:EDG)(hz:aO)
  (h1:∀p,EFX->Q IO AF9)
  (h2:EG4->EMI (storedH xs k a v) (Q v E41)):EI (E4P v):=by
 obtain⟨o,es,ep,f,u,hd,i,g,l⟩:=z;unfold dictSetDefault
 rw[E07]
 rw[gX knd.pyHash t c];rw[BI (wpAny_dictFind_heap (s:=AF9) t c f hd i g l (KW h) λj p r=>?_)]
 .have hnot:DIX k:=not_mem_keys_of_get h;have b:=atKey_none_of_get h;rw[wJ wpAny_rule (nP (BF wpAny_updateDictKeys hz (by have e:=size_of_entries i;exact b1Q hz e) s AF9 f hd) (h2 b _ ⟨_,_,BV6,ARD f (Obj.isFreed_of_dict (Obj.data_mapDictKeys hd _)),u.mapDictKeys _,Obj.data_mapDictKeys hd _,?e,?k,?n⟩ AL7))]
  case e =>
   rw[storedH_new b];simp[i,entryOfKey]
  case k =>
   rw[storedH_new b];intro x m;rw[bK C03]
   .exact knd.keeps (g x q) f hd AL7
   .rw[AE AZ0 (knd.keeps c f hd AL7)]
  case n =>
   rw[storedH_new b,List.map_append,List.nodup_append];rw[DV l AL (λx m y B e=>hnot ?_)];have:y=k:=BM B
   rw[<-this,<-e];exact m
 .rw[BI (wpAny_dictEntries (s:=AF9) f hd ?_)];rw[FK (entry_at i j) r wpAny_bind (nP wpAny_rule (h1 p (atKey_of_get l r)))]
#where
section
variable {κ:Type}[ANI](knd:DUU)
def b6B(d a:qE)(hd:AM6)(b:qB) :
  dI MeetsIn (Builtin.«dict.setdefault» (JJ [iI,AV,b])) (BBI (knd.room A.in1/\∃k xs,ECF/\EDG/\aO /\
   (∀p,EFX->A63 IO AF9) /\
   (EG4->EMI (storedH xs k a b) (A63 b E41)))) :=
 .of_wp λA R s ⟨j,k,xs,c,g,l,h1,h2⟩=>by
  rw[A7S Builtin.«dict.setdefault» Builtin.Dict.keyAndDefault (wpAny_notOrdered_dict g.typeIs ?_)];show MD _ (pure (d,AUJ,AU b));rw[pC];change MD _ (if gK d sysModules then _ else(E4P b>>=_));rw[BJ (MV (by rw[TY hd])) wpAny_bind (c1N j c g l (λp i=>zN (DG IO (h1 p i))) λh h' e f=>zN (DG b (h2 h h' e f)))]
#where
section
variable {qK:DA}{σ:St}{H:Hp}{s:qC}{a b:qE}{z:V}{r:qB}{qL:YD}{k:WJ}{A:Around}{E:qH}
def RelO.sdv{o:eU}{p:BI2}(h:RelO o (Option.map (·.2) (some p))):∃v,iL o/\B4E IO:=by
 cases o with
 |none=>exact h.elim
 |some v=>rw[PZ v h]
def c7C{Q:qH}(D:sP)(I:AN)(e:A1O)(l:AAB)(hl:A9D)(G:RelV z r)
  (h1:∀v o s',C0U->A6Q->B4E o->cS o) (h2:∀s',AAE->IW (cR a .dT (ASK z)) s'->cS r) :
  BPE "dict.setdefault" [AV,FT,r]:=by
 obtain⟨F,hd,xs,f,dd⟩:=uO c5i;have j:CC xs.length:=by rw[EX (Paired.length f) F]
 have g:=f.val k;rw[CH5 i z z hl]
 rw[D1Y PySem.F.slot_dict_setdefault PySem.F.entry_dict_setdefault PySem.F.args_dict_setdefault_3 (ELG b6B) ⟨tupleKind_room_in1 D,k,xs,a1s I.hok l,dd,j,pN B,DD y h' h C⟩]
 .rw[B]at g;rw[ET v e1 e2 RelO.sdv g];exact h1 v _ _ e1 UA e2
 .rw[y]at g;have d:AAE:=by
   cases e1:pF with
   |none=>rfl
   |some v=>rw[FF e1 g g.elim]
  refine h2 _ d ?_;obtain⟨q,es,ep,n,t,u,w,_,x⟩:=h;rw[EZ8 C (A7R n) ⟨i,hd,_,(EU9 f.put l G m),q,es,ep,n,t,u,w,x⟩ m m]
#where
noncomputable def b6q(td ty tx:TE):TE:=EH2 (∃qL k b,H3 a=BV .dT qL/\A9G/\YU H3 (gD k.map kV)/\A9D /\
 (∀v,C0U->Q v H3)/\(AAE->Q z (W1 H3 a .dT (ASK z))))
section
variable {o e f:Expr}{qN qM:Pos}{td ty tx:TE}
def b7s(F:A0S)(E:A0P)(C:C18)(D:E1T)(m:DS3):AJW "setdefault" rH DQT:=by
 rw[D44 PySem.F.slot_dict_setdefault PySem.F.type_dict_setdefault E R j K R];rw[CH9 K O P (b2o j d) O P (A9Z C j (λG M (XV y p L J) =>
  D4G (thn (AKC D M p J) λS T ⟨z,n,q,l,qL,k,b,g1,r,t,w,A,B⟩=>BZC)))]
 rw[ABV r (DFU G) L];exact c7C F q g1 t w l (λv U N g c i=>QU n c i (A v g)) λN g c=>QU _ c l (B g)
def c3R(d:HD)(c:sG)(a:C0M)(b:E13)(m:DS3:=by rw[CFM]):CI (AEN "setdefault" rH) DQT:=(F05 b7s)
#where
def b6m{d:qE}(x:AM6)(es:zZ)(ep:Nat)(c:Obj)(n:c.ExactDict)(hd:c.data=B92) :
  dI MeetsIn (Builtin.«tuple.__new__» (oH dC iI)) (BBI (A.handled=none/\vB d c/\CC es.size /\
   AE1 h' Heap tk qQ DB ((nJ LA h'.get?)->ItemsOf CD1 qQ es.size->A79 h'.objs.size E61))) :=
 .of_wp λA R s h=>by
  obtain⟨l,g,dd,tk,os⟩:=s;rw[T6 r j p h];rw[AD m sub_tuple_self f init_tuple_lookup];have u:=madeHere_tuple;have q:Shared.TypeIs ⟨l,g,dd,tk,os⟩ iI "dict":=AY1 j n.1;have D:ART l:=⟨c,j,n,hd⟩
  wp_walk using wpAny_loadPart' j,wpAny_typeOf q,kdu_collect (b3i x es ep) (BQ0 r) D p
  intro h' k qQ t a;rw[LW (Builtin.Tuple.tupleExact qQ.toList.toArray>>=λv=>ret v)];unfold Builtin.Tuple.tupleExact;rw[jV e qQ.toList.toArray qQ]
  rw[e];rw[BI (CRD (by show CC qQ.size;rw[AE QZ p]))];rw[NW (CD (h h' k qQ t a))]
inductive rTupleD(xs:AA)(H:Hp)(Q:VK):Prop
 |mk (d:qE) (qL:YD) (rss:LLI) (_:DDW) (_:CBV) (_:C5Q) (_:∀l zs,A4Z->AB1 zs->CX5 zs):fQ rTupleD
section
def b0G(A:EH):dV dC rTupleD:=by
 rw[QA K G];rw[TD d qL rss rfl hd C q];rw[VL F G.one F];obtain⟨t,l,c,v,E,es,ep,e1,e2,y,p,J⟩:=D2N d B71 DO4;obtain⟨hI,r⟩:=b3w v C;rw[AJO k c.length (Paired.length v)];rw[BAY f c.length p]
 refine callType_newIn PySem.F.called_tuple AG (PySem.F.typeCall_tuple_1 _) (PySem.F.newCall_tuple_1 _) (λm=>PySem.F.args_object_init_2 m _) PySem.F.entry_tuple_new (b6m l es ep E e2 y) ⟨CX2 (I.ok.hd A),e1,~~~b8x t k f,D2L g⟩;have z:qQ.toList=DLM:=by
  rw[CGO c.length]
  .rw[CF0 XN f]
   rw[kI B D (aS i BYD BYI)];rw[HC a DHB Array.getElem?_toList B]
   rw[p,List.getElem?_map,aG]at a;rw[C9N]
   rw[CEA D a]
  rw[CF5 XN f]
 have j:qQ=BV0 DLM:=by rw[<-z,Array.toArray_toList]
 have n:D7A:=I.kept (t':=tk) kp;have w:DOF DW2 E61:=by
  rw[AE j (n.laid (t':=tk) DCO BO (EYD (FX DW2) (LG (a0P t k)) _ (a1H E94 c)))]
 rw[ID AHO (AK h'.objs.size) _ w rfl (AM q (gJ n.hok.fresh) hI)]
variable {e:Expr}{es:BN}{t:TA}{p pos:Pos}
def b5k(f:D9S)(g:DBH)(b:EQ)(c:EH:=by rfl)(d:CG:=by rfl)(a:GG:=by rfl):yT "tuple" rTupleD:=(ADG N4 (b0G c) b0J b.h)
#where
#where
section
open PySem.AutoSeq1 (wpAny_loadPart')
section
variable {prog:qG}{w:World}{A:Around}{E:qH}{s:qC}
#where
section
variable {X:Cx}{e:Expr}{es:BN}{t:TA}{p pos:Pos}
#where
#where
section
open PySem.W
open Sem (wp)
section
variable {prog:qG}{w:World}{κ:Type}[ANI](kd:AD5 KeyKind κ)
variable {kd}
variable {A:Around}{E:qH}{s:qC}
#where
noncomputable def h2(kss:LLI):Int:=reduceHash (Builtin.Tuple.tupleHashOf (kss.map λks=>reduceHash (Builtin.Tuple.tupleHashOf (ks.map hashInt))))
section
variable {P:qG}{w:World}{H:Hp}{h:Heap}{a:qE}
#where
section
variable {X:Cx}{o i e f value:Expr}{pos pos' qN qM:Pos}{td ty tv tx:TE}
#where
#where
section
variable {A:Around}{E:qH}{X:Cx}{es:BN}{k:Nat}{pos:Pos}{prog:qG}{s:qC}{sp:Sp}{w:World}
section
variable {qK:DA}{σ:St}{H:Hp}{h':Heap}
#where
section
variable {a e:Expr}{ta:TA}{te:TE}{p p2 pos2:Pos}
#where
section
variable {e tg:Expr}{te:TE}{p:Pos}
#where
section
variable {k':Nat}{ps ps':AB}{sp':Sp}{x x' y:Str}{p p' ipos qM cpos' pos':Pos}{e e' c:Expr}{es':BN}{t t':TA}{tc:TT}{i:Nat}
#where
structure MethOkE(P:qG)(w:World)(K:qF)(mg:AZ)(base:Heap)(C:qE)(m:Str)(k:Nat)(ps:AB)(sp:Sp):Prop where
 ex:CDW AK6
def MethAt.fnE{P:qG}{K:qF}{mg:AZ}{base:Heap}{C:qE}{m qual:Str}{st:Stmt}{N ps:AB}(F:C77)(S:lG)(len:bM)
  (b:A1U qual (WP ->
   BQG (AAS AK6))):CFA BZ:=by
 rw[F0N]
def c3O{P:qG}{K:qF}{mg:AZ}{base:Heap}{N:AB}{qual:Str}{scope:Scope}{f:qE}{cd:qB}{outer:HB}{b:qC}{a:Hp}{E:XK}
  {C:qE}{m:Str}{ps:AB}{o e:Expr}{ta:TE}{t:TA}{qN:Pos}{pl:kU}(O:CFA k) (c:TR) (q:DTX)
  (n:JE uP o ta) (l:DNA)
  (g:EMO:=by rfl)
  (d:DV7:=by rfl)
  (r:eval B41 oU=(eval o oU>>=λi=>CTL [i] (getMethod i m pl) h h (ASO MQ oU) (CO6 [] oU)):=by rfl) :
  JE uP B41 (D0L E ta t):=by
 obtain⟨h,fd,h1,h2,j⟩:=O.ex;exact⟨CF7 b3n n.h j q h2 .nil c4I l.h g d r⟩
#where
section
open PySem.W
variable {X:Cx}
section
variable {e:Expr}{es:BN}{t:TA}{p pos:Pos}
#where
section
variable {k v:Expr}{tk tv:TE}{pos:Pos}
#where
#where
section
open PySem.Builtin PySem.Builtin.Str PySem.StrLaws
def a3h:CDF ys AB ys.map V.str (∃l:AAV Tok,us=strValues l/\l.map (·.1)=ys)
 |[],us,h=>by cases h;rw[PZ [] rfl]
 |MN,us,h=>by
  cases h with
  |cons r q =>
   rw[IM r];rw[aQ l e a3h q];rw[PZ ((y,t)::l) (B46 e)]
inductive rJoin(K:qF)(x:V)(vs:AA)(H:Hp)(Q:VK):Prop
 |mk (sep:Str) (p:qE) (ys:AB) (B:Nat) (_:DI5) (_:fD) (_:ACV p AYT) (_:C8A) (_:EY7) (_:E17) (_:E7K):C4C rJoin
section
variable {X:Cx}
def c3i(K:qF)(f:AQ:=by rfl):DIZ BZA:=by
 subst f;rw[fE w o n];rw[F4O i d g c];rw[IM o];rw[VL m n.one m];rw[B1H k r D9L];rw[aQ l b a3h k];have j:DTI:=by
  rw[AE b (joinFits d g)]
 rw[F04 meets_str_join_list j r.isList]
 match l,b with
 |[z],b =>
  rw[EWA]
  rw[ENU]
 |[],b =>
  rw[BD1]
  rw[EUU c]
  rw[EPR]
 |ENI,b =>
  rw[BD1]
  rw[EKZ c]
  rw[EDR]
#where
def a6K:AJ3 ys AB tk (A4U ys.map V.str (strsFrom tk ys))
 |[],_=>.nil
 |MN,tk=>.cons (NM tk) (a6K ys (tk+1))
inductive rSplit(x:V)(vs:AA)(H:Hp)(Q:VK):Prop
 |mk (a b:Str) (_:rC a) (_:QS D7U) (_:1<=b.length) (_:CC (a.length+2)) (_:AC0 (SF p (HW (Txt.split a b).map))):A0K rSplit
section
variable {X:Cx}
def b8f:MtR X "str.split" rSplit:=by
 rw[fE p n m];rw[TD a b rfl rfl j g q];rw[IM n];rw[GN u l m.one];rw[IG f l];have c:=split_le a b;have one:EEP KJ->nZ QR (A2U (BHO (ADK [Value.str a t]))):=λe=>by
  rw[e]at q;exact AVK s.toks (o:=BQ [CUL]) k ⟨A0D,_,0,CYG B4V,KC⟩ AL8
 by_cases h1:qZ E9M E9N
 .rw[CGJ (meets_str_split_cannot_occur a b t f h1) (one ?_)];rw[EY Txt.split AYK]
 .rw[RD h1' ((E9M || E9N)) false h1]
  have i:(b.length==0)=false:=by
   rw[BJ beq_eq_false_iff_ne b8t j]
  by_cases d:E0J=true
  .rw[CGJ (meets_str_split_not_found a b t f h1' i d) (one ?_)];unfold Txt.split;rw[AK5,AKJ]
  .rw[RD hf' E0J false d]
   have e:EEP (partsBetween a BMY b.length):=by
    unfold Txt.split;rw[AK5,BA d]
   rw[e]at q c;rw[CGJ (meets_str_split_sep a b t f h1' i hf' AF (~~~b8V g c)) ?_];exact AVK (AB6 _) (o:=HW (cD partsBetween a BMY b.length)) k ⟨LG (b8V g c),_,0,BX a6K,KC⟩ AL8
#where
def c0Y{α:Type}{c:α}:∀{a b u v:DI},c∉a->c∉b->a++c::u=b++c::v->a=b/\u=v
 |[],[],_,_,_,_,h=>by rw[AJ6 _ h];rw[AY rfl h]
 |[],A8P,_,_,_,e,h=>by
  rw[AJ6 h1 _]
  rw[HI (A82 h1) e]
 |eW,[],_,_,d,_,h=>by
  rw[AJ6 h1 _]
  rw[HI (PU h1 List.mem_cons_self) d]
 |eW,A8P,u,v,d,e,h=>by
  rw[AJ6 h1 h2]
  rw[HN e1 e2 (c0Y (λz=>d AK9) (λz=>e AK9) h2) (NG h1 e1) e2]
def W7(c:Nat)(x y:Str)(r:AB):C8I rT=x.cps.toList++c::C8I ZT:=by
 show D5E EGA=_;rw[Str.cps_append,Str.cps_append,Array.toList_append,Array.toList_append,List.append_assoc];rfl
def b0n{c:Nat}:∀{ps qs:AB},DAE->GY qs->CQ a ps C2M->CQ a qs C2M->qU HL ps (UB HL qs)->ps=qs
 |[],_,h,_,_,_,_=>AOC
 |_,[],_,h,_,_,_=>AOC
 |[p],[q],_,_,_,_,h=>LZ (show p=q from h)
 |[p],q::q2::r,_,_,b,_,h=>by
  rw[ERS p.cps.toList this b p]
 |DGU,[q],_,_,_,d,h=>by
  rw[ERS q.cps.toList this.symm d q]
 |DGU,q::q2::s,_,_,b,d,h=>by
  rw[D31];rw[W7,W7]at this;obtain⟨e1,e2⟩:=c0Y (b p List.mem_cons_self) (d q List.mem_cons_self) this;have f:qU HL (p2::r) (UB HL (q2::s)):=C9T e2;rw[C9T e1,b0n AL AL (λa e=>b a AKA) (λa e=>d a AKA) f]
def a2g{c:Nat}{ps:AB}(h0:DAE)(h:∀a∈ps,C2M):Txt.split DP6 HL=ps:=by
 refine b0n (c:=c) AJT h0 (AS a b) h (BX join_split)
 .have:=split_pos DP6 HL;rw[gU z];simp at this
 .exact split_free _ c a b
#where
section
open PySem.NumText
noncomputable def E3(n:Nat):Str:=Str.ofString (toString (EE n))
def a1x(n:Nat):AOP=E52 map Char.toNat:=PySem.W.KIN.signs_num n
def X8(n:Nat):AllDigits AOP:=λc b=>by
 rw[a1x]at b;rw[AGK ch a b];have r:=digit_range (Nat.isDigit_of_mem_toDigits AG AG a);rw[EX e r]
def X7{n k:Nat}(a:0<k):A0U k↔AGB k:=by
 rw[<-Nat.length_toDigits_le_iff (b:=10) AG a,show rJ=(E3 n).cps.toList.length by rw[Array.length_toList];rfl,a1x,List.length_map]
def a3b(n:Nat):GY AOP:=by
 rw[a1x];intro e;have h:=Nat.length_toDigits_pos (b:=10) (n:=n);rw[List.map_eq_nil_iff.mp e]at h;rw[HI h AG]
def b2s{n:Nat}(h:A0U 4300):PySem.intText? (E3 n)=some DO:=by
 have e:=intText_digits (X8 n) D8E h;rw[a1x,PySem.W.KIN.val_back]at e;exact e
def a7l:EB8 ((E3 n).cps.toList.head?≠AU 48):=by
 have key:EB8 (∃d,0<d/\d<10/\E52 head?=BV Nat.digitChar d):=by
  intro n;induction n using Nat.strongRecOn with
  |_ n g =>
   intro f;by_cases h:n<10
   .exact⟨n,f,h,ZW (Nat.toDigits_of_lt_base h)⟩
   .rw[A4S d a e (g CZ3 AF AF)];rw[A3Q d a c];rw[QV t (Nat.toDigits_append_toDigits (b:=10) (n:=CZ3) (d:=n % 10) AG AF (D5L AG)) Nat.div_add_mod t];rw[<-t,List.head?_append,e];rfl
 intro n f;rw[A4S d a e (key n f)];rw[a1x,List.head?_map,e];have:∀d:Nat,d<10->0<d->AU (((Nat.digitChar d).toNat))≠AU 48:=AG
 exact this d c a
def b5s:E0M (E3 0):=rfl
inductive rIntT(xs:AA)(H:Hp)(Q:VK):Prop
 |mk (x:Str) (n:Int) (_:mY TQ) (_:D4N 640) (_:IY PySem.intText? n) (_:RA n):fQ rIntT
inductive rStrI(xs:AA)(H:Hp)(Q:VK):Prop
 |mk (n:Nat) (_:mY qT) (_:DK3) (_:B4F E3 n):fQ rStrI
section
variable {X:Cx}{e:Expr}{t:TA}{p pos:Pos}
def b5P:dV A6M rIntT:=by
 rw[QA c r];obtain⟨x,n,rfl,a,b,q⟩:=h;obtain⟨u,rfl,t,rfl⟩:=r.one;exact PySem.W.KIN.call_text b a (pW qT)
def b5F:dV D6F rStrI:=by
 rw[EG9 n];refine cW a8M _ c Q I r (RB n ?_ q);have h1:n<2 ^ 1900:=Nat.lt_trans b BK;rw[CBW]
 .subst a;decide
 rw[ETG (Nat.lt_trans h1 BK)]
def c3N(d:D9V)(f:DBK)(b:sA)(c:A1L:=by rfl)(a:A15:=by rfl):AZV "int" rIntT:=DW8 b5P
def a4D(d:JK "str")(f:NB "str")(b:sA)(c:A1L:=by rfl)(a:A15:=by rfl):AZV "str" rStrI:=B0M N4 b5F c1i
#where
section
variable {X:Cx}{o e:Expr}{es:BN}{to:TE}{t:TA}{qN qM:Pos}
def Y9(K:qF)(h:YK)(g:EQ)(f:AQ:=by rfl)(b:DEJ:=by rfl)
  (d:lB:=by rfl)
  (c:OM:=by rfl) (i:CG:=by rfl) (a:RZ:=by rfl) :
  DVD BZA:=(ER2 c3i)
def a2T(K:qF)(h:YK)(g:EQ)(f:AQ:=by rfl)(b:aD "split":=by rfl)
  (d:lB:=by rfl)
  (c:OM:=by rfl) (i:CG:=by rfl) (a:RZ:=by rfl) :
  CXG "split" rSplit:=(CXI PySem.F.slot_str_split PySem.F.type_str_split b8f)
#where
#where
section
variable {K:qF}{Q:qH}{X:Cx}{qN qM pos:Pos}{e:Expr}{es:BN}{k:Bool}{t:TA}{te:TE}{w:World}
noncomputable def Itc(x:Str):It:=⟨B3R D7K,AII v (H'=H/\∃c,CP x.cps c/\AV2 HL),B3R DBE⟩
def b4e{P:qG}{tg:Expr}(it:qE)(x:Str)(t:Tok):BTC BWB (h.IsStrIter it "str_ascii_iterator" x t i) where
 mem:=AL
 obj:=ANV b (by
  rw[C6S]
  rw[CHO])
 keep:=zL k (let ⟨o,ho,r⟩:=st;PK (DLK ho) r)
 item:=by
  rw[F6V D7K];refine wpAny_pyNext_ascii_item st (c:=CVJ) BYH λh' g F=>?_;have B:gB BOI:=I.turned (t':=gN) (BSA F.extBut) l m n p q;rw[EC o e c d id g];exact CD (D3W BOI (.str (lS CVJ)) B OZ ⟨rfl,_,BYH,rfl⟩)
 done:=by
  rw[F6V DBE];exact wpAny_pyNext_ascii_end (I.ok.hd A) st BYH λh' C=>EW (BJJ (BSA C) l m n p q)
 self:=BCZ wpAny_pyIter_striter_ascii
inductive iSignI(R:eX)(v:V)(H1:Hp):Prop
 |mk (x:Str) (_:C48) (_:CV2 x.cps.all) (_:R (Itc x) H1):iSignI R v H1
noncomputable def c5f(tl:TE):TI:=DLV tl iSignI
section
variable {tg:Expr}
def c2y{l:Expr}{tl:TE}(hl:AO8):AX0 DYP:=by
 rw[AYR];refine nU hl g;rw[kB a f g];rw[A4S x rfl q q1];rw[IM f];rw[D41 wpAny_pyIter_ascii c a.kept (b4e _ x t)]
 rw[ED0]
def b3B{l:Expr}{tl:TE}(hl:C9Z):JI X tg l DYP:=AD9 c2y hl.h
#where
def b5B{src:OJ}{g:TG}{f:TT}{σ:St}{Q:VK}{x:Str}{H1:Hp}(e:CC x.cps.size)(a:A07)(h0:a 0 [] H1)
  (hl:CHE)
  (k:∀i c ys H,CP x.cps c->AWP->EPH (.str HL) d d (a AR ys d))
  (hd:AGS a x.cps.size A67):A1S f BWB :=
 a3d x.cps.size a h0 (F0B e v (by obtain⟨rfl,c,j,rfl⟩:=y;exact k i c ys _ j p))
  (EBF (CVC (BT6 _)))
section
variable {prog:qG}{A:Around}{E:qH}{s:qC}
def a5s{T qO:String}{b:qB}{rest:AI}{kw:rA}(hl:D13 "__init__" "object.__init__")
  (e:tZ Bind.madeBy T=pure (some qO)) (c:EB1) :
  A7F Builtin.«object.__init__» (aE iD) (s.TypeIs b T/\CXB s):=by
 refine Meets.of_wp (DR prog w A R s ⟨d,a⟩);cases rest with
 |nil =>
  cases kw with
  |nil=>rw[NW (CD a)]
  |cons y kw =>
   rw[ON]
   exact CD a
 |cons y rest =>
  rw[ON]
  exact CD a
def b0H{T qO:String}{Bn:Builtin}{args:AI}{kw:rA}{S:PySem.Spec}(b:TypeCalled T qO "object.__init__")
  (d:EB1) (m:A8Q (checkTypeCall T (aE args))) (c:A8Q (checkBuiltinCall qO (aE DZC)))
  (e:∀a,argsOk "object.__init__" (aE (a::args))) (l:AOO qO Bn) (g:Meets (Bn (aE DZC)) S)
  (h:S A.in1 (BG6 (λa s₁=>s₁.TypeIs a T/\Q a s₁)) s):EI (call A6L args kw):=by
 obtain⟨v,y,j⟩:=b.mro;rw[AD n b.made o b.sub];rw[BMS (mW callAny T _)];rw[SJ ⟨AWT,AWD F.entry_type_call⟩];rw[Around.under_plain (E7C weight_type_call_type) (E7C units_type_call_type)];rw[AD p b.notType q b.canCreate]
 rw[ON]
 refine AQH (codeAny_call_builtin b.plain l (wpAny_of_eq c (g prog w A.in1 _ s h))) r s₁ f;rcases r with x|fl
 .exact f
 cases fl with
 |ret a =>
  rw[jQ k f];rw[AD t b.init.lookup u (b.init.bind a)]
  rw[ON]
  rw[CTB (E1M b.init.plain F.entry_object_init b.init.check i (e a) ((a5s b.init.lookup b.made d) prog w A.in1 (CLD (Q a s₂)) s₁ (DG i k)))];rcases r₂ with x|fl₂
  .exact hr₂
  cases fl₂ with
  |ret r =>
   obtain⟨rfl,k⟩:=hr₂
   rw[ON]
  |_=>rw[B1C]
 |_=>exact f.elim
def b5w(l:qE)(xs:DB)(t:Tok) :
  A7F Builtin.«enumerate.__new__» (B7O [BVN,GV] (ADN 1)) (DIH /\
   A79 C1R (KQ ((s.heap.push AV6).push CHP))) :=
 (tH (by
  rw[bI e];rw[dU b h];have c:=sub_enumerate;have a:AC1 (DYN e) xs:=b
  rw[C36]
  intro Γ p f;change DM _ _ (pure (_:Bool)) _ _ _;rw[pC];rw[JZ c5s ?_]
  .rw[C36]
   rw[sD]
  .rw[C36]
   rw[sD]))
def b2t{e it l:qE}{i:Nat}{z:Int}{items:DB}{x a:qB}(N:AP2 s.heap z)(J:BB0)(hl:A19)(V:BYF)(ne:DZW)
  (U:∀(h':Heap) (t:Tok) (tk:Nat),D2O h' s.heap.objs.size->E9Y->C24 (cU #[ADN z,x])->DNR ->
   (B44 AHL BWY LA AJR)->A4V ZU) :
  EVQ Builtin.«enumerate.__next__» e:=by
 rw[B7F 2 N jC];rw[BI (a2J J hl V λh1 L u=>?_)];have h:AP2 h1 z:=AM u.extBut ne N;rw[B7F 3 h (rawInt z)];rw[B7F 4 h .none];rw[EMY wpAny_mkInt];rw[yH (EK2 (gE h1 gN) h h2 j y) j (AP2 h2 AFQ) j];rw[yH (EK2 (gE h2 gN) j d f B) f (AP2 d AFQ) f];rw[E2O K d.objs.size (by rw[B.1,XI,u.1])]
 have r:e<d.objs.size:=Heap.lt_size f;have m:AP2 (d.push DVN) AFQ:=KP f;rw[D42 m];rw[EMY wpAny_rule];rw[ASC m a];rw[yH (AIP m S n C) n (IsEnum S e it AFQ x) n];rw[NI];rw[iZ Builtin.SmallTypes.ownedTupleHandOut (wpAny_setField_rec n AL λT p D=>?_)];replace p:DY3 T:=p;refine AIP p G g F;replace g:DY3 G:=g;rw[D9O];have P:BST (c≠e) (uJ d.get?) G.get?:=λc o I q=>EMC I I I mX;have M:BW G.get? d.objs.size DVN:=EMC BXS BXS BXS KC;have O:G.objs.size=d.objs.size+1:=by rw[F.1,D.1,C.1,Heap.size_push]
 rw[SJ pR];show B1X d.objs.size _;rw[K]at M O g⊢;refine U G s.toks gN g (((ADB L.extBut y.extBut ne.symm B.extBut ne.symm)).at λo q=>P it o ne.symm q) M O λb o H R q=>P b o H (AM B.extBut H (ZK y.extBut H u.extBut R q))
def b5x{e it l:qE}{i:Nat}{z:Int}{items:DB}{f:qB}{Q:rY}(m:OG)(j:IsEnum s.heap e it z f)(a:BB0)(hl:A19)(n:BXO)
  (h:CSG x (AOE (c≠e) (c≠it->wP->ALE)) x (LV E x UI)) :
  EI (Builtin.«enumerate.__next__» (JJ (WI e))):=by
 rw[B7F 2 j jC];rw[zR (a7E m a hl n λh1 x b d=>h h1 x (λc o _ g q=>AM b g q) d)]
def a4N(a v:qB):A8Q (checkTypeCall "enumerate" (B7O KJ v)):=KK
def a6C(a v:qB):A8Q (BUW "enumerate.__new__" (B7O [BVN,a] v)):=KK
def b2E(a b v:qB):argsOk "object.__init__" (B7O bS v):=D4T
def b2u{l:qE}{xs:DB}{t:Tok}(b:DIH)
  (h:∀h',IsEnum h' GO s.heap.objs.size 1 .none->E62 h'->BN5 rD->AOE wP ALE->oC BV4) :
  EI (call BVN ATG [(DK "start",ADN 1)]):=by
 refine b0H F.called_enumerate AG (BX a4N) (BX a6C) (λd=>b2E d _ _) F.entry_enumerate_new (b5w (k:=k) l xs t) (GZ b);have e:C1R=GO:=CVU;have a:AH9 DGY CHP C1R _:=KC;have g1:A4F (ASR DGY CHP) AV6:=B2J;show _/\_;rw[e]at a;rw[e];rw[DU (FZ a) (h _ a ?_ (NG Heap.size_push e) λc o x=>nT x)];rw[BUS k g1]
#where
noncomputable def It1(K:qF)(k:Bool)(a:qE):It :=
 ⟨D2D B6S,
  AII v (∃p x,C0A/\ND/\H'=AGF CAW/\CZI B6S),
  D0E B6S⟩
structure ETurn1(k:Bool)(e it a:qE)(i:Nat)(h:Heap):Prop where
 en:∃old,IsEnum h e it (1+QW) old
 t1:ItAt k h it a i
def b0U{P:qG}{kt:Nat}{tp:Pos}{a e it:qE}(ne:DZW) :
  ENG AOU BLF e (ETurn1 k e it a i h) where
 mem:=AL
 obj:=ANV c (by
  rw[A96 f f]
  .rw[aJ l st.en];exact DX q AI6
  rw[CGS st.t1.get])
 keep:=zL k ⟨DSQ l ⟨l,AMM e q⟩,st.t1.at λo q=>DLK q⟩
 item:=by
  rw[F36];obtain⟨xs,x,j,C⟩:=L;rw[EC us O N zu I.sqk j];rw[ET u hu R O.get C];rw[F3F (EIW
   (wpAny_call_entry F.slot_enumerate_next p F.entry_enumerate_next
    (b2t g st.t1 N (x:=u) D84 ne λh' t tk V W Y a4 Z=>A71) (F.args_enumerate_next_1 _)))]
  rw[qX];refine wpAny_letOwnedTupleGo_enum (s:=ZU) V λh2 J n=>?_;have y:oX BLF DC1:=λc f q=>by
   have:∃o,wP:=by
    rw[A96 f f]
    .exact ES g
    rw[CCX st.t1.get]
   rw[AY3 o z this (DL7 z q)]
  have m:A02:=WZ;have M:=AM n.extBut (y e AL).symm Y;have kk:EPL BLF:=λc o f q=>by
   rw[AP8 f];exact AM n.extBut jO (Z c o jO XC q)
  have S:EC4 CAW :=
   I.turnedT (ch:=[e,it]) B rfl kk (EY9 [ADN (1+i),u] B4V R M)
  have U:=S.tok tk;refine⟨QR,_,U,rfl,IZ x rfl m rfl (AS zs hz),⟨ES ((show SQ+EE AR=1+i+1 by rw[XW 0x583e9b863a2e2026d]) ▸ J),W.extBut n.extBut ne.symm⟩,C7Q⟩
  .rw[AE (I.sqk_inj hz j) C]
  rw[ELO y B]
 done:=by
  rw[F36];obtain⟨xs,j,r⟩:=L;rw[EC us O N zu I.sqk j];have l1:=O.length;rw[F3F (EIW
   (nX F.slot_enumerate_next p F.entry_enumerate_next (b5x DA7 g st.t1 N (AVM a0P r l1) (DD h' x hk C)) F.args_enumerate_next_1))]
  rw[F3X C (I.turnedL (ch:=[e,it]) B) q];rw[AP8 f];exact hk c o jO XC q
 self:=λA i s Q E st h=>DSQ _ (wpAny_pyIter_enum q h)
inductive iEnum1I(K:qF)(R:eX)(vs:AA)(H1:Hp):Prop
 |mk (k a:_) (_:A8U) (_:(∃xs,SqK k K H1 a xs)) (_:R AOU H1):DQA iEnum1I
noncomputable def c7t(K:qF)(ta:TA):TI:=B8M ta iEnum1I
section
variable {M:Model}{A:Around}{E:qH}{s:qC}{env:Env}
def a6g{T:String}{rest:BN}{kws:APW}
  (h:DM M A (BU2 ANX) ((λvs s₁=>wpAny M A (evalAll ((backToKw pos (keywordEach kws env)).map (·.2))) (λqL s₂=>wpAny M A (call (.type T) vs (((backToKw pos (keywordEach kws env)).filterMap (·.1)).zip qL)) Q E s₂) E s₁)) E s)
  (c:ANX=(false,BF2 env)::ASO rest env:=by rfl)
  (f:BGM ANX:=by rfl) (b:B2T BBG ((·.1.isSome)):=by rfl) (d:OS (BBG).any ((·.1.isNone)):=by rfl) :
  OT M (callWith pos A6L [] ANX BBG):=by
 have h2:DM M A (evalArgs A6L true ANX BBG) (λa s₁=>DM M A (call A6L ([]++a.pos) a.kw) Q E s₁) E s:=by
  rw[c]at h⊢;exact evalArgs_kwB b h
 unfold callWith;rw[OR wpAny_holding (eS h2 (λa s₁ h₁=>ADO wpAny_standAt))];simp only[f,d,Bool.or_false];rw[kR];rw[zR (eS h₁ (λr s₂ g=>DST (nP wpAny_point g)))]
#where
def c0l(K:qF){v:Nat}{y:Pos}{a:Expr}{ta:TA}{p kp np:Pos}{nk:Nat}(o:JK "enumerate")(r:NB "enumerate")(m:JA X KJ ta)(l:AQ:=by rfl)
  (n:AEO KJ=(false,ATP)::C30:=by rfl) (e:BFT KJ:=by rfl) :
  JI X (E3Z y) (EZP "enumerate" KJ "start" (BD 1)) (c7t K ta):=by
 rw[F09 l R o r a8R];refine a6g (B3O m.h z C) n e;rw[EL1 j x C wpAny_Constant_int];obtain⟨k,D,rfl,⟨xs,t⟩,q⟩:=q1;rw[VL g x.one g];have d:=j.tok BKH;rw[EC z g w F d.sqk t];refine b2u w (DP h' i A E B);refine wpAny_pyIter_enum (s:=CIA s1 h' BKH) i ?_;refine⟨A4G,[A4G,s1.heap.objs.size],_,_,H1,rfl,DK0 BKH B,b0U (nne (VR 13776102005)),⟨ES i,A⟩,C7Q,q⟩;have b:s1.heap.objs.size<=c:=by
  rw[A96 f f]
  rw[AJP]
  rw[DI1]
 exact d.fpOk b (d.hok.fresh b)
def b5p{a:qE}{xs:AA}{g:TG}{tb:TS}{D:Ends}{σ:St}{H:Hp}(c:A8K)(h0:C0P)
  (hl:CDK B6S)
  (h:∀i x σ H p,aA->AT9->ND->ADH (CD7 σ CAW) wQ wQ) (hd:C6Z) :
  AO1 (A9M ->
   CGM (AOU).stop (AOU).go (AOU).yld):=by
 rw[D2K E4R];have q1:=D2F;rw[D00]
 .rw[B0N (BMA q1 D7X) wQ (oR CY4 b p')];obtain⟨j,x',e,e2,f,l⟩:=y;subst e f;exact h i x' σ _ j (AZ7 l) p e2
 .rw[CDR]
  rw[B0Q D0B]
inductive rInS(x:V)(y:V)(H:Hp)(Q:VK):Prop
 |mk (c:Nat) (z:Str) (_:rC HL) (_:y=.str z) (_:BL2 B5H):YJ rInS
inductive rLenS(xs:AA)(H:Hp)(Q:VK):Prop
 |mk (z:Str) (_:mY D8Z) (_:BVL) (_:DD7):fQ rLenS
noncomputable def c5q(i j:Int):Prop:=0<j/\j<A95
section
variable {a b c o i:Expr}{ta tb tc td ty tv:TE}{p:Pos}
def c6w:B4R rInS:=by
 rw[NK a b];rw[RC c z rfl rfl q];rw[A6Z a b];rw[GM PySem.P.in_str];rw[StrLaws.found_one];exact C3P
def c0b(c:CF)(d:DL)(e:B6O):A91 .In rInS:=AQY a1M c6w e
def a8C(i:B36)(j:B3Z)(f:sA)(g:A1L:=by rfl)(d:A15:=by rfl):DNB rLenS:=⟨G1 (r:=rLenS) (λp s σ H x u Q I r h=>by rw[T6 z a b c];exact a8O p s σ H x u Q I r ⟨z,a,b,c⟩) i j a8Q f.h AG AG g d⟩
def c5e(c:CF)(d:DL)(e:B2E:=by rw[AO0]):CER rIxS:=AQY b7q c7m e
def c3D(d:CF)(e:DL)(f:E12)(g:DRN:=by rw[bT]):JT X DPK (R7 (a7D A0V A0V ta tb tc)):=F14 b6V
def b7G:ECR c5q:=APH i j (by
 rw[EXT A95];refine floordiv_int DHZ EFM (cA PyProof.noPylong_of_log2 ?_);refine jL Nat.log2_lt AF ?_;rw[rP b (j.natAbs<A95)]
 exact Nat.lt_trans b BK)
def c3Q(c:CF)(d:DL):ECU c5q:=VZ b7G
def X2(c:HD)(a:sG)(hi:ANJ)(b:c7T i:=by rw[AO0]):nQ .Subscript o i DRH:=⟨c2G AX3 a.h hi.h b⟩
#where
structure JPs(X:Cx)(pos:Pos)(keys:AK2)(values:BN)(trs:A1I):Prop where
 h:AN3 keys values trs
section
variable {k v:Expr}{ks:AK2}{vs:BN}{tk tv:TE}{trs:A1I}
def c7c:BPR [] [] []:=⟨c2n⟩
def a4C(a:CI k tk)(c:CI v tv)(b:BPR ks vs trs):ED2 EIX:=⟨b7f a.h c.h b.h⟩
def c7k(h:ED2 trs)(a:B2T A7E ((·.isSome)):=by rfl)(c:FO A7E=FO A72:=by rfl)(b:FO A7E<=15:=by decide):nQ .Dict A7E A72 DYO:=⟨c2F h.h a c BU8 b⟩
#where
noncomputable def c0u(items:DB)(x:qB)(i:Nat)(_:C9B):Sem (ForInStep C9B) :=
 match CPP with
 |BNL=>do
  let b <-eqBool y x
  if b=true then do
    let r <-retInt (i:Int)
    pure (ForInStep.done (some r,()))
   else pure (ForInStep.yield (none,()))
 |x=>BPJ (none,())
def b3F{prog:qG}{w:World}{B:Around}{E:qH}{s:qC}{items:DB}{x:qB}{f:rW}{k:Nat}{Q:KR ((C9B))}(n:DDX)(a:CAB)(l:E8Q)(i:∀j y,DJX->B9S B y x f j)
  (q:Q (AU (Fin.done (.ret E2F)),()) dG):∀m j,j+m=items.size->j<=k->C2R B (forIn (List.range' j m) (AY8 CP7,()) (c0u items x))
 |0,j,h,b=>AF
 |m+1,j,h,b=>by
  rw[List.range'_succ,List.forIn_cons];have c:j<items.size:= ~~~b9l h
  have hi:JH items items[j]:=by simp[c]
  rw[NI];rw[EY c0u hi];rw[BI (i j _ hi prog w _ _ ?_)];rw[GC j k]
  .rw[DQ];rw[a];rw[bI o]
   wp_walk
   exact q
  .rw[l j (BT 0x3d88b76bacba23f5bbd6 b e)];rw[pC];exact b3F n a l i q m OC (~~~c4N h) (BT 0x6baf40fa964e95ccdbbd6 b e)
def c0s(l:qE)(items:DB)(n:Nat)(dd:EN)(sl:YM)(x:qB)(f:rW)(k:Nat)(i:DDX)(a:CAB)(c:E8Q) :
  CZA Builtin.«tuple.index» x
   (BBI (AIC/\(∀j y,DJX->B9S A.in1 y x f j)/\A63 E2F dG)):=by
 intro prog w A R s h;rw[bI o];obtain⟨m,b,h⟩:=h;unfold Builtin.«tuple.index»;simp only[Std.Legacy.Range.forIn_eq_forIn_range',Std.Legacy.Range.size]
 wp_walk using PySem.AutoSeq1.wpAny_loadPart' m
 rw[jV e ((min items.size items.size-0+1-1) / 1) items.size]
 rw[e];refine b3F i a c b ?_ items.size 0 (VR 6111941725) (Nat.zero_le _);rw[NW h]
inductive rIndex(K:qF)(x:V)(vs:AA)(H:Hp)(Q:VK):Prop
 |mk (a:qE) (xs:AA) (y:V) (n:Nat) (f:rW) (k:Nat) (_:IE) (_:B40) (_:A0J) (_:n<=8) (_:(∀j z,DOY->BHV n z (f j))) (_:ALS) (_:CAB) (_:(∀j,j<k->CZN)) (_:RA k):C4C rIndex
section
def b8i(D:HD):zP "tuple.index" (rIndex X.K):=by
 rw[fE K G F];obtain⟨a,xs,y,n,f,k,rfl,rfl,p,C,w,B,e,A,q⟩:=h;cases G;rw[aQ u E a3Q F];obtain⟨z,its,r,o,l,t,m,hd⟩:=AEM B2M p;obtain⟨cls,dd,data,sl⟩:=o;have d:cls=.type "tuple":=congrArg Prod.fst t;simp only at hd;subst d hd;have b:=r.length;rw[oM PySem.F.slot_tuple_index (FZ l) PySem.F.entry_tuple_index PySem.F.args_tuple_index_2 (CBH c0s sl u f k (B18 b B) e A) (CG3 l (FH j J c) k OZ)];rw[OA c (JH its J) c]
 have i:kN:=by rw[rB b c]
 obtain⟨L,hw,g⟩:=r.get (List.getElem?_eq_getElem i);rw[AW c hw hw];exact EqV.at I (BFX w j i) (by show bW ASS n;rw[KZ 0x43cc610c9cffc0327d312a7 D C]) g E
noncomputable def c8n(r:sT)(to:TE)(t:TA):TE:=SL to x ((∃a xs,IE/\C7R a xs)/\VF t vs (r x vs H2 Q))
variable {o:Expr}{to:TE}{name:Str}{id:String}{r:sT}
def c6l(j:Slot "tuple" name id)(l:APA)(B:zP id r)(C:A0O)(A:fS)
  (d:ALV:=by rfl)
  (g:LU (ARP
   && ARO):=by rfl)
  (f:OM:=by rfl) (D:CG:=by rfl) (c:RZ:=by rfl) :
  CA9 (c8n r to t):=by
 rw[ETZ d g f C M];obtain⟨x,H1,n,G,⟨a,xs,E,k⟩,q1⟩:=M;subst E;cases G;obtain⟨z,its,rr,u,i,q,m,hd⟩:=CH8 a B2M (n.hok a _ k);refine⟨"tuple",id,PySem.F.plainAttrs_tuple,j,l,B1B i (BP4 q),(λb y=>by cases y;rw[AX u i (DES q)]),?_⟩;have p:=BQY A n q1;rw[D]at p⊢;rw[EHM ((by show(false || (backTo qM (starEach es X.env)).any (·.1))=false;rw[c]<;>rfl)) p L K (XV vs w J F) (AE8 B K AV vs AV L Q w rfl J F)]
def b5j(K:qF)(j:HD)(h:YK)(g:EQ)(f:AQ:=by rfl)(b:DEK:=by rfl)
  (d:lB:=by rfl)
  (c:OM:=by rfl) (i:CG:=by rfl) (a:RZ:=by rfl) :
  CI (ABZ "index") (c8n (rIndex K) to t):=by
 subst f;exact⟨c6l PySem.F.slot_tuple_index PySem.F.type_tuple_index (b8i j) h.h g.h b d c i a⟩
#where
noncomputable abbrev TF:=St->Hp->FC Str ((D8H))
noncomputable def c9r:TF:=λ_ H qQ Q=>Q qQ H
noncomputable def c9s(te:TE)(t:TF):TF:=EGJ (∃x,C48/\CA0 x/\CGD x)
noncomputable def c9t(te:TE)(t:TF):TF:=EGJ ((∃x,C48/\D6D/\CA0 x/\CGD x)∨QE n (v=.int n/\DK3/\CA0 qW/\CGD qW))
noncomputable def tFs(t:TF):TE:=WC σ (ZG t Str.empty λx H1=>D6D/\Q (.str x) H1)
structure JFs(X:Cx)(es:BN)(t:TF):Prop where
 h:D48 qQ Str Q D8H (t σ H qQ Q) (Joins SD X.A X.xe (lH evalEach es) qQ (λx s1=>∃H1,B9O/\Q x H1) s)
section
variable {e1 e2:Expr}{t:TF}
def a2V:JFs X [] c9r:=CHM ⟨H,I,h⟩
def Z0(b:YL)(d:DOR):C66 JFs c9s:=CHM (by
 show MD _ bR;refine AWO b.h;obtain⟨x,H1,a,g,y,f,c,q⟩:=i;subst f;rw[IG tk g];rw[EO y tk rfl c (VP d.h _ Q a q)])
def R5(g:YL)(c:DOR):JFs X (EV3::es) (c9t te t):=CHM (by
 show MD _ (LQ EV3);refine wpAny_FormattedValue_plain (nU g.h k);obtain⟨x,H1,b,d,q⟩:=k;rcases q with⟨y,rfl,j,a,q⟩|⟨n,rfl,i,a,q⟩
 .rw[IG tk d];exact wpAny_formatField_str (jA y tk a (VP c.h _ Q b q)) (jA y _ a F1C) j
 .rw[IG tk d];refine wpAny_formatField_int ?_ (oR _ a F1C);rw[CS f n 0]
  .subst f;decide
  rw[ETG (Nat.lt_trans i BK)])
def b0m{M:Model}{A:Around}{E:qH}{Q a:KR Str}:∀(ps:qA (Sem qB)) (qQ:Str) (s:qC),Joins M A E ps qQ Q s->(∀x s1,Q x s1->a x s1)->Joins M A E ps qQ a s
 |[],_,_,h,k=>AJD h
 |_::ps,_,_,h,k=>thn h λ_ s1 (EOD q)=>EOD (b0m ps _ s1 q k)
def c0r(h:JFs X ENJ t):CI (.JoinedStr ENJ pos) (tFs t):=⟨APE Q q (by
 rw[GM wpAny_JoinedStr];exact MZ b0m (DE5 Str.empty _ I q) λx s1 ⟨H1,a,b,q1⟩=>⟨b,TQ,H1,a.tok _,OZ,q1⟩)⟩
#where
section
variable {a b c:Expr}{ta tb tc:TE}
def c3C(d:CF)(e:DL)(f:E12)(g:DRN:=by rw[bT]):CI DPK (a7D A0V A0V ta tb tc):=F14 b7x
#where
inductive rCount(x:V)(vs:AA)(H:Hp)(Q:VK):Prop
 |mk (l:qE) (xs:AA) (y:V) (_:A0B) (_:B40) (_:fL) (_:A9U) (_:AI9) (_:RA E2U):A0K rCount
inductive rIndexL(x:V)(vs:AA)(H:Hp)(Q:VK):Prop
 |mk (l:qE) (xs:AA) (y:V) (k:Nat) (_:A0B) (_:B40) (_:fL) (_:A9U) (_:AI9) (_:ALS) (_:(∀z,A86 k z->eqV z y=true)) (_:(∀j z,j<k->DOY->lT eqV z y)) (_:RA k):A0K rIndexL
section
noncomputable def bkV:qB->V
 |.none=>.non
 |B2D=>aC
 |CA6=>NQ
 |E1F=>TQ
 |_=>.non
def c5n{x:V}{v:qB}(f:sJ)(h:aL):bkV v=x:=by
 cases x<;>first | (cases h;rfl) | (rw[B1E h];rfl)|cases f
def b3P{xs:AA}{its:AI}(r:wV)(h:AI9)(y:V){u:qB}(k:A9U)(l:LJ):∃e:DGM,(F0S e):=by
 classical
 rw[DU (λv=>CJ (∃x,sJ/\aL/\AYW=true)) (DP j x v f i)];rw[eV m a g f];rw[AW i a a];have d:sJ:=D5P List.all_eq_true.mp h x f;cases e:AYW with
 |true=>exact decide_eq_true ⟨x,d,g,e⟩
 |false =>
  rw[GM decide_eq_false];rintro⟨x',b,c,e'⟩;have:x'=x:=by rw[<-c5n d g,c5n b c]
  rw[cJ this e e' e']
def b8j(p:HD):zP "list.count" rCount:=by
 rw[fE D C B];obtain⟨l,xs,y,rfl,rfl,k,i,fs,q⟩:=h;cases C;rw[GN u m B.one];rw[A7M o (I.lstM k)];obtain⟨d,a⟩:=b3P r fs y i m;rw[oM F.slot_list_count qY F.entry_list_count F.args_list_count_2 (EKJ SeqAt.list_countAt _ u d) (CG3 e C9Y E2U ?_)]
 .rw[ANL hj CFJ];have b:kN:=by rw[rB o hj]
  have f:=D7X;rw[eV E c g f];rw[AW hj c c];rw[AE (a j _ _ f hj) (ETN (.flat (CB7 fs b) i) p g m)]
 .have:ESW:=by
   clear q e k;have key:∀(xs:AA) (its:AI),wV->(F0S d)->ESW:=by
    intro xs its r;induction r with
    |nil=>rw[fU]
    |cons r1 _ A =>
     intro h;rw[List.countP_cons,List.countP_cons,A λj x v f t=>h OC x v f t,h 0 _ _ rfl rfl]
   exact key xs its r a
  rw[IR s.toks];rw[BZE ((its.toArray.toList)) its,this]
def b4V(G:HD):zP "list.index" rIndexL:=by
 rw[fE L K J];obtain⟨l,xs,y,k,rfl,rfl,E,A,fs,g,i,o,q⟩:=h;cases K;rw[GN u C J.one];rw[A7M B (I.lstM E)];obtain⟨D,b⟩:=b3P r fs y A C;have d:k<its.toArray.size:=by rw[jB B];exact g
 rw[oM F.slot_list_index qY F.entry_list_index F.args_list_index_2 (EKJ SeqAt.list_indexAt _ u D k d (by rw[cY z sizeLine_eq];omega) ?_ ?_) (CG3 e C9Y k OZ)]
 .rw[C41 g];rw[AE (b k _ _ a AJY) (i _ a)]
 .intro m hm hmk;have p:m<xs.length:= ~~~b8m g hmk
  rw[C41 p];rw[AE (b m _ _ a (BM hm)) (o m _ hmk a)]
 .rw[ANL hj CFJ];have c:kN:=by rw[rB B hj]
  rw[C41 c];obtain⟨M,f,t⟩:=r.get a;rw[AW hj f f];rw[AE (b j _ _ a hj) (ETN (.flat (CB7 fs c) A) G t C)]
variable {o:Expr}{to:TE}
def a2U(K:qF)(j:HD)(h:YK)(g:EQ)(f:AQ:=by rfl)(b:aD "count":=by rfl)
  (d:lB:=by rfl)
  (c:OM:=by rfl) (i:CG:=by rfl) (a:RZ:=by rfl) :
  ANF "count" rCount:=ANH PySem.F.slot_list_count PySem.F.type_list_count (b8j j)
def a1P(K:qF)(j:HD)(h:YK)(g:EQ)(f:AQ:=by rfl)(b:DEK:=by rfl)
  (d:lB:=by rfl)
  (c:OM:=by rfl) (i:CG:=by rfl) (a:RZ:=by rfl) :
  ANF "index" rIndexL:=ANH PySem.F.slot_list_index PySem.F.type_list_index (b4V j)
def a8D:EFI b6s:=⟨b7u⟩
def c3T{td ty:TE}(c:HD)(b:sG)(a:C0M)(m:F2C:=by rw[CFM]):CI (AEN "get" UP) DRI:=⟨b7w AX3 b.h a.h m⟩
def c3S{f:Expr}{td ty tx:TE}(d:HD)(c:sG)(a:C0M)(b:E13)(m:DS2:=by rw[CFM]):CI (AEN "get" rH) DQS:=(F05 b7v)
#where
#where
universe L2
namespace L2
variable {D:AB}
namespace TabS
open PySem L2.Tab
structure CameS(rows:B2Y)(i:Nat)(D:AB):Prop where
 nd:D.Nodup
 mem:∀x,B4B↔EER
 le:D.length<=i
noncomputable abbrev SetS(prog:qG)(w:World)(h:Heap)(a:qE)(D:AB):Prop:=h.SetOf (AAN strKind) a (λk=>CJ (k∈D)) D.length
section
variable {prog:qG}{w:World}{A:Around}{R:kP}{I:qE}{fp wr:EG}{G:E16}{n:Nat}{P:DOB}{St:BX2}
def c9x{S:qE}{x:Str}{t:Tok}{s:qC}{E:qH}{Q:YE}(b:ELT)(f:C04 D.length)
  (h:∀h' c,DHK S->SetS prog w h' S (if B4B then D else x::D)->Q c BOI):EI (CBJ setAdd S):=by
 unfold setAdd;have hi:CBJ (AVB strKind is) x=true:=by show CBJ Value.isStrOf x=true;simp[Value.isStrOf]
 refine wpAny_holding (wpAny_bind (AVB strKind pyHash hi ?_));refine wpAny_setAddHashed_of (s:=dG) hi rfl b f λh' d a=>h h' _ d ?_;rw[XT B4B]
 .rw[DF c];refine PyProof.Rows.SetOf_congr a D9J DAM;rw[GC k x]
  .rw[DQ];simp[c]
  .simp[e]
 .rw[BA c];refine PyProof.Rows.SetOf_congr a D9J DAM;rw[GC k x]
  rw[BXE]
  .simp[e]
def b5D{rows:B2Y}{i:Nat}(h:ECQ):BP5 AR (if DSP then D else CV7::D):=by
 rw[XT DSP]
 .rw[DF c];rw[DV h.nd EJL (DSI h.le)]
  rw[EPU b]
  .rw[A9T q]
   .subst q;rw[AE e c]
   .exact EFN
 .rw[BA c];rw[DV (List.nodup_cons.mpr ⟨c,h.nd⟩) EJL (EHG h.le)]
  .rw[CA B2C]
   .rw[AX i BUM z]
   rw[EPU z]
  .rw[A9T q]
   .subst q;rw[AE e List.mem_cons_self]
   .exact JC EFN
def setS_at{h h':Heap}{a:qE}(x:C5M h D)(k:E7F):C5M h' D:=by
 obtain⟨o,es,ep,t,e1,e2⟩:=x;rw[ID o es ep t (k o e1) e2]
def b4j(W:F5J)(S:qE)(l:DNZ)(rows:B2Y)
  (y:EA2 JP (P i v)) (N:CB<scanBound) :
  EX3 D AB (n-i=k->B3I->E1O->ELT->ECQ ->
   F27 L (E9W L) (BP5 n L) ->
   EPF):=by
 have m:DO0:=E6Z l;have d:E86:=λb p=>JC p;intro k;induction k with
 |zero =>
  rw[F5U];have J:i=n:= cT c4S C
  rw[F1R J f q];exact wpAny_pure (hR s' D (q.mono d) (QB DH4 EMB) B)
 |succ k O =>
  rw[F5U];have a:JP:= ~~~c4O C
  rw[BTN (CCP a f (DP v s' M x q))];rw[IG tk (y i v a M)];have F:E9W D:=QB DH4 EMB;rw[F0F (Value.str (rows i) tk) (CYM tk) (c9x F (by have:=B.le;exact lq 0x73d9a3a233055e5338 N a this) (DD h' c u H))];rw[ED6 (O AR _ _ (~~~c8O C) a (F1N x p) H (b5D B)) K z r j g]
  .rw[AE (BTJ u.2 (ARW l h p)) e]
  .refine hR K z (Moved.trans W.gtrans (ES0 q.mono d p) r) j g;rw[ESS u.2 p]
#where
section
variable {prog:qG}{w:World}{A:Around}{E:qH}{s:qC}
def c4e{b:Bool}{h:Heap}{a:qE}(e:XJ (APP b)):C5M h [] :=
 ⟨_,#[],0,_,e,B61,rfl,(λe h=>AVL),(λk=>AL),(AG),(APL),rfl⟩
def call_set_strs{l:qE}{items:DB}{rows:B2Y}{Q:qH}
  (hh:OG) (hl:DL5) (y:EA2 BKN BOT) (hn:C04 items.size)
  (h:D34 AB D1A (CX1 ->
   C8H)) :
  CEL:=by
 rw[CI3]
 rw[ON]
 rw[CHW];cases r with
 |error e=>exact K
 |ok fl =>
  cases fl with
  |ret z =>
   rw[IG rfl K];generalize a2:(ABR)=a;rw[D4A]
   rw[ON]
   rw[CHK (BK6 D1A (CX1 /\
     ADU))]
   .rw[CI4 u EOX a2H V3 C1D]
    rw[CHZ IsList u]
    wp_walk
    rw[DYG]
    have q:l≠AEG:=by
     rw[AA5 p]
    rw[CDP (by
     rw[CFB])]
    have m:DY6
       = BVJ:=KP P
    refine b4j DYA s.heap.objs.size D rows y hn CYE 0 _ [] CU7 IC
     CD4 (c4e m) ⟨List.nodup_nil,(λx=>⟨(DH5),(λ⟨j,hj,_⟩=>D24)⟩),BO⟩ ?hR
    case hR =>
     rw[CI6 (by
      rw[AA5 S])]
     rw[CG1]
   .cases r₂ with
    |error e=>exact hr₂
    |ok fl₂ =>
     cases fl₂ with
     |ret r =>
      rw[CI0]
      rw[ON]
      rw[CHF]
     |_=>rw[B1C]
  |_=>exact K.elim
#where
universe TabS
open PySem PySem.Spec PyProof.Rows
noncomputable def a9w(P:qG)(w:World)(a:qE)(n:Nat):HO:=AZO (∃D:AB,TabS.SetS P w h a D/\D.length=n)
inductive rSetS(K:qF)(P:qG)(w:World)(ys:AA)(H:Hp)(Q:VK):Prop
 |mk (p:qE) (ws:AB) (_:DPF) (_:ACV p BKW) (_:C04 ws.length) (_:∀(a:qE) (D:AB),A01->D.Nodup->(∀x,B4B↔x∈ws)->D.length<=ws.length->Q AV (A5S (BHU D.length))):EMR rSetS
inductive rLenN(P:qG)(w:World)(ys:AA)(H:Hp)(Q:VK):Prop
 |mk (a:qE) (n:Nat) (_:DPE) (_:cQ (BHU n)) (_:n<AEX) (_:RA n):EMZ rLenN
section
variable {X:Cx}
def b2B(K:qF)(P:qG)(w:World)(E:EH)(A:AQ:=by rfl)(C:kD:=by rfl)(hw:kE:=by rfl):dV A23 DRK:=by
 subst A C hw;rw[ZE ys S O];obtain⟨p,d,rfl,L,J,q⟩:=h;rw[VL N O.one N];have F:X.A.handled=none:=I.ok.hd E;rw[B1H r B (I.list L)];have c:its.length=d.length:=by rw[<-r.length,List.length_map]
 refine TabS.call_set_strs (rows:=λi=>d.getD i Str.empty) F B.isList (DD i v hi l) (BOM c J) (DR h' tk D z m G)
 .rw[OA l ALI l]
  have g:i<d.length:=by rw[<-c];exact IB l
  rw[eV T k y (show(d.map V.str)[i]?=BV V.str d[i] by rw[List.getElem?_map,DA1];rfl)];rw[AW l k k];rw[IM y];rw[AY t (DCP DA1)]
 .have hfr:A02:=WZ;have n:=z;obtain⟨o,es,ep,t,g1,R⟩:=n;rw[DN (EZO a9w D.length G ⟨XO D z,iK g1,λh1 h2 ⟨D,q1,M⟩ kk=>⟨D,TabS.setS_at q1 kk,M⟩⟩ (q _ D hfr m.nd (KW x) (by have:=m.le;rw[jP List.size_toArray c this this]))) m.mem];constructor
  .rintro⟨j,f,rfl⟩;rw[List.size_toArray,c]at f;show E3L∈d;rw[E3U CVE f]
  .intro hx;rw[ANL f hx];rw[DV j (by rw[List.size_toArray,c];exact IB f) ?_];show x=E3L;rw[List.getD_eq_getElem?_getD,f];rfl
def b5M(P:qG)(w:World)(i:kD:=by rfl)(hw:kE:=by rfl):B4X D8Y:=by
 subst i hw;rw[ZE ys v m];obtain⟨a,n,rfl,k,r,q⟩:=h;rw[VL l m.one l];obtain⟨⟨D,j,g⟩,_⟩:=(AEM (E22 a9w n) k);obtain⟨o,es,ep,t,g1,c,d,_,_,p,e,f⟩:=j;have b:es.size=n:=by rw[f,g]
 refine call_len_set g1 c d e (SG b) (BEG qT (ES (LZ b)))
variable {e:Expr}{es:BN}{t:TA}{p pos:Pos}
def c3I(K:qF)(P:qG)(w:World)(h:D9W)(i:DBL)(d:EQ)(f:EH:=by rfl)(b:AQ:=by rfl)(c:kD:=by rfl)(hw:kE:=by rfl)(g:CG:=by rfl)(a:GG:=by rfl) :
  DJF DRK:=(F2E (b2B K P w f b c hw))
def c3M(P:qG)(w:World)(f:B36)(g:B3Z)(c:EQ)(b:kD:=by rfl)(hw:kE:=by rfl)(d:CG:=by rfl)(a:GG:=by rfl) :
  yT "len" D8Y:=(ADG G1 (b5M P w b hw) a8Q c.h)
#where
open PySem PySem.Spec PyProof.Rows PySem.Builtin PySem.Builtin.Str PySem.StrLaws
inductive rJoinT(K:qF)(x:V)(vs:AA)(H:Hp)(Q:VK):Prop
 |mk (sep:Str) (p:qE) (ys:AB) (B:Nat) (_:DI5) (_:fD) (_:ASU p AYT) (_:C8A) (_:EY7) (_:E17) (_:E7K):C4C rJoinT
section
variable {X:Cx}
def b8h(K:qF)(i:AQ:=by rfl):DIZ DCC:=by
 subst i;rw[fE D A y];rw[F4O k g j f];rw[IM A];rw[VL w y.one w];rw[B1H r C D9Y];rw[aQ l b a3h r];have m:DTI:=by
  rw[AE b (joinFits g j)]
 rw[F04 meets_str_join_tuple m (by rw[xE e c n d C];rw[EO o n e c d])]
 match l,b with
 |[z],b =>
  rw[EWA]
  rw[ENU]
 |[],b =>
  rw[BD1]
  rw[EUU f]
  rw[EPR]
 |ENI,b =>
  rw[BD1]
  rw[EKZ f]
  rw[EDR]
variable {o e:Expr}{es:BN}{to:TE}{t:TA}{qN qM:Pos}
def c0k(K:qF)(h:YK)(g:EQ)(f:AQ:=by rfl)(b:DEJ:=by rfl)
  (d:lB:=by rfl)
  (c:OM:=by rfl) (i:CG:=by rfl) (a:RZ:=by rfl) :
  DVD DCC:=(ER2 b8h)
noncomputable def a0e(z:Str)(n:Nat):Str:=⟨CN6 n z.cps.toList⟩
inductive rRepX(x:V)(y:V)(H:Hp)(Q:VK):Prop
 |mk (z:Str) (n:Nat) (_:rC z) (_:C2E) (_:z.length<=10) (_:YC) (_:xJ E2S):YJ rRepX
def b0s(c:KL):AJ2 n a KL ((cB n c foldl (λb d=>b++d) a).toList=a.toList++hV n c.toList)
 |0,a=>AL
 |CB,a=>by
  rw[EHZ (b0s c n) List.replicate_succ List.flatten_cons Array.toList_append]
def c3h(z:Str)(n:Nat):PySem.Txt.mul z n=E2S:=by
 rw[dJ PySem.Str.ext' Array.toList_inj.mp];unfold PySem.Txt.mul a0e;rw[CBW]
 .subst a;rfl
 rw[BA (bE 0x1df7de1e8b03418125)];by_cases h1:qZ (DO==1) (z.length==0)
 .rw[DF h1];simp only[Bool.or_eq_true,beq_iff_eq]at h1;rcases h1 with h1|h1
  .have:n=1:= BS 0x346f1040d8627f7e555 h1
   rw[X1];simp
  .have hz:z.cps.toList=[]:=by
    rw[<-List.length_eq_zero_iff,Array.length_toList];exact h1
   rw[hz];have:∀m:Nat,hV m CVH=[]:=λm=>by induction m with
    |zero=>rfl
    |succ m b=>rw[B91 b]
   rw[this]
 .rw[BA h1];rw[PQ b0s]
def c2L:ALX rRepX:=by
 rw[NK b c];rw[TD z n rfl rfl a h1 q];rw[A6Z b c];refine cL PySem.SB.mul ?_ E10 E10 λd k=>⟨.str (a0e z n),H,?_,ES (LZ c3h),q⟩
 .rw[B27,B27];rfl
 .rename_i hn _;have h2:BH 1000<=CRC n:=Int.le_ediv_of_mul_le (BS 0x1a5a29350491955 hn) AF;omega
 .have hm:z.length*(DO).toNat<=10*1000:=Nat.mul_le_mul a AF;rw[E5J (_ > sizeLine) (SG sizeLine_eq)]
 .exact I.tok _
def a5L{a b:Expr}{ta tb:TE}{pos:Pos}(c:CF)(d:DL):AM7 rRepX:=(VZ c2L)
#where
universe L2
namespace L2
open PySem PySem.Spec PyProof.Rows
section
open PySem.W
noncomputable def c3X:B6B
 |.non=>true
 |_=>false
noncomputable def a7g:DGM
 |.none=>true
 |_=>false
inductive rInN(K:qF)(x:V)(y:V)(H:Hp)(Q:VK):Prop
 |mk (p:qE) (xs:AA) (_:BIZ) (_:ACU p) (_:ANA) (_:(TH xs EL5)) (_:Q (.bl (xs.any c3X)) H):B82 rInN
section
variable {X:Cx}
def c6x(K:qF)(d:HD)(k:AQ:=by rfl):B4R DCD:=by
 subst k;rw[NK t z];rw[TD p xs rfl rfl l m q];cases t;cases z;rw[ANE B l];have c:=r.length;have key:AJ2 i hi (i<its.length) (B9S X.A.in1 AKS .none a7g AKS/\∃b:AJU,a7g AKS=c3X AT0):=λi hi=>by
  have o:CP xs (xs[i]'(A18)):=MX A18;rw[eV C e1 e2 o];rw[AIE aG];rcases m _ (CU5 (A18:AJU))with e|⟨a,vs,e,g⟩
  .rw[e]at e2;have f:AKS=.none:=e2;rw[DN ⟨?_,A18,DTZ⟩ f];rw[RV ((D3N X.K .non (y:=.non) rfl rfl).at I (A:=X.A.in1) (u:=.none) (v:=.none) (by rw[EUK 0xdcfc0ed2fdb2db95c0d9a7312a7]) rfl rfl) (b0x rfl)]
  .rw[e]at e2;have f:LR AKS a:=e2;obtain⟨j,_,pt,_⟩:=EIK g;rw[DV ?_ A18 DTZ];rw[AE f (SeqAt.EqAt.tuple_none pt (by rw[EUK 0x293bb827e6abf67e0a7312a7]))]
 have g:its.any a7g=xs.any c3X:=by
  rw[Bool.eq_iff_iff,List.any_eq_true,List.any_eq_true];constructor
  .rw[F12 hi];exact DX (List.getElem_mem b) (PU e' e)
  .rw[F12 DUC];rw[AX (its[i]'(DUC)) (List.getElem_mem _) (AJ e' e)]
 refine SeqAt.in_listAt a7g pl.isList C9Y (BGS ?_)
 .rw[A7L CFJ];exact(key i hi).1
 .rw[DE (show its.toArray.any a7g=its.any a7g by simp) g q]
variable {a b:Expr}{ta tb:TE}{pos:Pos}
def c0d(K:qF)(g:HD)(d:CF)(e:DL)(f:B6O)(c:AQ:=by rfl):VY .In DCD:=(CMJ K9 (c6x K g c))
#where
#where
section
section
variable {prog:qG}{w:World}{A:Around}{I l S:qE}{vs:AI}{kw:rA}{R:kP}{h₀:Heap}{s:qC}
#where
section
variable {prog:qG}{w:World}{A:Around}{E:qH}{s:qC}
#where
section
variable {X:Cx}{e:Expr}{es:BN}{t:TA}{p pos:Pos}
#where
#where
universe L2
namespace K52
open PySem PySem.Spec PyProof.Rows L2
section
variable {C a b c p:qE}{F L W rss:LLI}{H H':Hp}{P:qG}{Q:VK}{base:Heap}{cs:AO}{i j k:Nat}{qL:YD}{mg:AZ}{o:HO}{r u v:qI}{vs:AA}{w:World}{σ:L2.St}
noncomputable def top(i:Nat):Stmt:=PySem.Challenge.pw_leastlays_k52_desk_lines_refused.main.body.getD i (.Pass CF1)
noncomputable abbrev b1n:Stmt:=BB 1
noncomputable abbrev a4T:Stmt:=BB 2
noncomputable abbrev a3m:Stmt:=BB 11
noncomputable abbrev b1k:Stmt:=BB 12
noncomputable abbrev a1c:Stmt:=BB 13
noncomputable abbrev a3n:Stmt:=BB 14
noncomputable abbrev a7V:Stmt:=BB 15
noncomputable abbrev a7W:Stmt:=BB 17
noncomputable abbrev b1m:Stmt:=BB 18
noncomputable abbrev a7R:Stmt:=BB 20
noncomputable abbrev b1l:Stmt:=BB 21
noncomputable abbrev a4W:Stmt:=BB 22
noncomputable abbrev b1j:Stmt:=BB 23
noncomputable abbrev a2o:Stmt:=BB 24
noncomputable abbrev a1d:Stmt:=BB 25
noncomputable abbrev a0a:Stmt:=BB 27
noncomputable abbrev a4U:Stmt:=BB 28
noncomputable abbrev a7S:Stmt:=BB 29
noncomputable abbrev a1b:Stmt:=BB 31
noncomputable abbrev a0A:Stmt:=BB 32
noncomputable abbrev a7U:Stmt:=BB 34
noncomputable abbrev a2j:Stmt:=BB 36
noncomputable abbrev a2n:Stmt:=BB 40
noncomputable abbrev a3q:Stmt:=BB 41
noncomputable abbrev b1o:Stmt:=BB 43
noncomputable abbrev a2p:Stmt:=BB 44
noncomputable abbrev a3o:Stmt:=BB 49
noncomputable abbrev a0B:Stmt:=BB 50
noncomputable abbrev V6:Stmt:=BB 51
noncomputable abbrev Z9:Stmt:=BB 52
noncomputable abbrev a4V:Stmt:=BB 54
noncomputable abbrev a1a:Stmt:=BB 55
noncomputable abbrev a0z:Stmt:=BB 56
noncomputable abbrev a2m:Stmt:=BB 57
noncomputable abbrev Z5:Stmt:=BB 58
noncomputable abbrev a2k:Stmt:=BB 61
noncomputable abbrev Z8:Stmt:=BB 62
noncomputable abbrev Z6:Stmt:=BB 64
noncomputable abbrev a0Z:Stmt:=BB 65
noncomputable abbrev a0y:Stmt:=BB 66
noncomputable abbrev a2l:Stmt:=BB 67
noncomputable abbrev V5:Stmt:=BB 68
noncomputable abbrev Z7:Stmt:=BB 69
noncomputable abbrev a7T:Stmt:=BB 71
noncomputable abbrev a0x:Stmt:=BB 72
noncomputable abbrev a4Z:Stmt:=BB 73
noncomputable abbrev a5a:Stmt:=BB 74
noncomputable abbrev b6F:Stmt:=BB 77
noncomputable abbrev a3p:Stmt:=BB 82
noncomputable abbrev a4Y:Stmt:=BB 83
noncomputable abbrev V4:Stmt:=BB 84
noncomputable abbrev a2q:Stmt:=BB 88
noncomputable abbrev a1f:Stmt:=BB 89
noncomputable abbrev a3r:Stmt:=BB 90
noncomputable abbrev a0D:Stmt:=BB 91
noncomputable abbrev a0C:Stmt:=BB 92
noncomputable abbrev a2r:Stmt:=BB 93
noncomputable abbrev a0E:Stmt:=BB 94
noncomputable abbrev a1e:Stmt:=BB 95
noncomputable abbrev a1g:Stmt:=BB 96
noncomputable abbrev a4X:Stmt:=BB 97
noncomputable abbrev O1:Stmt:=A0M 0
noncomputable abbrev a6t:Stmt:=A0M 1
noncomputable abbrev K6:Stmt:=A0M 2
noncomputable abbrev a5b:Stmt:=A0M 3
noncomputable abbrev a0b:Stmt:=A0M 4
noncomputable abbrev V7:Stmt:=A0M 5
noncomputable abbrev V8:Stmt:=A0M 6
noncomputable abbrev O9:Stmt:=ALR 0
noncomputable abbrev a0F:Stmt:=ALR 1
noncomputable abbrev M8:Stmt:=ALR 2
noncomputable abbrev O8:Stmt:=ALR 3
noncomputable abbrev a0c:Stmt:=ALR 4
noncomputable abbrev T3:Stmt:=A0N 0
noncomputable abbrev a2s:Stmt:=A0N 1
noncomputable abbrev a0d:Stmt:=A0N 2
noncomputable abbrev T1:Stmt:=A0N 3
noncomputable abbrev L9:Stmt:=A0N 4
noncomputable abbrev V9:Stmt:=A0N 5
noncomputable abbrev a5c:Stmt:=A0N 6
noncomputable abbrev O0:Stmt:=AQE 9 0
structure Tx(mg:AZ):Prop where
 b_ValueError:LK "ValueError"
 b_abs:LK "abs"
 b_all:LK "all"
 b_any:LK "any"
 b_bool:LK "bool"
 b_enumerate:LK "enumerate"
 b_int:LK "int"
 b_isinstance:LK "isinstance"
 b_len:LK "len"
 b_list:LK "list"
 b_max:LK "max"
 b_min:LK "min"
 b_range:LK "range"
 b_set:LK "set"
 b_sorted:LK "sorted"
 b_str:LK "str"
 b_sum:LK "sum"
 b_tuple:LK "tuple"
 b_zip:LK "zip"
noncomputable def pk(b:qE)(l t k:Int):KM:=[(DH "own",FT),C2N "left" l,C2N "seed" t,C2N "many" k]
section
variable (b:qE)(l t k z:Int)
def c5X:J3 hZ BL1=BWJ:=CO
def c2t:J3 hZ AF2=AYL:=CO
def c2q:J3 hZ AF3=FP t:=CO
def c2r:J3 hZ AF4=BX9:=CO
def b7j:CGN AF2 ET0:=CO
def b7h:CGN AF3 EJW:=CO
def b7i:CGN AF4 (AQ2 z):=CO
def c2s:a3v [] (EXS l k)=hZ:=CO
#where
structure PotAt(H:Hp)(a b:qE):Prop where
 ne:AMJ
 ex:∃(cs:qI) (l t k:Int),BGU/\C0H
def PotAt.same(h:MO)(s:BG):VE:=by
 rw[F4C h1 h2 BX5 D9B]
def L6(h:MO){xs:AA}(d:B39 c):BZI:=by
 rw[F5S (dP d h1) (dP d h2)]
def E6(h:MO)(d:EJ c):BZI:=by
 rw[F5S (oV h1 d) (oV h2 d)]
def a8a(h:MO)(d:BZI):BDP BP6:=by
 rw[AP8 d];rw[F4C e1 e2 (AJ (C4I kH) e1) (AJ (C4I d.2) e2)]
def IT.pot{v:V}{ns:qI}(h:C3H)(d:MO)(o:NV):DHL:=by
 rw[MB c e q h c e (o c _ (L6 d q) q)]
def Its.pot{H H':Hp}{vs:AA}{rss:LLI}{a b:qE}(h:TU)(c:MO)(o:NV):AMV:=(E8D (IT.pot e2 c o))
def b1C{l:EG}(s:AKT)(hp:ND):EWD:=TC a e (by
 rw[AE (AWH hp) BBC])
def a5r(o:NV)(c:VE)(hp:VJ):ND:=by
 rcases e:H p with _|u
 .rfl
 .rw[AJI (AM o (E6 c hp) e) hp]
section
variable {K:qF}
inductive IspPot(K:qF)(vs:AA)(H:Hp)(Q:VK)(E:XK):Prop
 |mk (a:qE) (ns:qI) (_:A8U) (_:BA5) (_:GT ns.length) (_:∀p b H',ND->LI->PotAt H' p b->BG->B2O):E92
noncomputable def c4D(K:qF):Sp:=λvs H Q E=>E92
def sc__law_pot:DDU ["_law_script","_law_seed","_law_own","_law_cell"] a2q:={}
def c6F(F:RQ "_law_pot" a2q "_law_script")(T:AT):EN7:=by
 rw[BP sc__law_pot j n]
 rw[SA a ns]
 .obtain⟨a,ns,rfl,hS,hl,k⟩:=h;rw[RX l]
  rw[BL (DI3 A6
 (DUT sc__law_pot.nd
 (A1 (B65 3 sc__law_pot.nd
 (DI3 (B47 (AHU (N5 (mH a2W 1) E4Z)))
 (A3 (C3 (DS c8T 3 E48)
 (B78 PM pB)
 B7))))
 (SX c7k (EYU PM (EYU JD c7c))))))]
  rw[fC b c];rw[IL m H ABW c];rw[CV (ZP a (ES (m.seq hS)))];rw[JZ (O5 (K:=K) (a:=a) (xs:=ATS) (λi σ H2=>Ex3 λ(BH t) (cs:qI) (v:eU)=>An3 (σ=[ZL,FP t,BWJ,v]) (cs.length<=i) (H2=SF b A4K)) (AH5 17 [] none BO rfl)
   (λi σ H2 _ (IZ _ _ _ _ e)=>A6D e ((qV c).seq hS))) ?_]
  .rintro i x σ H2 hx ⟨t,cs,v,rfl,hcs,rfl⟩;have hi:i<ns.length:=by rw[wB DAP]
   rw[dZ z (U7 hx)];rw[CV ⟨_,rfl,_,_,rfl,rfl,BXA,_,rfl,_,_,rfl,rfl,(A4M 2147483587),_,_,rfl,rfl,_,_,rfl,rfl,_,_,rfl,rfl,C65,?_⟩];rw[CV ⟨_,rfl,_,_,rfl,rfl,EE4,_,_,rfl,rfl,_,rfl,nY⟩]
   .refine⟨_,rfl,CW (lU _ UJ),_,rfl,b,_,_,rfl,rfl,A0,LG (lq 0xd566f1c41ba601cf01163667ddc80e8 hl l hcs hi),?_⟩;exact IZ (cs++[z]) _ rfl (by rw[wI];simpa using hcs) (BOQ a2F)
   .exact IZ cs _ rfl (AJN hcs) rfl
  .rintro σ H2 ⟨t,cs,v,rfl,hcs,rfl⟩;refine λp d=>vY A0 (EXS 0 0) (cG (4<=15)) ?_;rw[c2s,a2F];have g:ZS:=A7 (o:=A4K) A0 d;rw[ZZ A4K c];exact k p b _ (s1.free d) c ⟨g.symm,cs,0,t,0,A0,B48 g⟩ (s1.upd d)
inductive IspNext(vs:AA)(H:Hp)(Q:VK)(E:XK):Prop
 |mk (a b:qE) (m:Int) (_:wO AHF) (_:MO) (_:0<m) (_:m<A95) (_:∀r H',0<=r->r<m->VE->NV->CVS r):GX IspNext
noncomputable def a3j:Sp:=HS IspNext
def sc__law_next:DJ ["_law_pot_here","_law_many","_law_drawn","_law_mixed"] ["_law_pot_here","_law_many"] a1f:={}
def c2X(F:C0I "_law_next" a1f "_law_many")(T:AT):AAK:=by
 rw[BP sc__law_next M N]
 rw[AAG a b m]
 .obtain⟨a,b,m,rfl,⟨ne,cs,l,t,k,r,v⟩,hm0,hm1,kk⟩:=h;have n:=N.u60;rw[RX D]
  rw[BL (A1 (AIN (K2 fZ A6) (c0c K n fZ (C8 jaN))
 (A3 (BBU (uM b0o fZ A6)))
 B7)
 (A1 (AFA a0p fZ
 (BU 2 sc__law_next.nd (WA a2X fZ 1)
 (A1 (BBU (WA c3Q fZ 1))
 B8E))
 B7)
 (A1 (BBU (AHU fZ))
 (BU 3 sc__law_next.nd (B47 (a2W (N5 fZ (a2W fZ A6)) A6))
 (A1 (BBU (B47 (DS a2W 3 (AHU E4Z))))
 (FE (WA a2X (c7j fZ A6) 1)))))))]
  have y:BD3 "left" AYL:=BD0 c2t AF2
  have I:BD3 "own" BWJ:=BD0 c5X BL1
  have gS:BD3 "seed" (FP t):=BD0 c2q AF3
  have G:BD3 "many" BX9:=BD0 c2r AF4
  rw[CI5 L "left" ET0 b7j AF2]
  rw[CI5 R "seed" EJW b7h AF3]
  rw[CI5 O "many" (AQ2 z) b7i AF4]
  rw[BCP (σ=[ZL,AW4,none,none]/\NV/\∃(cs:qI) (l:Int),tR a .dK hZ/\YU H' A4K)]
  case fin =>
   clear r v;rintro σ H1 ⟨rfl,d,cs,l,r,v⟩;rw[F62 a (y r)]
   .refine⟨_,rfl,a,_,rfl,y r,_,rfl,_,_,rfl,rfl,hm0,?_⟩;rw[CV ⟨_,rfl,a,_,rfl,y r,_,rfl,_,_,rfl,rfl,⟨hm0,hm1⟩,_,rfl,a,_,rfl,L r,?_⟩];rw[WW (kk _ _ EEG DSW (F33 v) DEA)]
   .refine⟨_,rfl,a,_,rfl,G r,_,_,rfl,rfl,_,rfl,a,_,rfl,O r,?_⟩;rw[HC j (L1 H1 a DYI b A4K) (A5 ne.symm) v]
    have g:upd H1 a DYI a=BV .dK BL4:=A0;have u:BY3 EMF:=DEA;rw[A7T EMF g j u];refine⟨_,rfl,a,_,rfl,gS g,_,rfl,a,_,rfl,G g,_,_,rfl,rfl,BXA,_,_,rfl,rfl,_,_,rfl,rfl,BXA,_,_,rfl,rfl,C65,?_⟩;generalize J:(t+(BZ)*104729)*48271 % 2305843009213693951=x;have x0:SE:=by rw[EX J (CUC AG)]
    have U:x<2305843009213693951:=by rw[EX J (CUD AG)]
    rw[CV ⟨_,rfl,_,rfl,_,_,rfl,rfl,(A4M 1009),_,_,rfl,rfl,_,_,rfl,rfl,B9U,_,_,rfl,rfl,C65,_,rfl,a,_,rfl,R g,?_⟩];refine⟨_,rfl,a,_,rfl,gS A0,_,_,rfl,rfl,CQR,_,rfl,_,_,rfl,rfl,hm0,?_⟩;exact kk _ _ EEG DSW (F33 j) (aB u.set)
  refine APD a (y r) (a1u AB5 (λe=>C1 (C14 yG cs l r v)));refine BF c8d b b cs cs (λS q=>VO a _ (I r) q) v λp C=>?_;rw[AD g (K5 (o:=BQ []) r C) j (K5 (o:=BQ []) v C)];have d:BY3 B50:=(yG).upd C;rw[B1J B50 g j d];cases cs with
  |nil=>exact C1 (C14 d [] l g j)
  |cons c cs =>
   rw[WL ⟨_,rfl,a,_,rfl,I g,PV j,b,_,0,0,_,rfl,rfl,j,AG,AG,seqIndex_of AG AL,rfl,?_⟩];have B:upd H1 b (bN (GS sL V.int).eraseIdx 0) a=BV .dK hZ:=by rw[A41 ne g]
   refine VO a _ (L B) (C14 (B5A d.set AL) cs c A0 ?_);rw[A5 ne.symm,A0];rfl
inductive IspOf(vs:AA)(H:Hp)(Q:VK)(E:XK):Prop
 |mk (a b l:qE) (xs:AA) (_:wO GV) (_:MO) (_:fL) (_:QX l) (_:D9G) (_:RW) (_:EDH r (r∈xs) r):GX IspOf
noncomputable def c1E:Sp:=HS IspOf
def b1i:sN "_law_pot_here" "_law_some" "_law_pot_here" "_law_some" a3r:={}
def c8J(F:C0I "_law_of" a3r "_law_some")(T:AT)(c:AAK):BCO:=by
 rw[BP b1i i n]
 rw[pG a b l xs]
 .obtain⟨a,b,l,xs,rfl,hP,hl,hn,h0,h1,k⟩:=h;rw[GF (F7 K JD (BFA n.mono XL))];have m:EE xs.length<A95:=yU (show GT AHC by exact b8E h1);refine⟨_,rfl,_,rfl,_,rfl,l,_,rfl,ALJ,a,b,_,rfl,hP,~~~b8F h0,m,DR r H1 p o e d⟩;obtain⟨j,rfl⟩:QE j (r=j):=⟨r.toNat,AF⟩;have g:kN:= ~~~b9i o
  refine⟨l,_,_,_,rfl,rfl,B22 d hn hl,K4 (j:=j) (List.getElem?_eq_getElem g),k _ H1 (List.getElem_mem g) e d⟩
#where
def a6i{ns:qI}(h:k<ns.length):C3W ns.map jU=FP (ns.getD k 0):=by
 rw[EYX]
def sqt{K:qF}{xs:AA}(h:A0J):BFI true:=SqT.of h
noncomputable def Bel(xs ys:qI):Bool:=zV (λa b=>CJ (a<=b)) xs ys all id
def c7U(xs ys:qI):zV (λa b=>A5V (a<=b)) xs ys all trV=DIE:=by
 unfold Bel;induction xs generalizing ys with
 |nil=>rfl
 |cons x xs c =>
  cases ys with
  |nil=>rfl
  |cons y ys=>simp only[List.zipWith_cons_cons,List.all_cons,c ys];rfl
def a7x{γ:Type}(f:A0Z)(g:C31):ESA
 |[],_=>rfl
 |HU,[]=>rfl
 |IF,MN=>CGL a7x
section
variable {K:qF}
#where
def c0H(n:Nat):hV n ADY=CLC n V.int:=by
 induction n with
 |zero=>rfl
 |succ n a=>rw[EW5]
noncomputable def dot(xs ys:qI):Int:=zV (λa b=>a*b) xs ys sum
noncomputable def Ans(rss:LLI)(ys:qI):Bool:=cP rss.all r DXE
noncomputable def Sm(ys:qI):Prop:=∀z∈ys,-bD<z/\z<bD
section
variable {K:qF}
inductive IspRowSum(vs:AA)(H:Hp)(Q:VK)(E:XK):Prop
 |mk (x:_) (y:_) (xs:_) (ys:_) (_:C81) (_:AOD) (_:fV) (_:RW) (_:AMH) (_:B4Z DIF):GX IspRowSum
noncomputable def a0k:Sp:=HS IspRowSum
def b1e:B8X "row" "row" a3m:={}
def b1x(F:AKH "row_sum" a3m "row")(T:AT):BBZ:=by
 rw[BP b1e c j]
 rw[BCB]
 .obtain⟨_,_,xs,ys,rfl,⟨a,rfl,ha⟩,⟨b,rfl,hb⟩,hl,hs,k⟩:=h;rw[GF (lQ b2l T.b_sum (WK (CCY
 BAC) (AMS a2W)))]
  rw[BTS (b4b (caps:=[]) (C1Q (x*y)) hl BSO rfl (λx y H1 g _ e _ q=>EXY (.inr (hs y e)))) d];rw[C9R a7x (x*y)];exact F00 DB6
inductive IspSums(vs:AA)(H:Hp)(Q:VK)(E:XK):Prop
 |mk (a:qE) (y:V) (us:AA) (rss:LLI) (ys:qI) (_:C2B) (_:sF) (_:OI) (_:fV) (_:rV) (_:B6G) (_:AMH) (_:A14 B7Z):GX IspSums
noncomputable def b1c:Sp:=HS IspSums
def c1R:DOO b1k:={}
def c2T(F:B31 "sums" b1k)(T:AT)(b:BBZ):CF4:=by
 rw[BP c1R e d]
 rw[AAA a y ys]
 .rw[F7D c];rw[GF (eM (ZQ "row" "one" uW AG0
 (gL (uC "row"))) (kA d.mono aF))]
  rw[EL3 (TB a7A [BNL] (λr=>CCU) c (aK ha) hI rfl (λv r H1 m d j s1 q=>AZY v y r ys j (hy.same s1) (hl2 r d) hs q)) g];rw[BAM (AVA CCU) (GS B7Z)];rw[B99 c g c]
inductive IspIsAns(vs:AA)(H:Hp)(Q:VK)(E:XK):Prop
 |mk (a:qE) (y:V) (us:AA) (rss:LLI) (ys:qI) (_:C2B) (_:sF) (_:OI) (_:fV) (_:rV) (_:B6G) (_:AMH) (_:rG E5F):GX IspIsAns
noncomputable def a4x:Sp:=HS IspIsAns
def a7P:DOO a1c:={}
def a8h(F:B31 "is_answer" a1c)(T:AT)(b:CF4):BB1:=by
 rw[BP a7P g l]
 rw[AAA a y ys]
 .rw[F7D hl];rw[GF (AIT (wX "total" (G7 K (B5G l.mono a3w aF))
 (wF "total")) (AHY Y7))]
  refine F1H hl hl2 c;rw[GN q d c];rw[C47 q d];rw[EF (a9b (caps:=[]) (λx=>E87) (BUQ List.length_map HP hl) (aK d) rfl (λx H2 n _ _ q=>SI rfl q)) H2 p m j];rw[AP6 p ?_]
  .rw[B1A];intro v c;rw[dZ x DBA];rfl
  .have e:(GS B7Z λx=>E87).all trV=E5F:=by
    rw[List.all_map,List.all_map];unfold Ans;congr 1;funext r;show AMD (CCU=V.int 0) DXE;simp
   rw[AE e (k _ (s1.trans (m.upd j)))]
#where
def a8T{α β γ:Type}(f:AO7 Int)(g:C31):∀(xs:DI) (ys:A7W),D43
 |[],_=>rfl
 |HU,[]=>rfl
 |IF,MN=>CGL a8T
noncomputable def c4H(rss:LLI)(ts:qI)(j:Nat):Int:=zV (λt r=>t*AKW) ts rss sum
noncomputable def b2G(rss:LLI)(ys:qI)(j:Nat):Int:=DI9 B7Z
noncomputable def Rs(n:Nat)(rss:LLI):Prop:=ATX (AYF n (Sm r))
def Sm.at(h:Sm r)(a:j<r.length) : -bD<AKW/\AKW<bD:=by
 refine B5N;rw[FK List.getD_eq_getElem?_getD pO List.getElem_mem _]
section
variable {K:qF}
inductive IspPullOf(vs:AA)(H:Hp)(Q:VK)(E:XK):Prop
 |mk (a:qE) (y:V) (us:AA) (rss:LLI) (ts:qI) (j n:Nat) (_:vs=[AV,y,rR]) (_:sF) (_:OI) (_:UE y ts) (_:GT ts.length) (_:kM) (_:YC) (_:Rs n rss) (_:B4Z (DI9 ts)):GX IspPullOf
noncomputable def a9m:Sp:=HS IspPullOf
def b1f:DJ B0D B0D a3n:={}
def b1y(F:IJ "pull_of" a3n B0D)(T:AT):EOK:=by
 rw[BP b1f d c]
 rw[xV a y us rss ts j n]
 .obtain⟨a,_,us,rss,ts,j,n,rfl,ha,hI,⟨b,rfl,hb⟩,hl,hj,hn,hR,k⟩:=h;rw[GF (lQ b2l T.b_sum (WK (CDT "total" "row" "j" ATM yN
 (xB D0J D0J)) (DS a2W 0 DQ9)))]
  refine xC true true b a CN7 BHK;rw[EF (TB b5X [AW5] (λt r=>DT (t*AKW)) hl (AF5 CNK CNJ) hI rfl (λx v r H1 l _ c g _ q=>?_)) H1 p s e]
  .rw[GN va hva g];obtain⟨e1,e2⟩:=hR r c;exact⟨_,rfl,_,rfl,_,rfl,va,_,_,_,rfl,rfl,GR hva,DM3 e1,_,_,rfl,rfl,bQ e2.at (CZJ e1),q⟩
  .rw[a8T (λt r=>t*List.getD r j 0) V.int];exact F00 D73
inductive IspFalls(vs:AA)(H:Hp)(Q:VK)(E:XK):Prop
 |mk (a:qE) (y:V) (us:AA) (rss:LLI) (ys:qI) (_:C2B) (_:sF) (_:OI) (_:fV) (_:rV) (_:B2Q) (_:C6V) (_:AMH) (_:A14 (GS D25 λ(QM i)=>QW)):GX IspFalls
noncomputable def b3b:Sp:=HS IspFalls
def sc_falls:DJ (AQ9 "one" "totals") ADP a7V:={}
def b7T(F:B31 "falls" a7V)(T:AT)(b:EOK)(c:CF4):EA0:=by
 rw[BP sc_falls n g]
 rw[AAA a y ts]
 .obtain⟨a,y,us,rss,ys,rfl,ha,hI,hy,e,hn,hR,hs,k⟩:=h;rw[BL (AO9 2 sc_falls.nd (iJ c g.mono a3w aF)
 (FE (mP (AAY D7 (N:=["j","rows","totals"]) (src:=[none,gO,ATM]) (AOQ XL)
 (gL ["j","rows","totals"]) (A9B (b3A (kA g.mono (GI 1 (A81 WF))) A6)) BA4))))]
  rw[RT (F1H e (λr g=>AJ (C6A g) hn) t)];rw[aQ x m hy.same s1];rw[EZJ x m AF];rw[EF (b1s (caps:=[ZL,SK]) C12 hn rfl (CCC H2 B d)) H2 p d o]
  .refine⟨_,rfl,_,rfl,_,rfl,a,v,us,rss,_,i,ys.length,rfl,DWI,hI.same (s1.trans d),t.same d,by rw[List.length_map,<-HP];exact e,hi,hn,hR,AFR u⟩;exact BK3 (q _ u)
  .rw[COO e (s1.trans (A1X d.upd o e))]
#where
def a1C(x y:Int)(xs ys:qI):dot IF MN=x*y+DIF:=by unfold dot;rw[List.zipWith_cons_cons,List.sum_cons]
def b0y:AJ3 xs qI n (AV5 dot xs n=0)
 |[],_=>rfl
 |HU,0=>rfl
 |IF,CB=>by rw[List.replicate_succ,a1C,b0y xs n];rw[XW 0x1ba02323979ac16]
noncomputable def U8(now:qI)(j:Nat):qI:=now.set j (MY now.getD+1)
noncomputable def Under(now xs:qI):Prop:=now.length=xs.length/\∀j,kN->MY now.getD<=DAS
def Y0(a:qI)(j:Nat):LB U8 a j=a.length:=List.length_set
def c4m(a:qI)(j k:Nat)(b:BX0):(U8 a j).getD k 0=if k=j then MY a.getD+1 else a.getD k 0:=by
 unfold U8;rw[List.getD_eq_getElem?_getD,List.getElem?_set];rw[GC j k]
 .rw[DQ];rw[FU,B2B,FU];rfl
 .rw[JQ,E57,List.getD_eq_getElem?_getD]
def b2W:AE1 xs qI k z Int (ALS->(xs.set k z).sum=xs.sum-AFV k+z)
 |[],_,_,h=>sM
 |IF,0,z,_=>by rw[List.set_cons_zero,List.sum_cons,List.sum_cons,List.getD_cons_zero];rw[XW 0x30c3a41451915c8e]
 |IF,BZ,z,h=>by rw[List.set_cons_succ,List.sum_cons,List.sum_cons,List.getD_cons_succ,b2W xs k z A04];rw[XW 0x1c978819e44407a5df2aa]
def b0I(a:qI)(j:Nat)(h:BX0):(U8 a j).sum=a.sum+1:=by
 unfold U8;rw[BJ (MZ b2W h) lq 4640591445492082]
def Under.tail{x y:Int}{xs ys:qI}(h:Under IF MN):x<=y/\A59 Under :=
 ⟨BM (EL 0 AL),BM CY,λj a=>BM (EL OC A03)⟩
def c5E(l:qI)(h:dM l):0<=l.sum:=by
 induction l with
 |nil=>exact Int.le_refl _
 |cons x l b =>
  rw[List.sum_cons];have:=h x (List.mem_cons_self ..);rw[LF (b λy a=>h y wD)]
section
variable {K:qF}
inductive IspBelow(vs:AA)(H:Hp)(Q:VK)(E:XK):Prop
 |mk (x:_) (y:_) (xs:_) (ys:_) (_:C81) (_:AOD) (_:fV) (_:RW) (_:rG DIE):GX IspBelow
noncomputable def a7L:Sp:=HS IspBelow
def b6E:E25 a7W:={}
def b7X(F:IJ "below" a7W AWC)(T:AT):CCS:=by
 rw[BP b6E c j]
 rw[BCB]
 .rw[F75 hl];rw[GF (AIT (CCY
 BAC) (AMS b3y))]
  rw[EXU (λx y=>A5V (x<=y)) hl d];rw[AP6 p ?_]
  .rw[B1A];intro v e;rw[PY i hi (List.mem_iff_getElem.mp e)];rw[D9F]
  .rw[AE c7U (k _ DB6)]
inductive IspUnit(vs:AA)(H:Hp)(Q:VK)(E:XK):Prop
 |mk (wd:Int) (n j:Nat) (_:QQ (BD wd) rR) (_:wd=n) (_:YC) (_:kM) (_:A14 (AZ5 BQH)):GX IspUnit
noncomputable def b6w:Sp:=HS IspUnit
def c1Q:sN "width" "j" "width" "j" b1j:={}
def c2R(F:X3 "unit" b1j "width" "j")(T:AT):EU3:=by
 rw[BP c1Q a g]
 .obtain⟨_,n,j,rfl,_⟩:=h;rfl
 .obtain⟨_,n,j,rfl,rfl,hn,hj,k⟩:=h;rw[GF (eM (ZQ "k" "j" uW (A70 R0 T.b_range)
 (A3T "k" "j")) (a5M (AMS K2) A6 A6))]
  rw[DA4 (EMM n)];rw[EF (a5g (caps:=[AW5]) (λi=>D74) hn rfl (CCC H1 d _)) H1 p s c]
  .refine A1D _ rfl _ rfl nY
   .rw[RD e1 QW zT e]
    have e':jH:= ~~~b9m e1
    rw[FF (DF e') q q]
   .rw[OA e1 (¬QW=zT) e]
    have e':i≠j:= BS 0x3d88b437a1ce563f3996 e1
    rw[FF D8M q q]
  .rw[BAM (AZ5 D74) (GS ENT)];rw[B99 b c b]
noncomputable def cV:DEP
 |none=>.non
 |AU c=>BD c
noncomputable def c7F(c:EM)(x:Int):Bool:=B9L c true c (CJ (x<=c))
noncomputable def Wi(cs:AO)(xs:qI):Bool:=zV c7F cs xs all id
def c7Y(cs:AO)(xs:qI):zV EV8 cs xs all trV=EBT:=by
 unfold Wi;induction cs generalizing xs with
 |nil=>rfl
 |cons c cs a =>
  cases xs with
  |nil=>rfl
  |cons x xs=>rw[List.zipWith_cons_cons,List.zipWith_cons_cons,List.all_cons,List.all_cons,a];rfl
inductive IspWithin(vs:AA)(H:Hp)(Q:VK)(E:XK):Prop
 |mk (a b:qE) (cs:AO) (xs:qI) (_:DHC) (_:BI9 a) (_:A34 aR) (_:GT cs.length) (_:rG EBT):GX IspWithin
noncomputable def a9k:Sp:=HS IspWithin
def b4p:B8X "caps" "caps" a4T:={}
def b4J(F:AKH "within" a4T "caps")(T:AT):EM1:=by
 rw[BP b4p d l]
 rw[pG a b cs xs]
 .obtain⟨a,b,cs,xs,rfl,ha,hb,hl,k⟩:=h;rw[GF (AIT (BMG "cap" "number"
 (xB CZ6 CZ6)) (c8V (DS c6Y 0 G0) (a0R (DS b3y 1 EV))))]
  rw[BTS (TB c1r [] cV V.int EV8 hl BSO rfl (λc x H1 j _ _ _ q=>?_)) e]
  .cases c with
   |none=>exact IZ rfl rfl true rfl (E2 aU)
   |some c=>exact IZ rfl rfl false rfl (C1 (CRY aU))
  rw[AP6 p ?_]
  .rw[B1A];intro v g;rw[A7L g];rw[D9F]
  .rw[AE c7Y (k _ D73)]
#where
noncomputable def T8(n j:Nat):qI:=ENT
noncomputable def O6(cs:AO):LLI:=(EI9 cs.length).filter λu=>E2A
noncomputable def a6e(c:EM)(x:Int):Bool:=B9L c true c (CJ (x<c))
noncomputable def StP(rss:LLI)(cs:AO)(ys:qI):RU:=DSU λj=>CYY
section
variable {K:qF}
inductive IspFirst(vs:AA)(H:Hp)(Q:VK)(E:XK):Prop
 |mk (a:qE) (cs:AO) (_:A8U) (_:BI9 a) (_:BWK) (_:cs.length<64) (_:∀p zs qP H',BG->cI p zs->B6R->qP.Perm (O6 cs)->yV->B2O):GX IspFirst
noncomputable def a7J:Sp:=HS IspFirst
def sc_first_steps:VC ["caps","units"] "caps" a0a:={}
def a5q(F:RQ "first_steps" a0a "caps")(T:AT)(c:EU3)(b:EM1):CFD:=by
 rw[BP sc_first_steps S t]
 rw[SA a cs]
 .rw[TD a cs rfl ha h1 h2 k];rw[RX U]
  rw[BL (AIB (AIU 1 sc_first_steps.nd "j" "caps" gO (AOQ AG8)
 (A3T "j" "caps")) (MU c t.mono (BVT XL))
 (FE (mP (E3B (ZQ "one" "caps" gO DFX
 (A8V "caps") (A9B (WV (kA t.mono yN))) BA4)))))]
  rw[EZJ a ha jG];refine tI a5h caps ARB C7V (eQ (sQ ys (EI9 i))) (ACC .nil) (BT7 (BN9 YB)) ?_ ?_
  .rw[CG5 s' hI];refine⟨_,rfl,a,_,rfl,WN (zS ha),_,rfl,_,cs.length,i,rfl,B4A,C7V,hi,λv H2 d J=>GZ (s'.trans d)⟩;rw[List.range_succ,List.map_append];exact(hI.same d).snoc J
  .rintro ys H' ⟨s',hI⟩ p hp;rw[DZ];rw[AD s1 (s'.upd (o:=BQ ys) hp) m (rQ hI.same AK0 ys hp)];rw[IU e1 H' p ys p ys];rw[B1J D05 s1 m e1];rw[AI5 p e1];have hyl:ys.length=cs.length:=by rw[PQ HP]
   refine TB a5C ARB (λu=>E2A) (jT 0x5cde6d514a4e27bcdf1773c60e4c2a7 h2 U hyl) (λH2 d=>iR d e1) m rfl (λv r H2 W t J d q=>?_) (DR H2 p2 g d n z)
   .rw[GN va hva J];exact BC0 a va cs r DWI hva C7V (λx y=>DG (Wi cs r) (q x y))
   rw[AD y (D8B d (o:=BQ g) n) e (z.same (AK1 (o:=BQ g) n))];rw[IU M H2 p2 g p2 g];rw[AJA p2 g x y e M];refine⟨p2,g,_,rfl,PX M,e,AJ e.1 (Nat.lt_of_le_of_lt VH (KG List.length_map List.length_range h2)),AS r t,λl zs L C B G I _=>?_⟩
   .rw[GQ j hj (dL t)];rw[DHA hj];simp[T8];exact b9F this
   rw[oK l V D];rw[AD O (HE x (o:=BQ zs) C) R (HE (FB x l zs) (o:=FX zs) D)];exact k V zs L _ (IP y.trans O R) A0 ((B.same O).same R) G I
inductive IspRaised(vs:AA)(H:Hp)(Q:VK)(E:XK):Prop
 |mk (y:V) (ys:qI) (j:Nat) (_:QQ y rR) (_:fV) (_:AW3) (_:B2Q) (_:A14 A7C):GX IspRaised
noncomputable def a9l:Sp:=HS IspRaised
def b4q:DJ BZU BZU a4U:={}
def b4L(F:IJ "raised" a4U BZU):EML:=by
 rw[BP b4q b c]
 rw[AAG y ys j]
 .obtain⟨_,ys,j,rfl,⟨a,rfl,ha⟩,hj,hl,k⟩:=h;rw[GF (a4E (a4E (C9U G3 (G2 (jv 1))) (S9 (ER (AHU (A66 EV 1))))) (C9U (G2 (AWB 1)) G3))];exact tI (BF c5Q i 0 j 1 (a:=a) (xs:=ys)) k j (z:=MY ys.getD+1) rfl ha hj hl (λH' N s' q=>⟨_,rfl,_,rfl,a,_,_,_,rfl,rfl,B4Y ha,DM2,_,_,rfl,rfl,q⟩) k
inductive IspSteps(vs:AA)(H:Hp)(Q:VK)(E:XK):Prop
 |mk (a c:qE) (y:V) (us:AA) (rss:LLI) (cs:AO) (ys:qI) (_:vs=[AV,MH,y]) (_:sF) (_:OI) (_:ANP) (_:fV) (_:rV) (_:QG ys.length) (_:BU7 cs.length) (_:C6V) (_:AMH) (_:∀p ps H',BG->A0A p ps->EI7 ps ANM->B2O):GX IspSteps
noncomputable def b2Z:Sp:=HS IspSteps
def c1a(h:j<cs.length):atI (cs.map cV) zT=BV cV A5D:=by
 rw[EYX]
def sc_steps:DJ ["rows","caps","one","places"] BPP a7S:={}
def b7L(F:IJ "steps" a7S BPP)(T:AT)(d:EA0)(b:EML):EOO:=by
 rw[BP sc_steps U M]
 rw[xV a c y us rss cs ys]
 .obtain⟨a,c,_,us,rss,cs,ys,rfl,ha,hI,hc,⟨y,rfl,hy⟩,hl,hn,hcl,hR,hs,k⟩:=h;rw[RX O]
  rw[BL (A1 (ASZ 3 sc_steps.nd (N:=["j","caps","one"]) (src:=[none,uW,ATM]) (G7 K (iJ d M.mono a3x D9K))
 (gL ["j","caps","one"]) (tJ (a2y (U5 (O4 (T7 DQ8 G0) (K7 (b3A (A66 PM 0) DQ8)))))) BA4)
 (FE (ZQ "j" "one" ATM C4O
 (gL (uC "j")) A26 (ACK S9 (lY (kA M.mono yN))))))]
  refine⟨_,rfl,_,rfl,a,_,us,rss,ys,rfl,ha,hI,(DG y hy),hl,DJT,hR,hs,A7I v I⟩;rw[GN X l I];rw[C47 X l];rw[List.map_map]at l;have p:C7F (AHH ys.length filter C12):=λj g=>D4K DFH;have n:NF CQN C12 ys.length:=CAZ;rw[EF (TB b4h [EZ c,EZ y] (λ(QM j)=>DT j) DFR (BT 0x236dfbe0ba924853f62866 hn n) DF7 rfl (DR j H2 Y g r q)) H2 p2 r B]
  .have hj':=p j g;refine F5F c _ DXI ERZ;cases e:A5D with
   |none =>
    rw[e]at q;exact E2 aU
   |some z =>
    rw[e]at q;rw[LD ⟨_,rfl,_,rfl,y,_,_,_,rfl,rfl,D16 hy,a6i hj',_,rfl,_,rfl,c,_,_,_,rfl,rfl,DXI,ERZ,?_⟩];rw[e];exact BK3 aU
  rw[A8C J (D8B r) AGZ B];rw[IU u H2 p2 AGZ p2 AGZ];have G:C7F ANM:=λj g=>p j DFH;have D:D35 ys.length:=Nat.le_trans VH n;have W:DSU DFR=ANM:=rfl;rw[W];rw[DZ];generalize VB p2 AGZ=L at J u;rw[AI5 p2 u];refine R1 (xs:=AGZ) (B4K 0xbe501db666aa273044c60e867 hn O D) (cE qs (AJM L/\EI7 qs (EYT i))) ⟨Same.refl L,Prs.nil⟩ (OB qs ⟨B5O u,BKJ YB⟩) ?_ ?_
  .rintro i x qs H' hx ⟨s',hP⟩;rw[CJM hx];cases t:(ANM)[i]? with
   |none=>rw[AW t hx hx]
   |some j =>
    rw[AW t hx hx];have g:=ML G j t;refine⟨Sub.one,_,rfl,_,rfl,_,rfl,_,ys,j,rfl,DG y (AH ((J.trans s')) hy),g,DJT,DD v S R I⟩;rw[HA (DU1 O) Z C];rw[kQ m S CR9 C];rw[IR (IP s'.trans R m)];rw[List.take_add_one,t];exact((hP.same R).same m).snoc A0 (I.same m)
  .rintro qs H' ⟨s',hP⟩ p4 hp4;rw[DG6 hP];rw[A6Y m H' qs hp4];exact k p4 qs _ (IP J.trans s' m) A0 (hP.same m)
noncomputable def Bar(fss:LLI)(ys:qI)(j:Nat):Bool:=fss.any λf=>CQI f.getD && BMM
inductive IspBarred(vs:AA)(H:Hp)(Q:VK)(E:XK):Prop
 |mk (l:qE) (y:V) (fs:AA) (fss:LLI) (ys:qI) (j:Nat) (_:vs=[GV,y,rR]) (_:DTW) (_:DOV) (_:fV) (_:AW3) (_:B2Q) (_:CQ f fss (BU7 f.length)) (_:rG DQO):GX IspBarred
noncomputable def a9r:Sp:=HS IspBarred
def sc_is_barred:DJ ["found","one","j","answer"] BSQ a1b:={}
def a8g(F:IJ "is_barred" a1b BSQ)(T:AT)(b:CCS):EOM:=by
 rw[BP sc_is_barred v n]
 rw[A1P l y fs fss ys j]
 .obtain⟨l,_,fs,fss,ys,j,rfl,hl,hI,⟨y,rfl,hy⟩,hj,hn,hL,k⟩:=h;rw[BL (A1 (B65 3 sc_is_barred.nd
 (A3 (AIN (K2 (A66 WU 2) DQ9) (WV (kA n.mono (GI 3 KB)))
 VW
 B7)))
 VW)]
  rw[F16 [B2G,EZ y,AW5,o] (HX (BQU (fss.take i))) (ABH σ (KS _ s' _) (iR s' hl))]
  .rw[F4X];rw[EC r n p q hI.mem hx];rw[aQ u m q.same s'];have g:=hL r n;have d:BQU (fss.take AR)=(C8B && AN4):=by
    unfold Bar at hB⊢;rw[EOB p]
   have c:hQ C8B AN4->DQO=true:=λe=>by
    rw[EY Bar List.any_eq_true];rw[AX r n e]
   rw[CV ⟨_,rfl,_,rfl,u,_,_,_,rfl,rfl,D7M,DM3 g,_,rfl,_,rfl,y,_,_,_,rfl,rfl,B4Y hy,DM2,rfl,_,rfl,?_⟩];have z:AMD (V.int (r.getD j 0)=V.int (MY ys.getD)) (ADE r.getD ys.getD):=by simp
   rw[z];cases e:C8B with
   |false =>
    rw[e]at d;rw[dJ C1 C1];exact SI s' d
   |true =>
    rw[e]at d c;rw[WL (BC0 _ _ r ys (DG u m) (DG y (zS hy)) (CA5 g) DUV)];cases e2:AN4 with
    |false =>
     rw[e2]at d;exact C1 (SI (s'.trans t) d)
    |true =>
     rw[e2]at c;rw[EB0 t (c rfl)]
  rw[F6E]
#where
noncomputable def NZ(cs:AO):Nat:=BIM cs.length countP λj=>a6e A5D 0
def c5F{ys:qI}(h:ADJ cs.length)(h0:dM ys):DY8:=by
 unfold StP NZ;rw[h,<-List.countP_eq_length_filter];refine Nat.le_trans (List.Sublist.countP_le List.filter_sublist) (List.countP_mono_left λj d b=>?_);have a:AW3:=by rw[BJ h List.mem_range.mp d]
 have e:0<=MY ys.getD:=by
  rw[DE List.getD_eq_getElem?_getD pO (h0 _ D6T)]
 revert b;cases A5D with
 |none=>exact λz=>z
 |some c =>
  intro z;exact decide_eq_true (Int.lt_of_le_of_lt e (of_decide_eq_true z))
inductive IsNx(rss:LLI)(cs:AO)(F:LLI)(u v:qI):Prop
 |mk (j:_) (_:DSO) (_:v=C1V) (_:HX (Bar F v j)):AS6
def a8G{a b:qI}(h:a.map BRS=b.map Sum.inl):a=b:=by
 induction a generalizing b with
 |nil=>cases b with|nil=>rfl|cons _ _=>cases h
 |cons x a c =>
  cases b with
  |nil=>cases h
  |cons y b =>
   rw[AJ6 h1 h2]
   rw[C9P]
   rw[h1,c h2]
def a5H{a:LLI}(e:AXQ a):KY BCE↔r∉a:=by
 constructor
 .intro h hm;rw[JZ a8X h];rw[BJ e List.mem_map.mpr (XO r hm)]
 .intro h;cases c:BCE with
  |none=>rfl
  |some v =>
   rw[cY (b2O c) e];rw[ET q b e2 List.mem_map.mp this];rw[HI (a8G e2 ▸ b) h]
def b9Y{a:LLI}(e:AXQ a):vZ (BCE).isSome C08:=by
 by_cases h:C08
 .rw[BW4];cases b:BCE with
  |none=>exact mL h (SN a5H e) b
  |some v=>rfl
 .rw[A6P,WT a5H e h];rfl
def b9X(r:qI):EKV r.map r.map:=DDR
def c3W{d:qE}(h:TU)(hd:CBV)(o:ZB [d]):AMV :=
 (B0J (AM o (BM (dP q hd)) q))
def a9y{H1 H2:Hp}(s:PF)(c:A01)(o:E4L KJ):BVU:=jX (o b u (BM (A5U c)) C42)
structure NxPre(H:Hp)(a c f l:qE)(us:AA)(rss:LLI)(cs:AO)(fs:AA)(F:LLI)(ls:AA)(L:LLI):Prop where
 ha:sF
 hI:OI
 hc:ANP
 hf:WG f fs
 hF:DOU
 hl:WG l ls
 hL:OV ls L
 us1:rV
 n1:BWK
 n2:QG cs.length
 hR:DN8
 fw:ECK
 lw:LH L (v.length=cs.length/\Sm v/\AM5)
 big:CFI
section
variable {K:qF}
inductive IspNxl(vs:AA)(H:Hp)(Q:VK)(E:XK):Prop
 |mk (a c f l:qE) (r:V) (us:AA) (rss:LLI) (cs:AO) (fs:AA) (F:LLI) (ls:AA) (L:LLI) (_:vs=[AV,MH,cF,GV,r]) (_:NxPre H a c f l us rss cs fs F ls L) (_:(CGI (BRT m))) (_:∀p zs qP H',BG->ND->A0A p zs->B6R->yV->qP.Nodup->TH qP AOX->(DXT qP∨EG5 qP.length)->CAY qP.length->B2O):GX IspNxl
noncomputable def c4E:Sp:=HS IspNxl
def sc_next_level:DJ ["rows","caps","found","level","room","met","one","j","more"] BT0 a0A:={}
def a6z(F':IJ "next_level" a0A BT0)(T:AT)(J:EOO)(n:EOM):ET6:=by
 rw[IH F'.okJ sc_next_level d1 hr]
 .obtain⟨a,c,f,l,r,us,rss,cs,fs,F,ls,L,rfl,_⟩:=h;rfl
 .obtain⟨a,c,f,l,r,us,rss,cs,fs,F,ls,L,rfl,N,⟨m,rfl,hm0,hm6⟩,k⟩:=h;have S:=hr.u60;rw[A74]
  have hbig:=N.big;rw[BL (BU 5 sc_next_level.nd b3D
 (A1 (jN C4O 6 sc_next_level.nd
 (A1 (BBW (F8 K (AUZ J b1J (GI 0 (GI 1 BW6)))) 7 sc_next_level.nd 8 sc_next_level.nd
 (A3 (mI (a2x (b5g S D6J yF CO) (a0K (Q8 (WV (C80 n 174585852 (A81 (GI 8 (gC 7))))))))
 (A3 (a1O S yF D6J a0h))
 B7)))
 (A3 (AIN (DS b3z 4 G0) (WA a0p (c3L rfl T.b_len B24) 4)
 (A3 c0g)
 B7))))
 (FE (c0n rfl T.b_sorted B24))))]
  intro d hd;rw[DZ];rw[IL s0 H AEE hd];rw[EZ4 e0 H];generalize cR d .dT []=H0 at s0 e0;have fin:∀(qL:YD) (g:LLI) (σ:L2.St) (H':Hp),OO σ 5 BWI->BG->tR d .dT qL->AXQ g->g.Nodup->TH g AOX->(D1T B4O∨m<g.length)->CAY g.length->D5V<=m+ATY ->
    c5A (tCB rSortD (CED 5)) {nx:=λx H'=>GL V.non,rt:=Q} σ H':=by
   intro qL g σ H' hσ s' M y I h1 h2 C G;refine⟨_,hσ,d,qL,g,rfl,M,y,by rw[AZF y];simp only[IK,List.length_map]at this;exact lq 0xa6b7680e0ec318c5e9c66d5840640390dc0399 hm6 G this,dE t,λp zs c9 hp hI O c6=>?_⟩
   .obtain⟨u,S,j,hj,rfl,_⟩:=h1 v t;rw[Y0];rw[DHA DFJ];exact b9F this
   refine k p zs c9 _ (s'.upd hp) (s'.free hp) A0 (hI.same (AK0 hp)) c6 (O.symm.nodup I) (λv t=>h1 v (O.mem_iff.mp t)) ?_ (AJ O.length_eq C);rcases h2 with h2|h2
   .exact .inl λu S v t=>O.mem_iff.mpr DXZ
   rw[FN (DG m (B20 O.length_eq))]
  rw[AI5 l (AH s0 N.hl)];refine VM O5 l ls ((λi σ H'=>Ex5 λo6 Y Z qL g=>An9 (σ=[some (.ref a),some (.ref c),some (.ref f),some (.ref l),some (.int m),some (.ref d),o6,Y,Z]) (Same H H') (H' d=some (.dT qL)) (qL.map (·.1)=IK g) (g.Nodup) ((∀v∈g,∃u∈L,IsNx rss cs F u v)) ((∀u∈L.take i,∀v,IsNx rss cs F u v->v∈g)) (g.length<=i*cs.length) ((g.length:Int)<=m)))
   ⟨none,none,none,[],[],rfl,s0,e0,rfl,List.nodup_nil,AH8,E0F,AL,hm0⟩ (OB σ (by obtain⟨_,_,_,_,_,_,s',_⟩:=h;rw[zQ (zS N.hl)])) ?_ ?_
  .rintro i x σ H' hx ⟨o6,Y,Z,qL,g,rfl,s',M,y,I,h1,h2,C,G⟩;rw[EC ys b4 b5 c8 N.hL.mem hx];obtain⟨yw,d0,yn⟩:=N.lw ys b4;have c3:i<L.length:=IB b5;have c4:CAY EE0:=Nat.mul_le_mul_right _ c3;have W:EE0=i*cs.length+cs.length:=by rw[Nat.add_mul,Nat.one_mul]
   rw[DZ];rw[HC b8 C6V yw N.hR]
   refine⟨_,rfl,_,rfl,_,rfl,a,c,x,us,rss,cs,ys,rfl,zS N.ha,N.hI.same s',zS N.hc,c8.same s',N.us1,AJ yw N.n2,yw.symm,b8,d0,DR p1 ps H1 s1 a2 a1⟩;rw[AD D (HH M) a4 (s'.trans s1)];rw[BQE p1 a2];have c7:C7F ANM:=λj hj=>D4K DFJ;have b0:EUX<=cs.length:=by rw[EX yw (E83 VH AL)]
   have b2:DY8:=c5F yw yn;have c0:d≠p1:=dP D a2;refine VM O5 p1 ps ((λX σ H2=>Ex4 λY Z qL g=>An10 (σ=[some (.ref a),some (.ref c),some (.ref f),some (.ref l),some (.int m),some (.ref d),some x,Y,Z]) (Off [d] H1 H2) (H2 d=some (.dT qL)) (qL.map (·.1)=IK g) (g.Nodup) ((∀v∈g,∃u∈L,IsNx rss cs F u v)) ((∀u∈L.take i,∀v,IsNx rss cs F u v->v∈g)) ((∀j∈(StP rss cs ys).take X,Bar F (U8 ys j) j=false->U8 ys j∈g)) (g.length<=i*cs.length+X) ((g.length:Int)<=m+X)))
    ⟨Y,Z,qL,g,rfl,yG,D,y,I,h1,h2,E0F,C,BS 0x49fa49de21c243757 G⟩ (λX σ H2 _ h=>by rw[BUV o2];rw[zQ (XE o2 c0.symm a2)]) ?_ ?_
   .rintro X q σ H2 hq ⟨Y,Z,qL,g,rfl,off2,hd2,y,I,h1,h2,h5,C,G⟩;obtain⟨j,b,v,ej,rfl,hb,t⟩:=a1.2 X q hq;rw[GN va b3 t];rw[AD a9 (List.mem_of_getElem? ej) hj (c7 j a9)];rw[AD b9 (CB3 hb hb) R (CB3 b3 b3)];rw[AD a7 (AH a4 N.hf) c1 (CB3 a7 a7)];have b7:=c3W (N.hF.same a4) D off2;have c2:X<EUX:=IB ej;rw[AJO U g.length (by
     rw[DW6])]
    have a0:∀B:LLI,TH g (v∈B)->(HX E9X->A7C∈B)->∀j'∈EYT (X+1),HX (Bar F EBR j')->EBR∈B:=λB b1 c5 j' a8 a5=>by
     rw[DZU ej a8 a8]
     .exact b1 _ (h5 j' z a5)
     .have:j'=j:=BM z
      rw[X1];exact c5 a5
    refine A4R b [BD j,BV3] b9 rR (WI va) BV3 [];rw[DN (CFO d (DGet.t hd2 (AJ b9X R))) (b9Y y)];by_cases hm:A7C∈g
    .rw[XM hm];rw[dJ C1 C1];rw[F6C off2 hd2 (GA hm)]
    .rw[eH (xW hm) ⟨_,rfl,_,rfl,_,rfl,f,BV3,fs,F,A7C,j,rfl,c1,b7,DG va R,AJ Y0 hj,by rw[Y0,yw];rw[AHD N.n2 a3U],λv t=>by rw[Y0,yw];exact N.fw v t,λH3 s3=>pR⟩];have a6:=AH s3 hd2;cases e:E9X with
     |true =>
      rw[GM C1];rw[F6C (off2.trans s3.off) a6 (λz=>by rw[SO z z])]
     |false =>
      rw[GM E2];rw[DN (vY d _ (DPut.t a6 (AJ b9X (BNI R)) (~~~lq 0x1fab17d3c3455f197b18304c5bba0a0f3ba743bacf3ee60cff239c039c hm6 hz b2 G c2 U)) ?_) (a5i _ (jL a5H y hm))];refine⟨_,_,_,g++[A7C],rfl,B5A off2.trans s3.off,A0,by rw[List.map_append,y];simp[IK],a8j I hm,dE t,λu S v t=>aN DXZ,a0 _ (λv t=>aN t) (GA AL),E4O 0x20a633adcd393317 C,E4O 0x2b686806c21ede7b9c0b58 G⟩;rw[CA (List.mem_append.mp t)]
      rw[JR h1 v]
      .rw[UX];exact⟨ys,b4,j,a9,rfl,e⟩
   .rintro σ H2 ⟨Y,Z,qL,g,rfl,off2,hd2,y,I,h1,h2,h5,C,G⟩;rw[oN a1.1 h5];rw[AJO U g.length (by
     rw[DW6])]
    have a3:=a1.1;have s2:BVU:=a9y a4 hd off2;have b6:∀u∈L.take AR,CR4 B4O:=λu S v t=>by
     rw[DZU b5 S S]
     .exact h2 u z v t
     .have:u=ys:=BM z
      rw[X1];obtain⟨j,hj,rfl,hb⟩:=t;exact h5 j hj hb
    rw[GD B3F ⟨_,rfl,d,qL,rfl,hd2,_,rfl,_,_,rfl,rfl,_,rfl,nY⟩]
    .have e':DBF:=zY;exact fin qL g _ H2 rfl s2 hd2 y I h1 (DH (BT 0x7c2da9532ebe98813d58 U e')) (~~~lq 0x579545243ee8723ec81ee55c4a39825137db c4 W b0 C a3) (jT 0xa2853f97f2676571e18e5bfcabb3435a b2 G a3)
    .have e':¬DBF:=B6N;exact⟨_,_,_,qL,g,rfl,s2,hd2,y,I,h1,b6,~~~lq 0x82909b1bf94efd60bce181690b8db1a W b0 C a3,BT 0xd9612a51d7fd5622d3d58 U e'⟩
  .rintro σ H' ⟨o6,Y,Z,qL,g,rfl,s',M,y,I,h1,h2,C,G⟩;rw[oN D4X h2];exact fin qL g _ H' rfl s' M y I h1 (CW h2) (AH2 D4X C C) (BS 0x7b194d4c5c8f8ef83758 G)
#where
noncomputable def ffl(ra ca:qE)(b:Bool)(ah af aw:qE):QF:=[("rows",iN),DHV ca,("begun",aC),qR "here" ah,qR "found" af,qR "walked" aw]
section
variable (ra ca ah ah' af aw:qE)(b b':Bool)
def b0v:AMZ "rows" ra:=CO
def b0w:AMZ "caps" ca:=CO
def a7m:uH vP (AAT "begun")=BV .bl b:=CO
def a1z:AMZ "here" ah:=CO
def a3L:AMZ "found" af:=CO
def a5V:AMZ "walked" aw:=CO
def a9E:E1 "here" (AK ah') vP=CIV ah':=CO
def b4y:E1 "begun" (.bl b') vP=BIF b' ah:=CO
def a9D:AQO "walked" aw "found" af (E1 "here" CP1 (E1 "begun" aC EUY))=vP:=CO
def c0J:B7H "told":=CO
def b5u:B7H "paper":=CO
def b5v:B7H "ended":=CO
def a4q:B7H "step_within":=CO
#where
structure FiTx(K:qF)(C:qE):Prop where
 cl:TR
 n1:DFM
 n2:DFN
 n3:dO "begun"
 n4:dO "here"
 n5:dO "found"
 n6:dO "walked"
structure FAt(C:qE)(H:Hp)(p ra ca af aw:qE)(b:Bool)(L F W:LLI):Prop where
 ob:∃dx ah hs,AWG vP/\WG ah hs/\OV hs L/\ah≠af/\ah≠aw
 hf:∃fs,WG af fs/\DOU
 hw:∃ws,WG aw ws/\OV ws W
 ne:af≠aw
def FAt.same{C:qE}{H H':Hp}{p ra ca af aw:qE}{b:Bool}{L F W:LLI}(h:lE)(s:BG):BF5 (A38 FAt ra):=by
 obtain⟨⟨dx,ah,g,h1,h2,d,e,f⟩,⟨fs,a,c⟩,⟨k,i,j⟩,ne⟩:=h;rw[FJ ⟨dx,ah,g,BX5,D9B,DEX,e,f⟩ ⟨fs,HF a,c.same s⟩ (EGE k) ne]
structure SyAt(H:Hp)(a c:qE)(rss:LLI)(cs:AO):Prop where
 ex:∃us,sF/\OI/\rV
 hc:ANP
 n1:BWK
 n2:cs.length<=63
 hR:DN8
 nn:CBZ
def SyAt.same{H H':Hp}{a c:qE}{rss:LLI}{cs:AO}(h:EVI)(s:BG):EVY:=by
 obtain⟨⟨i,h1,h2,b⟩,d,e,f,hR,g⟩:=h;rw[ID ⟨i,BX5,h2.same s,b⟩ (HF d) e f hR g]
structure StR(rss:LLI)(cs:AO)(b:Bool)(L F:LLI)(r:V)(L':LLI):Prop where
 ri:G6 L'
 nd:L'.Nodup
 fst:HX b->A6B L' B9W
 snd:pL->LH L' AOX
 all:pL->DXT L'∨EG5 L'.length
 len:L'.length<=cs.length+L.length*cs.length
def a1I(n j i:Nat)(hi:JP):C67 n j i 0=BQH:=by
 unfold T8;rw[BNC hi]
def N2(n j:Nat):LB T8 n j=n:=IN T8
def a1S(cs:AO):(O6 cs).Nodup:=by
 unfold O6;rw[JZ List.Nodup.sublist ((List.filter_sublist))];rw[EY List.Nodup List.pairwise_map];refine(List.nodup_range (n:=cs.length)).imp_of_mem (EX2 b a);have h1:C67 cs.length i i 0=C67 cs.length j i 0:=DA5 (λl:qI=>l.getD i 0);rw[E3P,E3P,FU,XZ]at h1;omega
def lp{f:Str}{v:V}{fs:QF}(h:fs.length<=k):DZ4 BZ:=by
 refine Nat.le_trans ?_ (Nat.succ_le_succ h);clear h;induction fs with
 |nil=>rw[DH9]
 |cons p r a =>
  obtain⟨g,x⟩:=p;show FO EO3<=_;split
  .simp
  .simpa using a
section
variable {K:qF}
inductive IspFInit(C:qE)(vs:AA)(H:Hp)(Q:VK)(E:XK):Prop
 |mk (p dx ra ca:qE) (_:vs=[EU,iN,AK ca]) (_:C4Y) (_:∀(af aw:qE) (H':Hp),D7Z->EJ aw->D3I false [] [] []->D1O (UZ p (tY (BIF false ah)))->C7M->A2Y):nV IspFInit
noncomputable def b3c(C:qE):Sp:=AKU IspFInit
def a2i:DJ AON AON O1:={}
def b7S(G:cN "__init__" "Finder.__init__" O1 AON)(U:A8T):DH1 AON b3c:=by
 rw[IH G.fnJ a2i I J]
 rw[pG p dx ra ca]
 .rw[TD p dx ra ca rfl hp k];rw[BL (E1X 1
 (E1X 2
 (AEW a0h
 (B8W
 (B8W
 (A3 (BJW C8)))))))]
  have t:UG (tP QF)<=0:=BO;refine F2X hp U.n1 (Nat.lt_of_le_of_lt t AG);rw[DN (F2X A0 U.n2 (Nat.lt_of_le_of_lt (lp t) AG)) a2F];rw[DN (jI A0 U.n3 (DSR EAN)) a2F];generalize D:E1 "begun" (V.bl false) EUY=r;have F:r.length<=3:=by rw[A2V D lp EAN]
  have k1:tU A3E ZS (L1 H p AP1 b o):=JL e c (JM c e)
  have e1:L1 H p AP1 p AP1:=A0;have u:∀b,KY (upd H p AP1 b)->LI:=λb e=>by
   rw[VT c p]
   .rw[B1D c]
   .rwa[B2K]at e
  rw[B1J (SF p AP1) k1 e1 u];rw[fC ah n];have x:p≠ah:=A7 e1 n;refine jI (AJ (A5 x) e1) U.n4 (BS 0x25c2b6fbea393465 F);rw[fC af m];have y:p≠af:=DE9 m m
  have g:upd H1 ah ABW af=none:=by rwa[BWO]at m
  have j:ah≠af:=A7 (o:=BQ []) A0 g;have d:ABA af:=by rwa[A5 j.symm]at g
  refine jI (B48 y) U.n5 (B17 (lp (f:="here") (v:=CP1) F) 0x4214c038d9ecee065);rw[fC aw q];have B:p≠aw:=λz=>by subst z;rw[A32 A0]
  rw[QV a q BWP a];have i:af≠aw:=EJA;rw[A5 i.symm,BWP]at a;have l:ah≠aw:=EJA;rw[A5 l.symm]at a;refine jI (B48 B) U.n6 (B17 (lp (f:="found") (v:=AK af) (lp (f:="here") (v:=AK ah) F)) 0x162273630afc27290c465);rw[EF (k af aw _ (u _ d) (u _ a) ⟨⟨dx,ah,[],?_,?_,.nil,j,l⟩,CD3,CD3,i⟩ (zO ah (by rw[A0,<-D,<-a9D]) (u _ n))) b o e c]
  .rw[A0,<-D,<-a9D]
  .rw[BWQ,A5 l,BWQ,A5 j,BWQ,A0]
  .rw[BWO,A5 i,BWO,A0]
  .rw[BWP,A0]
  .have e2:=ZV k1 c;rw[B2K,C01 a,B2K,C01 d,B2K,C01 n];exact e2
def b3H:∀{vs b:AA}{rss a:LLI},TU->OV b a->OV (vs++b) (rss++a):=by
 intro vs b rss a h g;rw[CEH (by rw[List.length_append,List.length_append,CY,XN]) C0E vs.length]
 rw[CCR r A49 r]
 .rw[C3G];rw[MB r e1 e2 (aS _ v e) r (BUQ CXH CY e1) e2]
def a4G{o':HO}(h:TU)(b:uJ H)(d:CEW):ADQ (SF c o') :=
 (B0J (JM (L7 q b (d _)) q))
def a5O(h:TU)(b:uJ H)(d:CEW)(off:ZB [c]):AMV :=
 (B0J (XE off (L7 q b (d _)) q))
def c1C(h:EVI)(d:A3E)(e:CEW)(off:ZB [b]):EVY:=by
 obtain⟨⟨l,h1,h2,g⟩,f,i,j,hR,k⟩:=h;rw[ID ⟨l,EG7 h1 h1,a5O h2 d e off,g⟩ (EG7 f f) i j hR k]
def c1F{B:Int}(h:AHN u B)(b:B9E):AHN C1V (AEX+1):=by
 rw[EDA]
 .rw[LF (h x z)]
 .rw[EE7]
  .rw[ESU];rw[AVN z]
  .rw[AH4 (AEK hj) z];rw[AVN z]
inductive IspStepW(C:qE)(vs:AA)(H:Hp)(Q:VK)(E:XK):Prop
 |mk (p ra ca af aw:qE) (b:Bool) (L F W rss:LLI) (cs:AO) (r:V) (B:Int) (_:iU r) (_:lE) (_:CE1) (_:(CGI (E5Y))) (_:(DUI DQM)) (_:B9E) (_:DPU) (_:CFI) (_:DM5) (_:DIR) (_:EUD L' (CFG F r L') (DYC L' DRF DSG) L'.length):nV IspStepW
noncomputable def a7G(C:qE):Sp:=AKU IspStepW
def b6K{ra ca af aw:qE}{b:Bool}{r:V}{B:Int}(hi:B76)(h:A2J σ[j]? r)(D:lE)(Y:CE1)(h1:CGI (E5Y))(h2:DPP L DQM)(c:B9E)(d:ECK)(e:CFI)(f:DM5)(g:DIR)
  (k:EUD a (CFG F r a) (DYC a (BRM a.filter) (W++a)) a.length):BBD "step_within" a7G (CED j):=by
 rw[BTQ l ⟨_,hi,p,dx,_,rfl,g1,ZR a4q,_,h,p,ra,ca,af,aw,b,L,F,W,rss,cs,r,B,rfl,D,Y,h1,h2,c,d,e,f,g,k⟩]
def a0V:AK4 (YZ "room") "room" K6:={}
def b7K(FM:ALK "step_within" "Finder.step_within" K6 "room")(U:A8T)(T:AT)(d:ET6)(a:CFD)(n:BB1) :
  EPC:=by
 rw[B79 a0V c8]
 .obtain⟨p,ra,ca,af,aw,b,L,F,W,rss,cs,r,B,rfl,_⟩:=h;rfl
 .obtain⟨p,ra,ca,af,aw,b,L,F,W,rss,cs,r,B,rfl,D,Y,hroom,hL,hB,hF,hbig,hF1,hW1,k⟩:=h;rw[C27]
  rw[B9B hs h3 h4 h5 f1 f2 ws w1 w2];have b5:p≠af:=dP h1 f1;have b6:p≠aw:=dP h1 w1;rw[BL (A1 (C3 (CTE J7)
 (B30 (eJ d (QN HJ HJ (QN HJ HJ KB))))
 (AEW (lQ c3K T.b_list (AZB hr.mono HJ))
 (B30 a0h)))
 (AZX HJ (CYP "one" F8
 (A8V "self") (A9B (WV (eJ n (BVT B5U)))) BA4)
 (AZX HJ HJ
 (FE xP))))]
  rw[BCP (σ=[UU,AU r]/\∃ah' c Z,CXA ah'/\A0A ah' c/\sQ c Z/\EJ ah'/\CFG F r Z/\DMP/\DPP Z (Sm v))]
  case fin =>
   rintro σ H1 ⟨rfl,ah',c,Z,p1,a1,i1,a0,R,g,c0⟩;have c2:=Y.n2;have b3:Z.length<=100000:=by rw[LF R.len]
   rw[AD a9 (XE g b5.symm f1) c6 (XE g b6.symm w1)];rw[AD b8 (DX6 f2) c7 (DX6 w2)];have Y1:=c1C Y h1 rE g;have b0:ah'≠af:=oV f1 a0;have b2:ah'≠aw:=oV w1 a0;have c9:p≠ah':=A7 h1 a0;rw[GD (BCY p1 U.n5 BZQ a9) (B0W p1 U.n4 ALM ah' rfl (hJ a1) ?_)];refine TB a5C [UU] C0R (SG i1.1) (λH2 M=>iR M a1) i1 rfl (λv r' H2 Q2 c4 X M q=>?_) (DR H2 p2 zs M b4 O)
   .obtain⟨⟨us,u1,u2,u3⟩,_,_,_,hR,_⟩:=Y1.same M;refine⟨_,rfl,p,C,dx,_,_,rfl,AH M p1,U.cl,U.n1,DD1,_,rfl,ra,v,us,rss,r',rfl,u1,u2,X,u3,λr hr=>SG (C6A hr),(c0 r' c4).2,λJ t=>CD (q J t)⟩
   have c1:FO (BGP Z.filter)<=Z.length:=VH;rw[AD t (M.upd (o:=BQ zs) b4) c5 (AK1 (o:=BQ zs) b4)];rw[IU e3 H2 p2 zs p2 zs];have y:=O.same c5;rw[AJA p2 zs J t e3 y];have f3:=AH t a9;refine⟨af,p2,fs,zs,rfl,rfl,f3,e3,AFM f2.1 O.1,?_⟩;rw[HC p4 (E9T J af AV9) (A5 b5) (AHA p1)]
   rw[EXX w4 aw ws ne.symm c6]
   rw[EXX a4 ah' c b0 a1]
   rw[GD (BCY p4 U.n6 DD4 w4) ⟨_,rfl,p,C,dx,_,_,rfl,p4,U.cl,U.n4,ALM,aw,ah',ws,c,rfl,rfl,w4,a4,AFM w2.1 i1.1,?_⟩];rw[HC p5 (E9T CDB aw B86) (A5 b6) p4]
   have a5:upd CDB aw (BQ B86) ah'=BV .lst c:=by rw[A41 b2 a4]
   rw[DN ⟨_,rfl,p,C,dx,_,_,rfl,p5,U.cl,U.n4,ALM,ah',_,rfl,PX a5,?_⟩ i1.1];have I:∀{vs:AA}{rss:LLI},ADQ J->ADQ (FB CDB aw B86):=λh=>a4G (a4G h f3 rE) w4 rE;rw[EF (k Z _ R ⟨⟨dx,ah',c,p5,a5,I (i1.same t),b0,b2⟩,⟨AV9,B48 ne,I (b3H (b8.same t) y)⟩,⟨B86,A0,I (b3H (c7.same t) (i1.same t))⟩,ne⟩ (zO ah' p5 a0)) b o hb e];rw[OA a3 (ZS/\HY af/\HY aw) hb]
   rw[DE (A5 a3.2.2) (A5 a3.2.1) (AHA (XE g a3.1 e))]
  refine CHQ h1 U.n3 DD3 b ?_;obtain⟨us,u1,u2,u3⟩:=Y.ex;have c2:=Y.n2;cases b with
  |true =>
   rw[GM E2];rw[GD ⟨_,rfl,p,C,dx,_,_,rfl,h1,U.cl,U.n1,DD1,_,rfl,p,C,dx,_,_,rfl,h1,U.cl,U.n2,DD2,_,rfl,p,C,dx,_,_,rfl,h1,U.cl,U.n5,BZQ,_,rfl,p,C,dx,_,_,rfl,h1,U.cl,U.n4,ALM,_,rfl,?_⟩ ⟨ra,ca,af,ah,r,us,rss,cs,fs,F,hs,L,rfl,⟨u1,u2,Y.hc,f1,f2,h2,h3,u3,Y.n1,AF,Y.hR,hF,λv X=>⟨jR hL X,DJ8 E9Q,A5Q (A6N E9Q).1⟩,hbig⟩,let ⟨m,e,e0,e1⟩:=hroom;⟨m,e,e0,e1 rfl⟩,λp9 zs a8 H9 s9 G h9 b9 a7 c3 a2 b1 b3=>?_⟩];have b7:=AH s9 h1;have a6:p≠p9:=A7 h1 G;rw[EOQ b7];rw[F4Y p9 h9 (a4G b9 b7 rE) ⟨a7,c3,B1K,GA a2,GA b1,AF⟩ s9.off.set];obtain⟨u,hu,j,_,rfl,_⟩:=a2 v X;have:=c1F (j:=j) (hL u hu).2 hB;rw[AY (A6D Y0 (hL u hu).1) (DJ8 this)]
  |false =>
   rw[GM C1];rw[GD ⟨_,rfl,p,C,dx,_,_,rfl,h1,U.cl,U.n2,DD2,ca,cs,rfl,Y.hc,Y.n1,AF,λq zs a8 H2 M hq O S a7=>?_⟩ (jA q zs (WN hq) DT2)];rw[AD p3 (K5 (o:=BQ zs) (AH M h1) hl) t (M.upd (o:=BQ zs) hl)];have y:=rQ O.same AK1 zs hl;rw[IU e3 H2 l zs l zs];have G:=M.free hl;generalize VB l zs=J at p3 t y e3;rw[EOQ p3];refine jI A0 U.n3 CZV;rw[a2F,b4y];have a6:p≠l:=A7 h1 G;have c1:E46 cs.length:=CAZ;have d0:=S.length_eq;rw[F4Y l e3 (a4G y p3 rE) ⟨a7,S.symm.nodup (a1S cs),λ_ v=>S.mem_iff,B1K,B1K,AF⟩ t.off.set]
   .rw[dZ j (List.mem_map.mp (List.mem_filter.mp (S.mem_iff.mp X)).1)];rw[HA D6N x hx];unfold T8 at hx;rw[C88 (List.mem_map.mp hx)]
inductive IspEnded(C:qE)(vs:AA)(H:Hp)(Q:VK)(E:XK):Prop
 |mk (p ra ca af aw:qE) (b:Bool) (L F W:LLI) (_:fD) (_:lE) (_:E6I):nV IspEnded
noncomputable def a7K(C:qE):Sp:=AKU IspEnded
def b6M{ra ca af aw:qE}{b:Bool}(hi:B76)(D:lE)(k:E6I):BBD "ended" a7K a0X:=by
 rw[F82 b5v]
def a4i:B8Y V8:={}
def b7U(a:ALL "ended" "Finder.ended" V8)(U:A8T)(T:AT):E7T:=by
 rw[IH a.fnJ a4i c n]
 rw[CHY]
 .rw[F6W];rw[B9B g d l m i j r o q];rw[GF (a1t HJ (a0R (AHV xP)))];rw[GD (D46 h1 U.n3 DD3) (B33 b)];cases b with
  |false=>exact C1 k
  |true =>
   rw[WL ⟨_,rfl,p,C,dx,_,_,rfl,h1,U.cl,U.n4,ALM,ah,_,rfl,PX h2,rfl,?_⟩];have e:AMD (pE D5V 0) AUQ:=by
    rw[kH];cases L with
    |nil=>simp
    |cons x L=>simp;rw[XW 899391872267029]
   rw[AE e k]
inductive IspTold(C:qE)(vs:AA)(H:Hp)(Q:VK)(E:XK):Prop
 |mk (p ra ca af aw:qE) (b:Bool) (L F W:LLI) (_:fD) (_:lE) (_:DFT) (_:(TH F D9H)) (_:DW7 qP B6R C0Q yV):nV IspTold
noncomputable def b1b(C:qE):Sp:=AKU IspTold
def c2a{ra ca af aw:qE}{b:Bool}(hi:B76)(D:lE)(c:DFT)(h:LH F D9H)(k:DW7 a (Its H' zs a) (a.Perm F) (G6 a)):BBD "told" b1b a0X:=by
 rw[BTQ d ⟨_,hi,p,dx,_,rfl,g1,ZR c0J,p,ra,ca,af,aw,b,L,F,W,rfl,D,c,h,k⟩]
def a4S:B8Y a0b:={}
def c2S(i:ALL "told" "Finder.told" a0b)(U:A8T)(T:AT):E7R:=by
 rw[IH i.fnJ a4S j x]
 rw[CHY]
 .obtain⟨p,ra,ca,af,aw,b,L,F,W,rfl,D,h6,hF,k⟩:=h;rw[B9B y t u v m e G z B];rw[GF (mP (E3B HJ))];refine⟨_,rfl,p,C,dx,_,_,rfl,h1,U.cl,U.n5,BZQ,af,fs,F,rfl,PX m,e,AJ e.1 h6,hF,λl zs d n hI a c _=>?_⟩;rw[oK l q r];rw[GJ g (qV (o:=BQ zs) n).upd (FX zs) r];exact k q zs d _ g A0 (hI.same g) a c
inductive IspPaper(C:qE)(vs:AA)(H:Hp)(Q:VK)(E:XK):Prop
 |mk (p ra ca af aw:qE) (b:Bool) (L F W:LLI) (_:fD) (_:lE) (_:BCW W):nV IspPaper
noncomputable def a7H(C:qE):Sp:=AKU IspPaper
def b6L{ra ca af aw:qE}{b:Bool}(hi:B76)(D:lE)(k:BCW W):BBD "paper" a7H a0X:=by
 rw[F82 b5u]
def a4h:B8Y V7:={}
def b7O(d:ALL "paper" "Finder.paper" V7)(U:A8T)(T:AT):E7S:=by
 rw[IH d.fnJ a4h e u]
 rw[CHY]
 .rw[F6W];rw[B9B v n r t l m c i j];rw[GF BZX];refine B0W h1 U.n6 DD4 aw _ rfl (AWA i q g);rw[IL a H (FX c) g];exact k q c _ a A0 (j.same a)
#where
inductive Wk(rss:LLI)(cs:AO):LLI->LLI->FC LLI Nat
 |one {L:LLI}(ri:G6 L) (nd:L.Nodup) (h:A6B L B9W):ZH C3L L L 1
 |more {F W L L':LLI}{k:Nat}(h:kY) (ne:sB) (ri:G6 L') (nd:L'.Nodup) (hm:A6B L' AOX):ZH DRF DSG L' BZ
inductive Over(rss:LLI)(cs:AO)(most:Int):Prop
 |mk (F W L k:_) (_:kY) (_:(most<W.length∨(sB/\∃L':LLI,L'.Nodup/\TH L' AOX/\most<W.length+L'.length))):C6P
def b8b(h:AM5):JY v (x<=v.sum):=by
 induction v with
 |nil=>intro x a;cases a
 |cons y v c =>
  intro x a;rw[AA9 h y List.mem_cons_self (c5E v λz b=>DUX)];rw[List.sum_cons];rw[A1N]
  .exact lq 0xdd1b54cc76252 h2
  .rw[XY (c DM0 x a) 0x4a1385aeaf97b226e h1]
def c4l(h:dM u):dM C1V:=by
 rw[EDA]
 rw[JR h x]
 .rw[EE7]
  .rw[ESU];simp at z;rw[ZO 0xd9612a41daf4ddc5bf372 z]
  .rw[AH4 (AEK hj) z];simp at z;rw[ED 0x9e6754105652516 z]
def a8Z(n j:Nat):dM (T8 n j):=by
 rw[BQT T8];rw[C88 AJQ]
def b0R(n j:Nat)(a:kM):T8 n j=U8 jZ j:=by
 refine List.ext_getElem (by rw[N2,Y0,List.length_replicate]) λi h1 h2=>?_;rw[N2]at h1;rw[AD e1 (a1I n j i h1) e2 (c4m jZ j i A03)];rw[AH4 (E5R h1) e1];rw[AH4 DAI e2];simp only[Option.getD_some]at e1 e2;rw[e1,e2];simp only[List.getD_eq_getElem?_getD,List.getElem?_replicate,a,h1,if_true];by_cases e:jH<;>simp[e]
def a9C(n:Nat):cB n PD sum=0:=by
 induction n with
 |zero=>rfl
 |succ n a=>rw[CN8 List.sum_cons a]
def b4d(n j:Nat)(a:kM):(T8 n j).sum=1:=by
 rw[b0R n j a,AH b0I A03,a9C];rfl
def c5G(h:DSO):j<u.length/\CLF u/\CT1 u.getD=true:=by
 rw[VN StP];rw[List.mem_filter,List.mem_filter,List.mem_range,decide_eq_true_eq]at h;rw[AX CY.1 CY.2 EL]
structure LvF(n k:Nat)(v:qI):Prop where
 len:v.length=n
 nn:AM5
 sum:v.sum=k
def a7k(h:B9W):CCK 1:=by
 rw[GQ j a (dL h)];rw[AX D6N (BX a8Z) (AH b4d BVX)]
def b7Y{n:Nat}(a:LvF n k u)(h:AS6):LvF n BZ v:=by
 obtain⟨j,b,rfl,_⟩:=h;have:=(c5G b).1;rw[AX (AJ Y0 a.len) (c4l a.nn) (KG (AH b0I this) a.sum b9v)]
def Wk.lv(h:kY):TH L (LvF cs.length k v)/\TH W (∃i,1<=i/\i<=k/\CCK i)/\TH F (v∈W/\AR8=true)/\F.length<=W.length/\D4O W.length/\1<=k/\k<=W.length+1/\(sB->k<=W.length):=by
 induction h with
 |@one L ri nd h =>
  refine⟨λv a=>E56,λv a=>⟨1,AF,AF,E56⟩,λv a=>List.mem_filter.mp a,VH,BO,AF,eI,KW ne⟩;cases L with
  |nil=>rw[AKR ne]
  |cons x L=>simp
 |@more F W L L' k h ne ri nd f p =>
  obtain⟨l,m,d,n,q,r,s,o⟩:=p;have b:LH L' (CCK BZ):=λv a=>by
   rw[XU g j (AUU f a)];exact b7Y (l u g) j
  rw[D9R C0R L'];have e:=o ne;refine⟨b,C0L,C0L,KG List.length_append List.length_append (B23 0x392a1d2b48312d5d8 n),HG List.length_append lq 1147073304470,eI,D69 (lq 0x3210a01de77a8dc3d7 e),KW c⟩
  .rw[B7A]
   .obtain⟨i,q1,q2,q3⟩:=m v z;rw[FJ i q1 (AJN q2) q3]
   .exact⟨BZ,eI,VR 183599221,b v z⟩
  .rw[B7A]
   .rw[AY (aN (jR d z)) (d v z).2]
   .rw[AY (hX (dL z)) (DAW z)]
  .rw[wI];have:0<L'.length:=List.length_pos_iff.mpr c;rw[ZO 0x39284eb56472d89d7 e]
def b5C(l:CBZ)(h:D5S A5D):Wi cs (T8 cs.length j)=true:=by
 rw[DBD Wi];intro b k;rw[A7L k];have a:i<cs.length:=by rw[List.length_zipWith,N2,Nat.min_self]at hi;exact hi
 rw[List.getElem_zipWith];have e:=a1I cs.length j i a;rw[List.getD_eq_getElem?_getD,E5R a,Option.getD_some]at e;rw[e];have f:BYE∈cs:=D6T;have d:jH->D5S BYE:=λq=>by
  subst q;rwa[List.getD_eq_getElem?_getD,pO,Option.getD_some]at h
 revert f d;generalize BYE=o;intro f d;cases o with
 |none=>rfl
 |some c =>
  have g:=l c f;rw[GM decide_eq_true];split
  .next q =>
   have:PD<c:=of_decide_eq_true (d q);rw[XF 0x839d7ac48e36]
  .exact g
def b4T(a:CBZ):ATY<=GK O6 cs:=by
 unfold NZ O6;rw[<-List.countP_eq_length_filter,List.countP_map];exact List.countP_mono_left λj _ h=>b5C a h
def Wk.fst(h:kY):E46 W.length:=by
 induction h with
 |one ri nd h=>exact Nat.le_of_eq ((List.perm_ext_iff_of_nodup nd (a1S cs)).mpr h).length_eq.symm
 |more _ _ _ _ _ a=>rw[AE List.length_append (lq 0x10590516203b8bd7 a)]
section
variable {K:qF}
inductive IspLeast(D:qE)(vs:AA)(H:Hp)(Q:VK)(E:XK):Prop
 |mk (ra ca:qE) (rss:LLI) (cs:AO) (most:Nat) (mi:Int) (_:DQP iN ca) (_:B8R) (_:CE1) (_:C7C) (_:(∀q t pp zs qP ws F W k H',BG->ADD [IQ,AY7]->E4I->B6R->C0Q->yV->cI pp ws->Its H' ws W->kX->B73->wC)) (_:(BAL C6P)):AF7 IspLeast
noncomputable def a4w(D:qE):Sp:=B3K IspLeast
def sc_least:DJ (COA "most" "finder") BJB a7U:={}
def b7Q{r:qE}(Z:IJ "least" a7U BJB)(T:AT)(U:A8T)(g:TR)(J:ED8 "Finder" AON b3c)(j:EPC)(n:E7T)(t:E7R)(p:E7S)
  (D:EYO "TooMany" r):BCK r:=by
 rw[IH Z.okE sc_least c3 hr]
 rw[A1P ra ca rss cs most mi]
 .obtain⟨ra,ca,rss,cs,most,_,rfl,rfl,Y,hbig,kq,ke⟩:=h;rw[BL (BU 3 sc_least.nd (c0q J BKO rfl aF)
 (A1 (lK 4 sc_least.nd (jv 2))
 (BWW (b0l (Q8 (WV (CEP n)))
 (BU 4 sc_least.nd (DS a3Z 4 (a0g j g (DB8 b1G) WU A88))
 (A3 (C3 (mH b3A 4)
 (D3P D)
 B7))))
 (SX S9 (QP (CEP t) (CEP p))))))]
  refine B8J (B8V hx b4 N);rw[BCR c0 H N.symm hx]
  have s0:KO BC6:=gZ qV b4 c0;refine⟨x,dx,ra,ca,rfl,A0,λaf aw H1 b2 b3 D1 _ kp=>rX⟩;have a0:D7Z:=s0.free b2;have a1:EJ aw:=s0.free b3;have s1:PF:=EGM;rw[DZ];rw[qX];rw[DZ];rw[C27]
  rw[BCP (σ=CDV (σ.getD 4 none)/\BG/\∃F W k,EYI [] F W/\kX/\B73)]
  case fin =>
   rintro σ H2 ⟨hσ,s2,F,W,k,S,I,X⟩;rw[F5V];have V:=I.lv;rw[hσ];refine c2a rfl S (pY (A3N V)) DF2 λq1 zs c1 H3 s3 b7 a7 b6 b9=>?_
   .obtain⟨i,i1,_,lv⟩:=V.2.1 v (jR (ZX V) M);cases v with
    |nil=>have:=lv.sum;simp at this;rw[ZO 0x5bc56849a6aaf3bc066e i1]
    |cons _ _=>simp
   have D3:=S.same s3;obtain⟨⟨c4,c2,c5,g1,_⟩,_,_,_⟩:=id D3;refine b6L rfl D3 (DR q2 ws H4 s4 b8 a8);rw[HA (ANT 2 0x696ad8a3c841b17d6d) q hq];rw[kQ s5 H4 [AK q1,AK q2] hq];exact kq q q1 q2 zs c1 ws F W k _ (IP (kJ s2.trans s3) s4 s5) A0 (eC s5 s4 b7) ((a7.same s4).same s5) b6 b9 (AY9 b8) (a8.same s5) I X
  refine⟨λm σ H'=>∃(b:Bool) (L F W:LLI) (d:Int),σ=CDV (FP d)/\BG/\BF5 D26/\0<=d/\m=d.toNat+BE3 DSJ/\((HX b/\AUQ/\F=[]/\W=[]/\d=most)∨(pL/\EFA kY)),
   ⟨_,false,[],[],[],_,rfl,s1,D1,A5J,rfl,CW (A51 rfl rfl rfl)⟩,?_⟩
  rintro m σ H2 ⟨b,L,F,W,d,rfl,s2,S,r0,rfl,O⟩;rw[F5V];refine b6M rfl S pR;by_cases he:DSJ
  .rw[IG rfl he];rw[GM C1];rw[EYG]
   .cases z
   .exact jD ⟨rfl,s2,F,W,k,S,I,E67⟩
  .have hb:(b && CUV)=false:=by
    cases b with
    |false=>rfl
    |true =>
     have:sB:=E8T;rw[A33]
   rw[hb,BA he];rw[WL (xD (λσ' H'=>∃(G Z W':LLI) (k:Nat) (l:Int),σ'=CDV AYL/\BG/\EYI G Z W'/\0<=l/\ZH Z W' G k/\l=most-W'.length/\l.toNat+BE3 (G=[])<d.toNat+1) (λσ' H' ⟨G,Z,W',k,l,e1,e2,e3,e4,e5,e6,e7⟩=>⟨_,e7,true,G,Z,W',l,e1,e2,e3,e4,AL,A5P rfl k e5 e6⟩))];obtain⟨B,hB,hL,hF,b1,b0,a6⟩:∃B:Int,B9E/\DUI E4B/\DPU/\B73/\D4O most/\F.length<=most:=by
    rcases O with⟨rfl,rfl,rfl,rfl,_⟩|⟨rfl,k,I,a⟩
    .exact⟨0,AF,AH8,AH8,AL,AL,AL⟩
    .obtain⟨i1,i2,i3,i4,i5,i6,i7,i8⟩:=I.lv;refine⟨k,AF,λv M=>⟨BSK len,λy hy=>GZ (DRT y hy)⟩,DF2,E67,EHT i5,EHT i4⟩
     .rw[RV (b8b DRT y hy) (BSK sum)]
     .obtain⟨i,_,_,lv⟩:=i2 v (jR i3 M);exact lv.len
   have a9:L.length*cs.length<=60*63:=Nat.mul_le_mul (A5K b0 hbig) Y.n2;have a5:pL->BRT d:=λe=>by
    rw[EYG]
    .rw[HM z]
    .have:=I.fst;rw[LF (b4T Y.nn)]
   rw[WW (b6K rfl rfl S (Y.same s2) (RB d r0 a5) hL hB hF (BS 0x14bcb5b27dc9ddd81b5217f85e67872a5 a9) (E1K a6) (E1K b1) (DR G H3 R D3 _ a3))];rw[RT (BRZ ?_)];have s3:KO H3:=λc o e=>a3 c o (by simpa using⟨CX8,A5U a0,A5U a1⟩) (s2 c o e);have key:(EFA (ZH (BRM G.filter) (W++G) G k))∨(d<G.length/\C6P):=by
    rcases O with⟨rfl,rfl,rfl,rfl,a⟩|⟨rfl,k,I,a⟩
    rw[GE ⟨1,BM (Wk.one R.ri R.nd (R.fst rfl)),A03⟩]
    .have N:sB:=E8T;rcases R.all rfl with ha|⟨m',e',a2⟩
     rw[GE ⟨BZ,.more I N R.ri R.nd λv=>⟨R.snd rfl v,λ(B1B hu M)=>ha u hu v M⟩,a⟩]
     .cases e';rw[QY ⟨a2,F,W,L,k,I,DH ⟨N,G,R.nd,R.snd rfl,BT 0x2aae99fb1010a1b4757c8e36484f99 a a2⟩⟩]
   refine B9A
   .have e':E4E:=zY;rw[DU AJ0 (ke _ s3 ?_)];rcases key with⟨k,I,a⟩|⟨_,ho⟩
    .exact IZ _ _ k I (dB .inl List.length_append (lq 0x82ac556d0c46e9325fedcb8d59071f99 e' a))
    .exact ho
   .have e':¬E4E:=B6N;rcases key with⟨k,I,a⟩|⟨b5,_⟩
    .refine⟨G,_,_,k,_,rfl,s3,D3,BS 0x18d94a651d94ea7831f97 e',I,D69 (lq 0x608ef6100a441ed122dc9011ec484f99 a),?_⟩;cases G with
     |nil=>simp
     |cons y G=>rw[D5A e'];rw[MW B34]
    rw[HQ b5 (BS 0xa2f4953f51cce31f97 e')]
#where
def Under.refl(v:qI):Under v v:=EW (ABQ (Int.le_refl _))
def Under.trans{a b c:qI}(h:Under a b)(g:Under b c):Under a c :=
 ⟨(CY).trans XN,λj d=>Int.le_trans (EL j (AJ XN d)) (aS j d)⟩
def a1W{f:qI}(hl:f.length=v.length):Bel f v=true↔Under f v:=by
 constructor
 .intro h;rw[IR hl];rw[VN Bel];induction f generalizing v with
  |nil =>
   intro j a;rw[<-hl]at a;simp at a
  |cons x f b =>
   cases v with
   |nil=>cases hl
   |cons y v =>
    rw[List.zipWith_cons_cons,List.all_cons,Bool.and_eq_true]at h;intro j a;cases j with
    |zero=>exact of_decide_eq_true CY
    |succ j=>exact b B2F EL j A03
 .intro h;unfold Bel;induction f generalizing v with
  |nil=>rfl
  |cons x f b =>
   cases v with
   |nil=>cases hl
   |cons y v =>
    rw[QC h.tail];rw[List.zipWith_cons_cons,List.all_cons,b B2F h2,Bool.and_true];rw[DG7]
def c8L(h:AM5)(j:Nat):DTG:=by
 rw[List.getD_eq_getElem?_getD];cases e:v[j]? with
 |none=>simp
 |some x=>simpa using ML h x e
def Wk.nd{rss:LLI}{cs:AO}{F W L:LLI}{k:Nat}(h:kY):W.Nodup/\F.Nodup:=by
 induction h with
 |@one L ri nd h=>rw[AY nd DYQ]
 |@more F W L L' k h ne ri nd f d =>
  obtain⟨l,m,n,p,q,r,s,w⟩:=h.lv;have a:LH W (∀u∈L',v≠u):=λv c u b e=>by
   obtain⟨i,q1,o,lv⟩:=m v c;obtain⟨t,g,j⟩:=aP f u b;have:=(b7Y (l t g) j).sum;rw[<-e,lv.sum]at this;rw[ZO 0x111ffe3dcf3736bd6 o]
  rw[DU (DCY kH nd a) (DCY d.2 DYQ (λv c u b=>a v (jR n c) u DFI))]
def W3:F3A
 |[],[],_,_,_,_,_=>rfl
 |[],A8P,_,_,_,_,h=>EOH
 |eW,[],_,_,_,_,h=>EOG
 |eW,A8P,ra,rb,na,nb,h=>by
  rw[F7C (by
   rw[EKW]
   .rw[B7G (SN h x)]
    .rw[BJ z J6 y]
    rw[JR q1 x]
   .rw[B7G (WT h y)]
    .rw[BJ z J6 x]
    rw[JR j y])]
  rw[ETH W3]
  .rw[BBL BQB]
   rw[HQ (yA hv) f]
   rw[OD]
  .rw[BBL (WT h v)]
   rw[HQ (yA hv) c]
   rw[OD]
section
variable {K:qF}
def b5q(n:Nat)(v:V):hV n [v]=D9E v:=by
 induction n with
 |zero=>rfl
 |succ n a=>rw[EW5]
inductive IspFree(vs:AA)(H:Hp)(Q:VK)(E:XK):Prop
 |mk (n:Int) (_:DBN) (_:0<=n) (_:YC) (_:BJP (UZ p (gD (cB n.toNat (AY8 EM) map) cV))):GX IspFree
noncomputable def a7I:Sp:=HS IspFree
def c1U:CBY b1n:={}
def c2Z(F:C0B "free" b1n):BAT:=by
 rw[BP c1U a d]
 rw[BBO n]
 .rw[F5A c7i (ER G0)]
  rw[F5Y [.non]]
  rw[DZN]
  rw[ELI b5q (SH e List.map_replicate)]
#where
#where
section
noncomputable def E5(x:Int):Str:=A7A
noncomputable def Sz(xs:qI):Prop:=jW C9C
noncomputable abbrev bk:Str:=lS 32
noncomputable abbrev lf:Str:=lS 10
def D8(x y:Str):ZN x y=x.length+y.length:=by
 show(x++y).cps.size=_;rw[Str.cps_append,Array.size_append];rfl
def M6{c B:Nat}:EFC (C8A) HL ((B+1))
 |[],_=>IC
 |dX,h=>by
  rw[ERE ((B+1))]
 |rT,h=>by
  rw[AD h1 A5Z h2 (M6 (c:=c) (ys:=ZT) λz a=>h z wD)];show FO EGA<=_;rw[D8,D8,AJ9 (UG (HL:Str)=1),List.length_cons,Nat.succ_mul];rw[B8C 0xaefa8c1b15b8bb7d5d8]
def a1y{x:Int}(h:C9C):NF E5 x 60:=D7R
def c4h{x:Int}{c:Nat}(a:c<48):c∉BSJ:=λh=>by
 have:=X8 x.toNat c h;rw[KZ 0x6207d617a8641bce5 a BNB]
noncomputable def vt(xs:qI):Str:=A4A xs.map E5
noncomputable def ln(w:Str)(xs:qI):Str:=MF (w::AZ9)
def b0Q{xs:qI}(h:BZR)(hl:C4F):NF vt xs 488:=by
 rw[AWL (BF M6 c 32 B 60 (ys:=AZ9) (λy b=>DJD a b (h x a)))];exact Nat.le_trans this (ESB (xs.length*61) 8 61)
def a9Z{c d:Nat}:∀{ys:AB},d≠c->ADS (d∉y.cps.toList)->d∉C8I ys
 |[],_,_=>DH5
 |dX,_,h=>A5Z
 |rT,hd,h=>λa=>by
  rw[W7]at a;rw[bK CUK]
  .exact h x List.mem_cons_self q
  .rw[bK (List.mem_cons.mp q)]
   .exact hd q
   .exact a9Z (c:=c) hd DM0 q
noncomputable abbrev wL:Str:=⟨#[108,101,97,115,116]⟩
noncomputable abbrev wS:Str:=⟨#[115,116,101,112]⟩
noncomputable def lns(A B:LLI):AB:=A.map (ln wL)++B.map (ln wS)
noncomputable def pt(A B:LLI):Str:=Str.join lf (lns A B)
section
variable {K:qF}{α:Type}{src:OJ}{σ caps:L2.St}{Q:VK}{a:qE}{vs:AA}{as:DI}{H:Hp}{te:TE}
def a3F(f:A0R)(hz:AYB)(hl:DZ8)(b:E9R)(c:bJ)
  (d:F6T) (hd:DNF):AFF AM4:=by
 refine R1 (xs:=vs) hz (eQ (ys=FQ as.take i f)) A4P (OB ys BBF) ?_ ?_
 .rw[F1D]
  rw[F6D]
 rw[EZX]
def V0(f:A0R)(hz:AYB)(hl:DZ8)(b:DQN)(c:bJ)
  (d:F6T) (hd:DNF):C3T:=by
 refine T0 (xs:=vs) hz (eQ (ys=FQ as.take i f)) A4P (OB ys BBF) ?_ ?_
 .rw[F1D]
  rw[F6D]
 rw[EZX]
#where
noncomputable abbrev topN:Int:=1000000000000
noncomputable abbrev wd(s:String):Str:=DK s
noncomputable def isNm(w:Str):Prop:=1<=w.length/\w.length<=8/\oX w.cps.toList CCG
structure Nms(ns:AB):Prop where
 nd:ns.Nodup
 nm:∀n∈ns,BWM
noncomputable def Q0(s:B9G)(w:Str):B9G:=if w=wd "+" then(nA CA8)else(DT1 w)
noncomputable def prt(ws:AB):DW:=let s:=ws.foldl Q0 A75;CA8
noncomputable def Wok(w:Str):Prop:=DTK/\w.length<=10000
def b0O{w:Str}(h:C1N w.cps.toList)(hl:A5G w.length):Wok w:=⟨by
 rw[AE Array.all_eq_true' (λc a=>decide_eq_true (h c A03))],hl⟩
noncomputable def ovI:DEP
 |WM=>BD x
 |none=>.non
section
variable {P:qG}{w:World}{K:qF}{mg:AZ}{base:Heap}
noncomputable abbrev fgs:Str:=DK "0123456789"
noncomputable abbrev lts:Str:=DK "abcdefghijklmnopqrstuvwxyz"
def b3O(c:Nat):AZA↔D0N:=by
 have e:fgs.cps.toList=List.range' 48 10:=by rw[bT]
 rw[E5E]
def c3j(c:Nat):c∈lts.cps.toList↔CCG:=by
 rw[DWW (List.range' 97 26)]
 rw[E5E]
def a9t{σ:L2.St}{src:OJ}{Q:VK}{x z:Str}{H:Hp}{te:TE}(b:A5G x.length)(a:∀c H' (N:VK),N (BDT B5H) H'->te (B75 (ADA HL)) H' N)(h0:∀v,Sub WO (ASB 0 SK))
  (hd:AD4 (x.cps.toList.map λc=>A5V B5H)):AFF BWB:=by
 rw[NJ d]
 refine b5B (x:=x) (by rw[A9E x.length 0x14cf7f69699144a231d1f70b826 b d]) (uT (H'=H/\ys=FQ x.cps.toList.take i λc=>A5V B5H)) (EW AL) (BT7 (KG EL List.length_map nN)) ?_ ?_
 .rintro i c ys H' hc ⟨rfl,rfl⟩;rw[DU (h0 _) (a c _ _ rX)];rw[<-Array.getElem?_toList]at hc;rw[BQR hc]
 .rintro ys H' ⟨rfl,rfl⟩ p hp;rw[show x.cps.size=x.cps.toList.length by rw[Array.length_toList],List.take_length];exact hd p hp
def a7w(l:RU)(p:rW):(ELF).all trV=l.all p:=by
 rw[List.all_map];rfl
def a5S(l:RU)(p:rW):B2T ELF c0I:=by
 rw[BC8]
noncomputable def c3g(l:RU):Bool:=l.any (λc=>CJ (c<48) || CJ (57<c)) || l==[] || (l.head? == AU 48 && l.drop 1 != [])
structure NoW(w:Str):Prop where
 a:DTK
 l:QG w.length
 f:EK c3g w.cps.toList
noncomputable def c5p(w:Str):Prop:=B4U∨QE n (BAN/\1000000000000<n/\AGB 30)
def NoW.ex{w:Str}(h:B4U)(g:LU (cP w.cps.toList.all c AZA)):w=wd "" ∨ ∃c r,w.cps.toList=48::c::r:=by
 have f:=h.f;unfold c3g at f;rw[ES5]
 .rw[ES5]
  .rw[ET c hc e List.any_eq_true.mp f];rw[Bool.or_eq_true,decide_eq_true_eq,decide_eq_true_eq]at e;rw[LF (SN b3O c (of_decide_eq_true (List.all_eq_true.mp g c hc)))]
  .rw[beq_iff_eq]at f;rw[MA (C9T f)]
 .rw[Bool.and_eq_true,beq_iff_eq,bne_iff_ne]at f;cases e:w.cps.toList with
  |nil=>rw[SO f jO]
  |cons c r =>
   rw[e]at f;rw[A7Q b f];rw[C9N]
   subst a;cases r with
   |nil=>rw[AKR b]
   |cons c r=>rw[QY (XO c r)]
inductive spIsW(vs:AA)(H:Hp)(Q:VK)(y_3:XK):Prop
 |mk (w:Str) (b:Bool) (_:DBO) (_:((pL/\QE n (BAN/\rJ<=10000))∨(b=false/\B4U))) (_:rG b):HR spIsW
def a6r:E8A a0B:={}
def b5t(n:Nat):E0M qW∨(qW≠D8J /\ ∃c,DC2/\atI AOP 0=some c):=by
 rw[CBW]
 rw[GE (AJ a b5s)]
 .rw[iP (GZ (λe=>a3b n DDQ))];rw[AD b (a7l n (bE 0x9c8eb1be6da6125)) d D8E];cases e:AOP with
  |nil=>rw[HI e d]
  |cons c r =>
   rw[e]at b;rw[AX c (λz=>b (by rw[z];rfl)) AID]
def dq0{c:Nat}(h:DC2):LU (E79 HL):=by
 rw[A4J ?_]
 .rfl
 .rw[C9O]
  have a:[c]=[48]:=nM (λt:Str=>t.cps.toList) z;rw[C9N]
  exact h a
def c7w{n:Nat}(h:A0U 10000):Wok (E3 n):=b0O (λc a=>by have:=X8 n c a;rw[ED 0x254cbe63e13aeea5 AY0]) h
def a6A{C:Tok}(F:RQ "is_written" a0B "word")(T:AT)(a:BW mg "FIGURES" (.str fgs C)):ECL:=by
 rw[BP a6r t D]
 rw[SA w b]
 .rw[RC w b rfl hw k];rw[NJ q]
  have d:Wok w:=by
   rcases hw with⟨_,n,rfl,m⟩|⟨_,l⟩
   .exact c7w m
   .have:=l.l;rw[AY l.a (BS 0x64239722d77d3e6865 this)]
  rw[BL (A1 (AOF (EW3 (E73
 DH0) (ACM "0123456789"))
 VW
 B7)
 (FE (c8V (DS Y7 0 A4) (a0R (a1t (DS c5b 0 A4) (a0R (c5b (AHY c5e) A4)))))))]
  refine ZP _ kH;refine EIH fgs d.2 (λc H' N u=>VO c fgs rfl u) λp B=>?_;have k:=k _ (qV (o:=BQ (w.cps.toList.map λc=>A5V AZA)) B);rw[DN ⟨false,p,_,rfl,UJ,D6O,?_⟩ a7w];rcases hw with⟨rfl,n,rfl,m⟩|⟨rfl,l⟩
  .rw[EC1 x b3O (X8 n c x)];rw[AI1 dN];rcases b5t n with z|⟨z,c,h1,h2⟩
   .rw[BJ (decide_eq_true (by rw[z])) E2 k]
   .refine a1u (GA k) AKK;rw[DN dN (decide_eq_false λy=>z (V.str.inj y))];rw[WL (EB9 c (~~~b8K q m) h2)];rw[AE (dq0 h1) k]
  .cases g:(cP w.cps.toList.all c AZA)with
   |false=>exact CD (E2 k)
   |true =>
   rcases l.ex g with rfl|⟨c,r,e⟩
   .rw[DVO (BBE "0")];rw[BJ (DZP (! CJ (CND=US ""))) C1 k]
   .rw[DVO DLL];rw[eH DLL (EB9 48 (D4S d.2 b8K q) (AST AID))];rw[AE (DZP (E79 (lS 48))) k]
inductive spRF(vs:AA)(H:Hp)(Q:VK)(y_3:XK):Prop
 |mk (w:Str) (m:Nat) (o:EM) (_:QQ AZ1 AHF) (_:m<=600) (_:((QE n (BV1 DO/\BAN/\A0U m))∨(o=none/\(B4U∨QE n (BAN/\m<rJ/\A0U 100))))) (_:E5C):HR spRF
def a4g:sN "word" "most" "word" "most" V6:={}
def a4n(F:X3 "read_figures" V6 "word" "most")(T:AT)(a:ECL):EVW:=by
 rw[BP a4g g i]
 rw[AAG w m o]
 .rw[TD w m o rfl hm ho k];rw[BL (A1 (mI (O4 (WA a0p E8V 1) (K7 (Q8 (WV (C0Z i.mono)))))
 A8F
 B7)
 (FE (A70 c3N T.b_int)))]
  rw[NJ d]
  rcases ho with⟨n,rfl,rfl,b⟩|⟨rfl,e|⟨n,rfl,b,c⟩⟩
  .rw[F61 (~~~lq 0x246d55afe9f56c64421e998d7fe7 hm d b)];rw[BJ (xW (show ¬(DZ6) by exact b8U b)) C1 (VO qW true (CW (oB rfl n (CAE 0x218aebdfecbcd89ae1bfe6))) (λH1 s1=>CD (C1 (A1D _ DO (CAE 0xbb94b3a9dab14e1bfe6) (b2s (CAE 0x22f55091002ec333e1bfe6)) CEC))))]
  .have:=e.l;refine⟨_,rfl,_,rfl,~~~b8Q d this,_,rfl,_,_,rfl,rfl,_,rfl,a1u (GA AP3) AKK⟩;exact VO w false (AFZ e) (λH1 s1=>CD BSZ)
  .rw[F61 (~~~b8Q d c)];rw[BJ (XM (show(DZ6) by exact b1S b)) E2 AP3]
noncomputable def RdW(w:Str)(o:EM):Prop:=(∃x:Int,BV1 x/\w=E5 x/\SE/\bH)∨(o=none/\c5p w)
inductive spRN(vs:AA)(H:Hp)(Q:VK)(y_3:XK):Prop
 |mk (w:Str) (o:EM) (_:QQ AZ1 CJD) (_:E81) (_:E5C):HR spRN
def sc_read_number:DJ (BEX "top" "number") ["word","top"] Z9:={}
def a5p(F:X3 "read_number" Z9 "word" "top")(T:AT)(a:EVW):BCN:=by
 rw[BP sc_read_number g l]
 rw[SA w o]
 .rw[RC w o rfl ho k];rw[NJ c]
  have b:BEZ 1000000000000=13:=by
   have h1:DG0 13:=vC BS4;have h2:¬DG0 12:=λz=>pA (SN X7 AG) z AG;omega
  rw[BL (BU 2 sc_read_number.nd (A8 a (WD l.mono a3w) rfl (lY (AT3 a8C T.b_len (E4K KB))))
 (A1 (wZ BSR (DS a0p 2 JD)
 A8F
 B7)
 B8E))]
  rcases ho with⟨x,rfl,rfl,j,h1⟩|⟨rfl,e⟩
  .have h1:x<=1000000000000:=h1;rw[BTY _ WM (CW (oB x.toNat (LZ (Int.toNat_of_nonneg j)) D7R))];rw[C8D (CFO _ rfl)];rw[BJ (xW (AJ8 (¬(DKF x)) 0x3e0dcd8bd8646e4d29ef7524589666f1ce19960e3bb32bda2a16 h1)) C1 (CD CEC)]
  .rcases e with e|⟨n,rfl,n1,n2⟩
   rw[EPV w BW2]
   .have hl2:A0U 30:=E6G n2;rcases Nat.lt_or_ge 13 rJ with d|d
    rw[EPV qW (DH (RB n d (BS 0x2213b37cc42534e5 hl2)))]
    .rw[BTY qW (AU DO) (CW (RB n rfl d))];rw[C8D (CFO _ rfl)];rw[BJ (XM (show(DKF DO) by rw[ED 0x1eb535875db3518c7cf66f3ebc85615665f611d823573f96bbd n1])) E2 CEC]
inductive spNm(vs:AA)(H:Hp)(Q:VK)(y_3:XK):Prop
 |mk (w:Str) (_:DBO) (_:isNm w) (_:rG true):HR spNm
def b1g:E8A a3o:={}
def isNm.ok{x:Str}(h:BKP):Wok x:=b0O (λc a=>by have:=A89 c a;rw[ED 0x254cbe63ea771625 AY0]) (by rw[AHD YB b8C])
def b1z{m:Tok}(F:RQ "is_name" a3o "word")(T:AT)(a:BW mg "LETTERS" (.str lts m)):ECM:=by
 rw[BP b1g b n]
 rw[BBO x]
 .rw[T6 x rfl hx k];rw[ET h1 h2 d id hx];rw[NJ l]
  rw[GF (a1t (c3C A6 E8V A6) (a0R (EW3 (E73
 DH0) (ACM "abcdefghijklmnopqrstuvwxyz"))))]
  rw[DN (EUT (BT 0x238079d3484c5f55bdd926 h2 l) _ rfl rfl) (E8B x.length)];rw[WL B8P];rw[eH (XM (show D5W<=8 by rw[ED 0x7fd6ae585125 h2])) (ZP _ hx.ok.1)];refine EIH lts (~~~b8C h2) (λc H' N e=>VO c lts rfl e) λp j=>?_;rw[AP6 p D6O];rw[DE a7w (EC1 g c3j (d c g)) (AUT Same.refl H j)]
#where
#where
section
variable {H:Hp}{L:DW}{b:qE}{j:Nat}{ns:AB}{x:Int}{ys:qI}
noncomputable def Lsts(H:Hp)(gs:EG)(L:DW):Prop:=gs.length=L.length/\GP i Nat a qE (CP gs a) (∃l:AB,CP L l/\cQ A6S)
def Lsts.same{H':Hp}{b:EG}(h:AYA b L)(s:BG):Lsts H' b L:=EV0 BX6
def Lsts.put{c:EG}{o:HO}(h:DVY)(d:b∉c):Lsts (AC4 b) c L:=EV0 (AJ (A5 λz=>B1U d z List.mem_of_getElem? e) e2)
def Lsts.snoc{c:EG}{l:AB}(h:DVY)(d:A34 A6S):AYA (c++[b]) (L++[l]):=by
 rw[CEH BYJ (PP a ?_) c.length]
 rw[CCR f (uV a) f]
 .rw[C3G];have:i-c.length=0:=by
   rw[wB AKV]
  rw[HM this];rw[AX l (DZE this) d]
structure PrtI(H0 H:Hp)(g:qE)(D:DW)(c:AB)(ds:EG)(cu:qE):Prop where
 hg:WG g (EIS cu)
 hd:AYA ds D
 hc:W2 cu (HW c.map)
 nd:cu∉ds
 ng:g∉ds
 gc:g≠cu
 fg:FV H0 g
 fc:FV H0 cu
 sm:Same H0 H
def a8U{γ:Type}(f:A0Z)(g:C31):ESA
 |[],_=>rfl
 |HU,[]=>rfl
 |IF,MN=>CGL a8U
def a1J(a b c:Str):a++b++c=a++(b++c):=Str.ext' (by rw[Str.cps_append,Str.cps_append,Str.cps_append,Str.cps_append,Array.append_assoc])
def a0L(s x y:Str)(r:AB):qU s rT (x++s++UB s ZT):=rfl
def S8{s:Str}:∀{a b:AB},B3E->B2S->qU s (a++b) (DAC s++s++UB s b)
 |[],_,h,_=>AOC
 |dX,b,_,h=>by
  cases b with
  |nil=>rw[AKR h]
  |cons y r=>rfl
 |rT,b,_,h=>by
  show x++s++UB s ((ZT)++b)=(x++s++UB s ZT)++s++UB s b;rw[S8 BU8 h];rw[BUO]
noncomputable def O7:DW->AB
 |[]=>[]
 |[t]=>t
 |A10=>AO3
noncomputable abbrev wplus:Str:=DK " + "
def a9I:∀{ts:DW},BY6->C5B->GY B5L
 |[],h,_=>AOC
 |[t],_,h=>A16
 |A10,_,h=>λz=>by
  have:t=[]:=(List.append_eq_nil_iff.mp z).1;exact h t List.mem_cons_self this
def a7e:∀{ts:DW},C5B->qU wplus (B05 ts.map) (A4A O7 ts)
 |[],_=>rfl
 |[t],_=>rfl
 |A10,h=>by
  have c:=EZN a7e;have b:GY BFD:=a9I (by rw[gT]) λx a=>BOX;show Str.join bk t++wplus++UB wplus (B05 (GS ABE))=MF AO3;rw[c,S8 A16 (by rw[gT])];cases e:BFD with
  |nil=>rw[HI e b]
  |cons y q =>
   rw[a0L];have:wplus=bk++(AVQ D6H):=CO
   rw[this];rw[BUO]
def a7Z:GP t AB s B9G CCJ (t.foldl Q0 s=(s.1,s.2++t))
 |[],s,_=>AL
 |A8E,s,h=>by
  rw[List.foldl_cons,a7Z r _ λz=>h AK9];have:Q0 s x=DT1 x:=by
   rw[EY Q0 (AKN (dB h z List.mem_cons_self))]
  rw[PQ this]
def a6T:∀(ts:DW) (D:DW),BY6->AWW CCJ->(let s:=(O7 ts).foldl Q0 BL8;CA8)=D++ts
 |[],_,h,_=>AOC
 |[t],D,_,h=>by
  rw[EL0 t.foldl t.foldl];rw[a7Z t _ A16];rfl
 |A10,D,_,h=>by
  have b:=a6T ABE DTF (by rw[gT]) λx a=>BOX;rw[EL0 EKP EKP];rw[List.foldl_append,a7Z t _ A16,List.foldl_cons];have:Q0 (D,[]++t) (wd "+")=nA DTF:=by
   rw[EY Q0 FU];simp
  rw[this];rw[JZ Eq.trans b];simp
def b7c{ts:DW}(h0:BY6)(h:iY ts CCJ):prt (O7 ts)=ts:=by
 rw[RV (a6T ts [] h0 h) List.nil_append]
def isNm.ne{n:Str}(h:BWM)(x:Str)(b:∃c∈x.cps.toList,c<97):n≠x:=λz=>by
 rw[oZ a h1 b];have:=A89 c C7S;rw[KZ 0x620760470a3262465 h1 BNB]
noncomputable def tmW(x:Int)(n:Str):AB:=if x=1 then[n] else DZL
noncomputable def psW(ys:qI):DT9:=ys.zipIdx.filter λq=>ACA
noncomputable def tmP(ns:AB)(q:AL4):AB:=if AIZ CZ then[E5 EB] else tmW EB (ns.getD CZ bk)
noncomputable def Z4(ns:AB)(ys:qI):DW:=FQ psW ys (tmP ns)
noncomputable def E7(ts:DW):AB:=if ts=[] then sC else B5L
noncomputable def a5e(ns:AB)(ys:qI):AB:=BQ2 C5P (AXN EKY)
noncomputable def Bds(xs:qI):Prop:=jW (-topN<=x/\x<=topN)
def Bds.neg{xs:qI}(h:A0G):Bds kC:=λy d=>by
 rw[GQ x c d];rw[A7Q b (h x c)];rw[BRR]
def c8c(x:Int)(n:Str):GY E1I:=by
 unfold tmW;split<;>intro z<;>cases z
noncomputable def Tm(ns ws:AB)(j:Nat)(x:Int):Prop:=(∃n,DMO/\ws=E1I)∨(j=ns.length/\ws=[iS])
def Tm.ne{a:AB}(h:Tm ns a j x):B3E:=by
 rcases h with⟨n,_,rfl⟩|⟨_,rfl⟩
 .exact c8c x n
 .exact zU
def c7y{y:Str}(b:DKI DDB):y≠iS:=λz=>by
 rw[oZ a h1 b];exact h1 (X8 x.toNat c (by show DF0;rw[EX z a]))
def c7x(b:LM)(x:Int):iS∉ns:=λz=>by
 obtain⟨h1,_,h2⟩:=b.nm _ z;cases e:BSJ with
 |nil=>exact a3b _ e
 |cons c r =>
  rw[HC a DF0 e List.mem_cons_self]
  have:=h2 c a;rw[LF DV0]
def Tm.out{d:AB}(e:LM)(h:Tm ns d j x){y:Str}(b:DKI (c<97/\DDB)):y∉d:=by
 have a:y≠iS:=c7y (let ⟨c,h1,_,h2⟩:=b;EAH);rw[CEB h f]
 .have hn:y≠n:=λz=>(ML e.nm n f).ne y (let ⟨c,h1,h2,_⟩:=b;EAH) z.symm;rw[TL tmW]
  rw[D95 hn]
  .rw[List.mem_cons,List.mem_singleton];rintro(z|z)
   .exact a z
   .exact hn z
 rw[D95 a]
def b7a(hl:AMQ){q:AL4}(h:q∈psW ys):0<EB/\EB∈ys/\Tm ns (tmP ns q) CZ EB:=by
 rw[QC (List.mem_filter.mp h)];rw[AD a (List.mem_zipIdx_iff_getElem?.mp h1) hi (IB a)];rw[DV (of_decide_eq_true h2) (List.mem_of_getElem? a) ?_];unfold tmP;rw[CS c CZ ns.length]
 .rw[BJ AKI .inr (NM c)]
 .rw[BA c];have e:=List.getElem?_eq_getElem (show CZ<ns.length by exact lq 0x7f6248cec7f0c78ec0f02a0ed7 hl hi c);rw[MA (DX e (DCP e))]
def a7C{ns:AB}{ys:qI}(hl:AMQ){t:AB}(h:t∈AML):∃j x,0<x/\x∈ys/\CDE t:=by
 rw[PY q a D75];exact DX _ (b7a hl a)
def c0z(b:LM)(hl:AMQ)(h:GY AML):prt (E7 AML)=AML/\C5P≠sC:=by
 have a:=λt=>@a7C ns ys hl t;rw[EY E7 bC];generalize AML=e at h a;rw[DU (b7c h λt m=>?_) AJT]
 .obtain⟨j,x,_,_,q⟩:=a t m;exact q.out b (CBI 43)
 .match e,h with
  |[t],_ =>
   obtain⟨j,x,f,_,q⟩:=BFU a;have z:t=sC:=z;rw[CEB q c]
   .rw[pK tmW z z]
    .rw[C9O]
     exact(ML b.nm n c).ne _ (CBI 48) z
    rw[HQ (nM List.length z) AL]
   .rw[C9O]
    exact a7l x.toNat AF (ZW (show A7A=wd "0" from z))
  |A10,_ =>
   have d:0<t.length:=by
    obtain⟨_,_,_,_,q⟩:=BFU a;exact List.length_pos_iff.mpr q.ne
   have z:=congrArg List.length (show AO3=sC from z);rw[List.length_append,List.length_cons]at z;simp at z;rw[KZ 0x99530036f36af526dc5e d z]
def a9H{y:Str}(a:y≠D6H):∀{ts:DW},AWW (y∉t)->y∉B5L
 |[],_=>gW
 |[t],h=>A16
 |A10,h=>λz=>by
  rw[E6M (y∈AO3) z]
  .exact h t List.mem_cons_self z
  .rw[B6L]
   .exact a z
   .exact a9H a (λx b=>h x vJ) z
def b0q(a:LM)(hl:AMQ):AEV∉C5P:=by
 rw[TL E7]
 .rw[TY List.mem_singleton]
 .refine vC a9H λt m=>?_;obtain⟨j,x,_,_,q⟩:=a7C hl m;exact q.out a (CBI 61)
noncomputable def a2f(t:qI)(q:AL4):qI:=t.set CZ (t.getD CZ 0+EB)
noncomputable def a6u(x:Int):Int:=BGE BZ7 x
def b0M:∀(xs pre:qI),(mE xs.zipIdx pre.length λq=>ACA).foldl a2f (pre++ABN xs.length)=pre++AC5 a6u
 |[],pre=>rfl
 |A8E,pre=>by
  have a:=b0M r (pre++[a6u x]);rw[List.length_append,List.append_assoc,List.append_assoc]at a;rw[DZS List.length_cons List.replicate_succ];refine Eq.trans ?_ a;unfold a6u;by_cases e:BZ7
  .rw[B7X,QH,List.foldl_cons];congr 1;rw[BUG a2f];rw[AH List.set_append_right BO,List.getD_eq_getElem?_getD,A8S,Nat.sub_self];simp
  .rw[AKO,JQ];rfl
def c9w(hl:AMQ):AV5 (psW ys).foldl a2f cO=ys.map a6u:=by
 rw[<-hl];exact b0M ys []
def c1n(ps:DT9):∀t:qI,LB ps.foldl a2f t=t.length:=by
 induction ps with
 |nil=>intro t;rfl
 |cons p r a=>intro t;rw[FK List.foldl_cons a List.length_set ..]
def b3S:∀ys:qI,List.zipWith (λa b:Int=>a-b) (ys.map a6u) (GS EKY a6u)=ys
 |[]=>rfl
 |A8E=>by
  have:a6u x-a6u (-x)=x:=by
   unfold a6u;split<;>split<;>omega
  rw[List.map_cons,List.map_cons,List.map_cons,List.zipWith_cons_cons,b3S r,this]
def c7q(h:ns.Nodup){n:Str}(c:DMO):∀i,i<j->OS (DBB).any ((· == n)):=λi hi=>by
 rw[A7Q b (List.getElem?_eq_some_iff.mp c)];rw[AE (List.getElem?_eq_getElem (Nat.lt_trans hi a)) (beq_eq_false_iff_ne.mpr λz=>List.pairwise_iff_getElem.mp h i j (Nat.lt_trans hi a) a hi (z.trans b.symm))]
section
variable {P:qG}{w:World}{K:qF}{mg:AZ}{base:Heap}
inductive spPrt(K:qF)(vs:AA)(H:Hp)(Q:VK)(y_3:XK):Prop
 |mk (p:qE) (ws:AB) (_:fD) (_:DDH) (_:C34) (_:∀g gs H',UZ g (bN gs.map V.ref)->Lsts H' gs (prt ws)->BG->GL dH):ANQ spPrt
def sc_parted:VC ["words","groups","word"] "words" a4V:={}
def c2l(a:AB):∀s:B9G,AZ4 (a.foldl Q0 s).1 (a.foldl Q0 s).2<=EB6+a.length:=by
 induction a with
 |nil=>intro s;rw[DH9]
 |cons w r b =>
  intro s;have:=b (Q0 s w);have h1:AZ4 (E19).1 (E19).2<=EB6+1:=by
   unfold Q0;split<;>simp<;>exact lq 0x6670fb787dd6
  rw[DE List.foldl_cons List.length_cons (lq 0x233e7d439f09329df202a111a1e43a0d9b this h1)]
def b4M(F:RQ "parted" a4V "words")(T:AT):EN8:=by
 rw[BP sc_parted O U]
 rw[SA p ws]
 .obtain⟨p,ws,rfl,hp,hl,k⟩:=h;rw[NJ J]
  rw[BL (eE 1 sc_parted.nd DK9
 (A1 (B65 2 sc_parted.nd
 (A3 (ATV 2
 (B78 JD DK9)
 (B78 BR2 NU))))
 (BJ1 1)))]
  rw[DU IC (λr u=>A6F AZW g v)];rw[DZ];have m:g≠r:=DE9 v v
  have D:EJ g:=by rw[FF (A5 m) v v]
  have s1:KO (FB (cC r []) g [CPM]):=gZ qV u v;refine BZP p AKP;refine VM O5 p BKW (cE σ (∃o ds r,σ=E0B o/\PrtI H H' g (BRF Q0 A75).1 (BRF Q0 A75).2 ds r)) (FY none [] r ⟨A0,EW (PP a ((by rw[CM]))),E4N m.symm,(gW),(gW),m,D,u,s1⟩) (ABH σ S (by obtain⟨_,_,_,_,I⟩:=S;rw[zQ (AH I.sm hp)])) ?_ ?_
  .rintro i x σ H1 hx ⟨o,ds,cu1,rfl,I⟩;rw[rK hx d hw hx];have hi:=IB hw;have G:CNO AR Q0 A75=Q0 DWB d:=by
    rw[DL4 hw]
   have c:=c2l (ws.take i) A75;rw[G];generalize DWB=st at I c⊢;have c:AZ4 aY aX<=i:=by
    have:=List.length_take_le i ws;rw[D54 c];rw[ZO 0x6d3ede688338beff4802b198 c]
   have C:=I.hd.1;rw[CV BY7]
   .injection zY with e
    refine QU rfl (PV I.hg) IC (AS n q);rw[EF5 L g I.hg]
    rw[EF5 N cu1 I.hc]
    have nd:n∉ds:=λz=>by
     obtain⟨j,R⟩:=D90;obtain⟨l,_,e2⟩:=I.hd.2 j n R;rw[A32 e2]
    rw[F0X (BB9 g _ (JM L.symm I.hg) (by simp;exact lq 0x1a4d00fe3177fc4a6cebfce656c1033063bcf5a699d1f70b82a hl J hi c C)) E1P n (nA (aY++[aX])) QH]
    rw[y];have M:EJ n:=I.sm.free q;refine⟨DPN,?_,E4N L,?_,?_,L.symm,I.fg,M,?_⟩
    .rw[JZ Lsts.put (Lsts.put (I.hd.snoc I.hc) ?_)]
     rw[BCD nd N]
     rw[BCD I.ng I.gc]
    rw[BCD nd N]
    rw[BCD I.ng I.gc]
    .intro b o' t;rw[DE (A5 (C9H g I.fg)) (A5 (C9H n M)) DMG]
   .have e:¬d=wd "+":=D7C;have B:atI (EIS cu1) NH=BV V.ref cu1:=by
     exact BX a0u
    rw[F0X ⟨_,rfl,_,rfl,g,_,_,_,rfl,rfl,FD I.hg,B,PV I.hc,_,rfl,cu1,_,_,rfl,rfl,I.hc,by simp;exact lq 0x13360ca9beacf17fd4d949fb18fd4eb9a699d1f70b829 hl J hi c,?_⟩ ds cu1 (aY,aX++[d]) JQ]
    rw[y];refine⟨JM I.gc I.hg,I.hd.put I.nd,DPN,I.nd,I.ng,I.gc,I.fg,I.fc,?_⟩;intro b o' t;rw[A41 (C9H cu1 I.fc) DMG]
  .rintro σ H1 ⟨o,ds,cu1,rfl,I⟩;rw[DG6 I];rw[qX];refine k g E1P H1 ?_ (I.hd.snoc I.hc) I.sm;rw[D92 I.hg]
def b0B(ys:AA):EB5 ys=ys.dropLast:=by
 rw[E8M ys.length ys.length (by
  rw[BUG HT.sIx];rw[MW xO])]
 rw[e,HT.sIx_none,List.drop_zero,Nat.sub_zero,List.dropLast_eq_take]
def a2Y(x:Str)(xs:AB):vZ (inV (V.str x) (YY xs.map)) YH:=by
 unfold inV;rw[List.any_map,Bool.eq_iff_iff,List.any_eq_true,decide_eq_true_iff];constructor
 .rw[AFP y hy];have:y=x:=BN8 eqV e
  rw[EX this hy]
 .intro h;rw[AX x h (IN eqV)]
def N6(xs:AB):EK (xs.map V.str).all L8:=by
 rw[BC8]
inductive spRTo(vs:AA)(H:Hp)(Q:VK)(y_3:XK):Prop
 |mk (nt p:qE) (ns ws:AB) (j:Nat) (x:Int) (_:AA8) (_:fT) (_:DDH) (_:CDE ws) (_:LM) (_:QG ns.length) (_:0<x) (_:bH) (_:EFB (cI a [rR,BD x])):HR spRTo
inductive spRTx(vs:AA)(H:Hp)(Q:VK)(y_3:XK):Prop
 |mk (nt p:qE) (ns:AB) (_:AA8) (_:fT) (_:DDI) (_:LM) (_:BXQ):HR spRTx
noncomputable def c8r:Sp:=CCO spRTo spRTx
def c6J(h:LM):wd ""∉ns:=λz=>eB (h.nm _ z).1 AG
def c7z:c5p (wd ""):=CW ⟨BK,BK,BK⟩
def sc_read_term:D03 ["names","words","place","figures","number"] a1a:={}
def c7r{K:qF}{l:Str}:GP j Nat z V (JH (DJR) z) (EqV K H 0 z (bV l) ((ns[j]?).any (· == l))):=λj z a=>by
 rw[List.getElem?_map]at a;rw[PY y b (Option.map_eq_some_iff.mp a)];rw[AE b (EqV.flat rfl rfl)]
def a8f{S:Tok}(F:CB0 "read_term" a1a)(T:AT)(d:BSN S)(a:BCN):ENC:=by
 rw[BP sc_read_term M B]
 .rcases h with⟨nt,p,ns,u,j,x,rfl,_⟩|⟨nt,p,ns,rfl,_⟩<;>rfl
 .rw[ANZ]
  rotate_left
  .obtain⟨nt,p,ns,rfl,g,c,y,k⟩:=h;rw[BL (DU9
 (EQV
 (A1 (ENF
 (A05
 JV)
 B7)
 (A1 (DQ7
 JV
 B7)
 (EKS
 (A1 (E75
 A8F
 B7)
 JV))))))]
   rw[EUQ];rw[CV CE4];rw[CI7 (a0u [] _) (decide_eq_false (c6J y))];rw[AI1 (APD p (PX c) (C1 (EZR p AVX BVO none (AFZ c7z))))];rw[AV0];exact lR (E2 (k H2 G))
  obtain⟨nt,p,ns,u,j,x,rfl,g,c,I,y,N,t,C,k⟩:=h;have R:=B.u60;rw[NJ L]
  rw[BL (DU9
 (EQV
 (A1 (ENF
 (CW3 (b5j K R EV (ER BR2))
 (A3 (lK 3 sc_read_term.nd (a5M CYJ (BEH G3 CC7) (C8 A3L)))))
 B7)
 (A1 (DQ7
 JV
 B7)
 (EKS
 (A1 (E75
 JV
 B7)
 (SX S9 (A81 A88))))))))]
  rw[EUQ];rw[DZ];rw[BCP (∃fp,σ=[EZ nt,UU,AW5,EZ fp,none]/\A0A fp [ZC E5 x]/\BG)]
  case fin =>
   rintro σ H1 ⟨fp,rfl,J,s1⟩;refine APD fp (PX J) (C1 (EZR fp (FD J) _ WM (E1Q (~~~a8r t) C)));rw[AV0];rw[C8D dN];rw[BJ (A4J (by rw[XY BO1 0xb7c3bd0422bcae36 t])) C1 (IZ rfl _ rfl (uI 2 b1L L) (λq O=>AM k A0 (gZ s1.trans G O)))]
  have o:=List.length_pos_iff.mpr I.ne;rw[DN CE4 (XM (show PD<BH (xH u.map) by rw[BJ List.length_map b8F o]))];rcases I with⟨n,m,hw⟩|⟨m,rfl⟩
  rotate_left
  .rw[CI7 (a0u [] _) (decide_eq_false (c7x y x))];exact CD (C1 (jD ⟨p,SH m List.length_map,c,mG⟩))
  have r:u=[n]/\x=1∨u=DZL:=by
   rw[hw,tmW];split
   rw[GE (EW (‹_›))]
   rw[FN rfl]
  have b:atI (u.map V.str) NH=BV V.str n:=by
   rcases r with⟨e,_⟩|e<;>rw[e]
   .exact a0u [] _
   .exact a0u [_] _
  rw[CI7 b (B1M decide_eq_true m)];rw[WW (E2 ⟨_,rfl,(oB nt _ g),_,rfl,_,rfl,p,_,_,_,rfl,rfl,AVX,b,nt,_,_,0,λj=>(BJ0).any (· == n),j,rfl,rfl,g,AG,c7r,by rw[rB List.length_map m],IN m,c7q y.nd m,?_⟩)];clear b hw;rw[CV CE4];rcases r with⟨rfl,rfl⟩|rfl
  .rw[LD (A6F (CLZ L) D l)];rw[ET8]
  .rw[GM E2];dsimp only[K8];rw[DN (F2B p AVX (AS D l)) b0B];rw[ET8]
def c4q{ms:AB}:F4I (BUY):=by
 rw[F32]
 .rw[C9M];refine BMH;rw[A4N ns.length]
  .exact h1 i (cT c4M h2)
  .rw[BLN,D4L (cT b9f h2)]
 rw[E49]
def EqV.strs{k:Bool}{a:qE}{ms:AB}(c:EKL a ns.map)(d:EKL b ms.map):EDJ:=by
 rw[EWI (wA (DJR)) V.str CRK (by
  rw[List.getElem?_map]at e f;rw[DU6 u g];rw[ARI v h f];rw[DE g h (ETR (.str u) (.str v))])]
 rw[<-c4q];cases k
 rw[BBK EqV.lst (BUY)]
 rw[BBK EqV.tup (BUY)]
noncomputable def pr(q:AL4):qI:=[BVD,EB]
def c3f{ys:AA}{rss:LLI}(h:BYO):OS ys.any c3X/\LH ys EL5:=by
 have key:LH ys D2E:=λv b=>by
  rw[jQ hi (List.getElem?_of_mem b)];obtain⟨r,_,a,e1,e2⟩:=EL i v hi;rw[FJ a _ e1 e2]
 rw[DU (List.any_eq_false.mpr λv b=>?_) (λv b=>.inr (key v b))];obtain⟨a,_,rfl,_⟩:=key v b;exact Bool.false_ne_true
inductive spRTso(vs:AA)(H:Hp)(Q:VK)(y_3:XK):Prop
 |mk (nt p:qE) (ns:AB) (xs:qI) (_:AA8) (_:fT) (_:WS (AQZ E7 B6E)) (_:LM) (_:DFD) (_:bF) (_:AYY bH) (_:NF E7 B6E 10000) (_:EFB (OX H' (YV (FQ xs.map a6u)))):HR spRTso
inductive spRTsx(vs:AA)(H:Hp)(Q:VK)(y_3:XK):Prop
 |mk (nt p:qE) (ns:AB) (_:AA8) (_:fT) (_:DDI) (_:LM) (_:bF) (_:BXQ):HR spRTsx
noncomputable def c4C:Sp:=CCO spRTso spRTsx
def sc_read_terms:EGO "totals" "terms" "place" "number" a0z:={}
noncomputable abbrev c8Z(nt p t p6:qE)(xs:qI)(m:Nat)(H6:Hp)(i:Nat)(σ:L2.St)(H':Hp):Prop:=∃o4 o5,σ=[D86,UU,BWH,EZ p6,o4,o5]/\UZ t (BXP (BTF i (m+1)))/\Off [t] H6 H'
def a6y(F:CB0 "read_terms" a0z)(T:AT)(d:ENC)(e:EN8):END:=by
 rw[BP sc_read_terms b5 hr]
 rw[F6N]
 .rw[C3V];rw[NJ J]
  rw[ANZ]
  rotate_left
  .obtain⟨nt,p,ns,rfl,Z,hp,hN,y,k⟩:=h;rw[BL (EKH
 (A1 (EKN
 JV
 B7)
 (ENB (F17
 E6J)
 (A1 (EZ7
 A8F
 B7)
 (A05
 JV)))))]
   rw[F7S];generalize EKK=tz;rw[A8C s2 s1.upd tz ht];generalize AJZ t tz=H2 at s2;rw[VD (fG AZW S G) B s2.upd (ABP CJS) G];rw[F4Q (XH=sC)];generalize VB S AH1=H3 at B r;rw[BIK (dF (XH=sC))]at r;rw[GD ⟨1,_,AG,r,B55,_,rfl,oQ⟩ (A1D p XH DT0 (B4G 10000) F0U)];rw[BIK (prt XH=[XH])]at M;have u:X.length=1:=M.1;rw[F0L (LG (lq 0x7e46e08c902cb6bd4e9aae0ede J u)) (AJM H4/\ys=List.replicate i V.non) (NM A2W) ⟨B5O Y,by rw[FK EL List.length_replicate Nat.le_refl _]⟩]
   .rw[F64 rfl];have hi:l=XH:=by
     cases i with
     |zero=>cases j;rfl
     |succ i=>cases j
    subst hi;rw[DN ⟨Sub.one,_,rfl,_,rfl,DH ⟨nt,a,ns,rfl,eC s5 ((B.trans s4)) Z,AY9 O,hN,λH6 L=>E3I⟩⟩ List.replicate_succ']
   .rw[EWK rfl];rw[List.length_map,u]at *;rw[CV (ZY p6 [V.non] rfl rfl UJ (λv hv=>cA List.mem_singleton.mp hv) _ rfl AUS)];exact AUT (kJ B.trans s4) s5 hp6
  obtain⟨nt,p,ns,xs,rfl,Z,hp,hN,U,y,b1,b0,k⟩:=h;rw[BL (EKH
 (A1 (EKN
 B8E
 B7)
 (ENB (F17
 E6J)
 (A1 (EZ7
 JV
 B7)
 (A1 (BBW C4O 4 sc_read_terms.nd 5 sc_read_terms.nd
 (A3 (b2k K PM AVW yF)))
 B8E)))))]
  rw[F7S];have a0:EKK=CMB V.int:=by
   rw[oY (jS (UC (BH ns.length+1)) cO)];generalize cO=m;induction m with
   |zero=>rfl
   |succ m ih=>rw[B91 ih]
  rw[a0];have a9:EJ t:=s1.free ht;rw[GJ s2 s1.upd AYS ht];rw[IS e2 H1 t AYS t AYS];generalize A35 t AYS=H2 at s2 e2;refine fG AZW S G;rw[AD B (s2.upd (o:=BQ AH1) G) e3 (K5 (o:=BQ AH1) e2 G)];rw[F4Q (E7 B6E=sC)];rw[AJA S AH1 H3 B e3 r];refine⟨1,_,AG,r,B55,_,rfl,?_⟩;have C:=c9w U;rw[XT (Z4 ns xs=[])]
  .rw[XM (show E7 B6E=sC by rw[EY E7 AKI])];rw[List.map_eq_nil_iff.mp c]at C;exact E2 (CD (AM k (PU C e3) B))
  obtain⟨a8,a6⟩:=c0z hN U c;rw[xW a6];rw[LD (A1D p _ DT0 b0 F0U)];rw[a8]at M;rw[AD a1 (B.trans s4) e4 (B1R e3)];have a7:NF psW xs 8:=Nat.le_trans VH (by rw[FK List.length_zipIdx U Nat.succ_le_succ y]);have u:X.length=DON:=by rw[BJ M.1 List.length_map ..]
  rw[F0L (B4K 0x5cde6d50a8531aa99b5a1547eae0edf J a7 u) (AJM H4/\Its H' ys (FQ EBX i pr)) ⟨A2W,.nil⟩ (CNW (B5O Y) YB)]
  .rw[F64 hT];unfold Z4 at j;rw[rK j q hq j];obtain⟨q1,q2,q3⟩:=ML b7a U hq;refine⟨Sub.one,_,rfl,_,rfl,CW ⟨nt,a,ns,_,CZ,EB,rfl,eC s5 a1 Z,AY9 O,q3,hN,~~~b8O y,q1,b1 _ q2,λb H6 hb L=>E3I⟩⟩;rw[List.take_add_one,hq,List.map_append];exact(hT.same L).snoc (DG b hb)
  .rw[EWK hT];rw[List.length_map,u,List.take_length]at hT;rw[GJ L s5.upd ARF hp6];rw[IU e6 H5 p6 ys p6 ys];have D:=rQ hT.same (HE H5) ys hp6;have t6:p6≠t:=oV DME hp6;generalize FB H5 p6 ys=H6 at L e6 D;rw[AD b4 (a1.trans L) W (BVC L)];rw[WQ b2 b3 c3f D];rw[DZ];rw[DN (ZY p6 ys rfl rfl (FD e6) b3 _ rfl ?_) b2];rw[LD (BZP p6 e6)];refine VM O5 p6 ys (c8Z nt p t p6 xs ns.length H6) (oR _ W yG) (ABH σ zz (by obtain⟨_,_,_,_,o⟩:=zz;rw[zQ (AM o (BM t6) e6)])) ?_ ?_
   .rintro i x σ H7 hx ⟨o4,o5,rfl,e7,off7⟩;obtain⟨_,j,a,rfl,C⟩:=D.2 i x hx;rw[rK j q hq j];have q3:=(List.getElem?_eq_some_iff.mp (List.mem_zipIdx_iff_getElem?.mp (B1M List.mem_filter.mp hq).1)).1;have a2:a≠t:=L7 C W BU8;have a3:=XE off7 a2 C;rw[RT (A4R a _ a3 _ _ _ _)];rw[EY c8Z (show BTF AR cO=a2f DWP q by rw[DL4 hq])];have n:=c1n (EBX i) (ABN cO);generalize DWP=tt at e7 n;rw[List.length_replicate]at n;have hj:CZ<tt.length:= ELJ 0x3e97b66ece48dfeea24b0ed8
    have a4:C3W tt.map BVD=BV V.int tt[CZ]:=E0W hj;have a5:ixN (A3M tt.map) BVD=some CZ:=by
     rw[EXK (ELJ 0xbfb09efef05a1a507aca4b0ed8)]
    rw[DN ⟨_,rfl,_,rfl,t,_,_,_,rfl,rfl,FD e7,a4,_,rfl,_,_,rfl,rfl,t,_,_,CZ,rfl,rfl,e7,a5,_,_,rfl,?_,aB off7.set⟩ A0];unfold a2f;rw[List.map_set,List.getD_eq_getElem?_getD,BOD];rfl
   .rintro σ H7 ⟨o4,o5,rfl,e7,off7⟩;rw[show ys.length=DON by rw[D.1,List.length_map],List.take_length,C]at e7;rw[WW (AJD e7 λb o hb=>AM off7 ?_ (BVB b4))];simpa using A7 hb a9
def a2A(x:Str):∀a:AB,((a.map V.str).countP λz=>eqV z (V.str x))=a.count x
 |[]=>rfl
 |w::r=>by
  rw[List.map_cons,List.countP_cons,List.count_cons,a2A x r];rfl
def cut_hi(a:AB)(m:Nat)(h:DE7):E59 DA3 VA=FQ a.take m V.str:=by
 rw[EM7 List.drop_zero Nat.sub_zero List.length_map BW5]
def cut_lo(a:AB)(m:Nat)(h:DE7):EEB DA3 VA=FQ a.drop m V.str:=by
 rw[EM6 BW5 List.map_drop (BVE (by rw[FK List.length_drop List.length_map lq 0x9ee3af564d1eaf859b956]))]
inductive spRSo(vs:AA)(H:Hp)(Q:VK)(y_3:XK):Prop
 |mk (nt p:qE) (ns:AB) (xs:qI) (_:AA8) (_:fT) (_:WS (HW (a5e ns xs).tail.map)) (_:LM) (_:DFD) (_:bF) (_:A0G) (_:A5G (LB a5e ns xs)) (_:∀a H',OX H' XG->A01->BG->GL AV):HR spRSo
noncomputable def wBad:AB:=[wd "1",AEV,BVO]
inductive spRSx(vs:AA)(H:Hp)(Q:VK)(y_3:XK):Prop
 |mk (nt p:qE) (ns:AB) (_:AA8) (_:fT) (_:WS CUU) (_:LM) (_:bF) (_:BXQ):HR spRSx
noncomputable def c8s:Sp:=CCO spRSo spRSx
def b0r(ns:AB):E7 (ARZ C7X)=BOC:=by
 have h:psW C7X=[(1,ns.length)]:=by
  unfold psW;rw[List.zipIdx_append,List.filter_append,List.filter_eq_nil_iff.mpr,List.length_replicate]
  .rw[Nat.zero_add];rfl
  .intro q hq;have:=List.mem_zipIdx_iff_getElem?.mp hq;have:=(B1M List.mem_replicate.mp this).2;rw[TY this]
 unfold Z4;rw[h,List.map_cons,List.map_nil,tmP,FU];rw[EY E7 (BA zU)];show[E5 1]=BOC;rw[vN (E5 1=wd "1")]
def sc_read_sum:EGO "middle" "left" "right" "rest" a2m:={}
def a9P{tT:Tok}(F:CB0 "read_sum" a2m)(T:AT)(n:DRU)(a:END):ENE:=by
 rw[BP sc_read_sum a5 U]
 rw[F6N]
 .have hu:=U.u60;rw[NJ g]
  rw[ANZ]
  rotate_left
  .obtain⟨nt,p,ns,rfl,R,b,r,c,k⟩:=h;rw[BL (A1 (ED7
 JV
 B7)
 (E5B
 (ELA
 (EKT
 (A1 (E76
 A8F
 B7)
 (A05
 JV))))))]
   rw[F6B (N6 _) (show E0H wBad.count=1 by rw[OP]) 1 (N6 _) AG]
   .cases g;rw[EL4]
   .obtain rfl:j=0:=by rw[ED 0x5a839c910a29e5 L]
    cases g;rw[D5K BK]
   rw[CV (B8J ?_)]
   delta K8
   rw[DN (vY p _ (FD b) DT4) (cut_hi wBad 1 AG)];rw[ZZ (A2T BOC) t];rw[AHB ⟨nt,p1,ns,C7X,rfl,A09,AJ b0r A0,r,ALC List.length_replicate,c,vR m,B15 b0r,AJX a2 e2 l⟩]
   .rw[CA C03]
    .rw[TY C2V]
    .rw[TY UX]
   rw[F7A];rw[E09 ((EE 1+1)) 2,cut_lo wBad 2 AG];rw[IL X H2 CPV u];rw[iP ⟨nt,p3,ns,rfl,EL8,A0,r,c,AS H4 D⟩];rw[DZ];exact vF (BY8 (k _ (l.trans (X.trans D))))
  obtain⟨nt,p,ns,xs,rfl,R,b,r,C,c,G,d,k⟩:=h;rw[BL (A1 (ED7
 JV
 B7)
 (E5B
 (ELA
 (EKT
 (A1 (E76
 JV
 B7)
 (AIB (AIU 5 sc_read_sum.nd "a" "b" none (AS7 (GI 3 A88))
 BAC) (AMS a3Z)
 (FE (a5M (c8S (lQ c3J T.b_max (WK (C2J (AW2 5)
 C1W) (A70 c7g T.b_abs))) (AZG n)) yF G0))))))))]
  have O:FO kC=cO:=by rw[AE List.length_map C]
  rw[AD o1 (b0q r C) o2 (b0q r O)];rw[a5e,List.length_cons,List.length_append,List.length_cons]at d;rw[a5e,List.tail_cons]at b;have t1:jW bH:=DTO G;have t2:JY (AC5 (λx => -x)) bH:=DTO G.neg;generalize hA:AXN xs=A at b o1 d;generalize hB:AXN kC=B at b o2 d;have hm:A.length<ZN A AV3:=by rw[FK List.length_append List.length_cons lq 32118533801286]
  have I:E26[A.length]?=BV wd "=":=by rw[A8S,Nat.sub_self];rfl
  have c1:CAX take A.length=A:=List.take_left' rfl;have c2:CAX drop D5M=B:=by rw[List.drop_append,WD List.drop_eq_nil_of_le b8R,Nat.add_sub_cancel_left];rfl
  have hc:CAX count (wd "=")=1:=by
   rw[List.count_append,List.count_cons_self,D4M o1,D4M o2]
  have J:∀j z,j<A.length->JH (E26) z->z≠AEV:=λj z L e y=>by
   rw[List.getElem?_append_left L]at e;exact o1 (xY y List.mem_of_getElem? e)
  generalize A++AV3=ws at b hm I c1 c2 hc J;rw[F6B (N6 ws) (show E0H ws.count=1 from hc) A.length (N6 ws) DCN]
  .rw[yP I g g];rw[EL4]
  .rw[rK g y hy g];rw[D5K (J j y L hy)]
  rw[CV (B8J ?_)]
  delta K8
  refine vY p _ (FD b) DT4;rw[cut_hi ws _ (~~~a5z hm),c1];rw[A93 A.map t];rw[AHB ⟨nt,p1,ns,xs,rfl,A09,AJ hA A0,r,C,c,t1,AJ hA (lq 0x2a4c3d18d3ea0dfb0977f2762571d6 d),AJX a2 e2 l⟩];rw[F7A];rw[show(BH A.length+1)=EE D5M by exact b9v,cut_lo ws _ (~~~a8w hm),c2];rw[IL X H2 (HW B.map) u];rw[AHB ⟨nt,p3,ns,kC,rfl,EL8,AJ hB A0,r,O,c,t2,AJ hB (lq 0x1fe983d5ed9379c1049bd6122571d6 d),DD a4 H4 e4 D⟩];rw[AD Y (X.trans D) e2 (rO Y)];have D:=l.trans Y;rw[CV (AGE (xC false false a2 a4 (hJ e2) (hJ e4)))];rw[EF (TB a4L [] (C1Q (x-y)) (k1:=false) (k2:=false) BVY D6W (by simp;rw[KZ 0x48ca7d46caeb4f29e16d252d6 C c]) (AF5 (BHH e2) (BHH e4)) rfl (D3J Q1)) H5 W s5 S];rw[C9R a8U (x-y),b3S];have f5:EJ W:=(D.trans s5).free S;have Z:=D.trans (s5.upd (o:=XG) S);rw[IS e5 H5 W XG W XG];rw[yB H5 W XG H6 Z e5];rw[CV (ZP W (hJ e5))];rw[EF (CBM nH xs (λi=>CUQ) (LG (lq 0xa3a80b906cbcac656cf045964aae0edf g C c)) A56 (AL6 e5) rfl (A7G H7 Q7 hv m s7)) H7 p7 s7 a1]
  .rw[yP m hv hv];exact A51 _ x aU
  .rw[GD ⟨false,p7,AC5 (λi=>BMP),rfl,SqL.of (by rw[A0,List.map_map];rfl),BKX b9D C,FH M hM a3⟩ B8P];rw[GQ x m hM];rw[XM (show UM (x<0) (-x) x<=1000000000000 by have G:=G x m;unfold topN at G;split<;>omega)];rw[A8C a0 s7.upd (xs.map λi=>CUQ) a1];exact E2 (CD (AM k (AH a0 e5) f5 (Z.trans a0)))
#where
#where
section
variable {C:qE}
structure Dr where
 names:AB
 rows:LLI
 sides:qI
 caps:XS
 prices:XS
noncomputable def a0Q(c:XS):KM:=c.map λq=>(Sum.inr EB,DT CZ)
noncomputable def lk(c:XS)(n:Str):EM:=A2P c.find? (CJ (EB=n)) (·.2)
def a2S(n:Str):∀c:XS,J3 (a0Q c) AW0=(lk c n).map V.int
 |[]=>rfl
 |q::r=>by
  have a:=a2S n r;unfold a0Q lk at *;rw[GC EB n]
  .rw[List.map_cons,K0 (by rw[e]),List.find?_cons,A87];rfl
  .rw[List.map_cons,K1 (ASI Sum.inr.inj),List.find?_cons,AJS];exact a
def a8y{c:XS}{n:Str}:vZ (lk c n).isSome ((n∈c.map (·.1))):=by
 unfold lk;rw[Option.isSome_map,Bool.eq_iff_iff,List.find?_isSome,decide_eq_true_iff,List.mem_map];constructor
 rw[EVL zY]
 rw[EVL A87]
def c3z{c:XS}{n:Str}{x:Int}(h:C5C):putK (a0Q c) AW0 (V.int x)=a0Q DOI:=by
 rw[a5i]
 .rw[C2L a0Q]
 .rw[a2S];have:=a8y (c:=c) (n:=n);rw[gU A6P];cases e:DTP with
  |none=>rfl
  |some y=>rw[CAU]
section
variable {P:qG}{w:World}{K:qF}{mg:AZ}{base:Heap}
def a2C{x:Str}{r:AB}:EQL A8E 0 x:=AID
def c9v{x y:Str}{r:AB}:EQL rT 1 y:=CLJ 1
inductive spTN(vs:AA)(H:Hp)(Q:VK)(y_3:XK):Prop
 |mk (nt p kp:qE) (ns:AB) (n:Str) (x:Int) (c:XS) (_:vs=[ASE,EU,AK kp]) (_:fT) (_:WS CO4) (_:BWG kp c) (_:n∈ns) (_:C5C) (_:SE) (_:bH) (_:GT c.length) (_:B7C (C00 kp DOI) DMQ):HR spTN
def sc_take_number:DJ ["names","words","kept","number"] BSD Z5:={}
def a5l{l:Tok}(F:IJ "take_number" Z5 BSD)(T:AT)(b:BSN l)(a:BCN):EOP:=by
 rw[BP sc_take_number g d]
 rw[xV nt p kp ns n x c]
 .obtain⟨nt,p,kp,ns,n,x,c,rfl,hn,hp,hk,hin,hno,h0,h1,hcl,k⟩:=h;have e:=d.u60;rw[NJ j]
  rw[BL (A1 (mI (O4 (Y8 XL A6) (O4 (b5f K nW EV CO) (K7 (c7a e nW PM CO))))
 JV
 B7)
 (BU 3 sc_take_number.nd (A8 a (WD d.mono a3x) rfl (QP nW (AZG b)))
 (A1 (C3 D0D
 JV
 B7)
 (A1 (a1O e PM nW WU)
 VW))))]
  refine APD p (PX hp) (C1 (F7M nt (WN hn) rfl (N6 ns)));rw[FU,a2Y,XM hin];rw[AI1 (F7M kp (DGet.k (k:=AW0) hk) _ rfl)];rw[a2S,Option.isSome_map,a8y,xW hno];rw[LD (AX7 p _ CUN c9v _ WM rfl (E1Q h0 h1) AFH)];rw[AV0];refine vF ⟨_,rfl,_,rfl,_,rfl,p,_,_,_,rfl,rfl,FD AKP,a2C,kp,_,rfl,DPut.k (k:=AW0) (HH hk) (by unfold a0Q;rw[AE List.length_map (lq 0x16bf9609ac6decabf4f54ec80e6 hcl j)]),?_⟩;refine k _ ?_ (aB s1.off.set);rw[AE A0 (congrArg some (congrArg HO.dK (c3z hno)))]
#where
noncomputable def dfl(tn ar as ac ap:qE):QF:=[qR "names" tn,qR "rows" ar,qR "sides" as,DHV ac,qR "prices" ap]
section
variable (tn ar as ac ap tn':qE)
def a3c:AN0 "names" tn:=CO
def c0U:AN0 "rows" ar:=CO
def c5k:AN0 "sides" as:=CO
def c5m:AN0 "caps" ac:=CO
def c5l:AN0 "prices" ap:=CO
def c0T:B7I "take":=CO
def c7B:B7I "take_names":=CO
def c0S:B7I "take_sum":=CO
def c7A:B7I "whole":=CO
def c4i:EYK "prices" (AK ap) EZG tn:=CO
def c0V:EYK "names" (AK tn') AD6 tn':=CO
#where
def Its.putI{H:Hp}{vs:AA}{rss:LLI}{c dx:qE}{fs:QF}{o:HO}(h:TU)(b:W2 c iG):DHF:=EBG
structure DrTx(K:qF)(C:qE):Prop where
 cl:TR
 n1:dO "names"
 n2:DFM
 n3:dO "sides"
 n4:DFN
 n5:dO "prices"
structure DrAt(C:qE)(H:Hp)(p ar as ac ap:qE)(d:Dr):Prop where
 ob:∃dx tn,AWG AD6/\lV tn d.names.map V.str
 hr:∃us,WG ar us/\OV us d.rows
 hs:W2 as (YV d.sides.map)
 hc:BWG ac d.caps
 hp:BWG ap d.prices
 rs:ar≠as
 cp:ac≠ap
def DrAt.same{C:qE}{H H':Hp}{p ar as ac ap:qE}{d:Dr}(h:lF)(s:BG):A38 DrAt ar as ac ap d:=by
 obtain⟨⟨dx,tn,f,g⟩,⟨l,i,j⟩,e,b,c,k,a⟩:=h;exact⟨zO tn BX4 BX3,EGE l,HF e,HF b,HF c,k,a⟩
section
variable {P:qG}{w:World}{K:qF}{mg:AZ}{base:Heap}
noncomputable def dr0:Dr:=⟨[],[],[],[],[]⟩
inductive spDInit(C:qE)(vs:AA)(H:Hp)(Q:VK)(y_3:XK):Prop
 |mk (p dx:qE) (_:fD) (_:C4Y) (_:∀(ar as ac ap:qE) (H':Hp),EJ ar->EJ as->EJ ac->EJ ap->AGY dr0->C7M->A2Y):fX spDInit
def a2L:B8Y O9:={}
def b7V(FM:ALL "__init__" "Draft.__init__" O9)(U:YF):AEI "__init__" spDInit:=by
 rw[B79 a2L a0]
 rw[SA p dx]
 .rw[RC p dx rfl hp k];rw[BL (A1 (BJW S9)
 (B8W
 (B8W
 (AEW a8D
 (B30 a8D)))))]
  have step:∀{H1:Hp}{x:qE}{o:HO}{fs:QF}{fl:Str}{v:V},BW H1 p iG->B4P->BW (CG9) p CSB/\p≠x/\L1 H1 x o p iG/\W0 (CG9) x/\BA6 (A29 (CG9)):=by
   intro H1 x o fs fl v h1 h2;have m:p≠x:=AGJ A7;refine⟨A0,m,JM m h1,CAL m.symm,A92 hb G⟩;rw[DE (A5 G) (mS hb h2) hb]
  rw[fC tn I];obtain⟨L,q,a3,M,N⟩:=BBR (o:=FX []) "names" tn hp I;refine jI a3 U.n1 AG;rw[B1J (A2L (LX H tn []) (D0P tn)) L M N];rw[fC ar l];obtain⟨O,r,b3,z,B⟩:=BBR (o:=BQ []) "rows" ar L l;rw[B74 b3 U.n2 1];rw[A7T (AU2 (AJZ ar []) p BSG) O z B];rw[fC as c];obtain⟨R,D,c3,S,t⟩:=BBR (o:=BQ []) "sides" as O c;rw[B74 c3 U.n3 2];generalize A2L (VB as []) (BK0 "sides" as BSG)=J at R S t;rw[eT (A4W ac) T W d3 F d (BBR (o:=nO) "caps" ac R j)];rw[B74 d3 U.n4 3];generalize AU2 (W1 J ac .dK []) p EZG=H4 at T F d;rw[eT (AS ap a) f1 f2 f3 f4 i (step (o:=nO) (fl:="prices") (v:=AK ap) T a)];rw[B74 f3 U.n5 4];have g1:A6A H1:=N;have X:A6A H2:=BAS B g1;have Y:A6A J:=BAS t X;have Z:A6A H4:=BAS d Y;have fr:∀{y:Hp}{x:qE},(A6A y)->FV y x->p≠x->BWE:=by
   intro y x g hx m;cases e:H x with
   |none=>rfl
   |some o=>rw[AW (g x o e m.symm) hx hx]
  refine k ar as ac ap _ (fr g1 l r) (fr X c D) (fr Y j W) (fr Z a f2) ⟨zO tn (NG A0 c4i) ?_,CD3,?_,?_,?_,?_,?_⟩ (BAS i Z)
  .exact AM i (AM d (AM t (AM B M q.symm) q.symm) q.symm) q.symm
  .exact AM i (AM d (AM t z r.symm) r.symm) r.symm
  .exact AM i (AM d S D.symm) D.symm
  .exact AM i F W.symm
  .exact f4
  .exact A7 z c
  .exact A7 F a
inductive spTNm(C:qE)(vs:AA)(H:Hp)(Q:VK)(y_3:XK):Prop
 |mk (p ar as ac ap l:qE) (ws:AB) (d:Dr) (_:A99) (_:lF) (_:C2Q) (_:Nms ws) (_:1<=ws.length) (_:ws.length<=7) (_:B7C (AGY (DIY ws)) DMP):fX spTNm
def a1Z:DTJ M8:={}
def a6v(W:cN "take_names" "Draft.take_names" M8 iT)(U:YF)(T:AT)(c:ECM):EN1:=by
 rw[IH W.fnJ a1Z X O]
 .obtain⟨p,ar,as,ac,ap,l,ws,d,rfl,_⟩:=h;rfl
 .obtain⟨p,ar,as,ac,ap,l,ws,d,rfl,D,hl,hN,h1,h7,k⟩:=h;have hu:=O.u60;rw[A74]
  have y:QM 9<scanBound:=by decide
  rw[BL (A1 (mI (O4 (Q8 (c3D A6 XL A6)) (O4 (b3A (c3M P w rfl T.b_len (ER (c3I K P w rfl T.b_set KB))) XL) (K7 (Q8 (WV (AIT (wX "word" DFX
 DGZ) (MU c O.mono WF)))))))
 JV
 B7)
 (AEW (AVH KB)
 VW))]
  refine CU0 l ALJ;rw[List.length_map,E8B ws.length];rw[WL B8P];rw[XM (show D5X<=7 by exact b9I h7)];rw[LD (A1D l ws CUO (BT 0x25d403fee93a5366 h7 y) (DR a e n hD hm r))];rw[ZZ AZU n];rw[IS L H a AZU a AZU];rw[xT (A5S AZU) L];refine⟨a,_,rfl,L,BT 0xd7e6e9f73e278a0bc88ecdb7d74a99c08ee1ffa0766 h7 r,_,rfl,l,_,rfl,PX BXZ,_,_,rfl,rfl,_,rfl,?_⟩;rw[List.length_map,xW (show ¬(BH e.length<D5X) by rw[AHD (Tab.nodup_le ws e hN.nd λx m=>jL hm x m) b8U])];rw[LD (BZP l BXZ)];rw[EF (CBM BKW ws (λx=>BL5) (CZW h7) A56 (AL6 BXZ) rfl (A7G H2 Q2 R m S)) H2 p2 S u]
  .rw[yP m R R];exact IZ rfl x rfl (ML hN.nm x m) q
  .have s3:=rQ s1.trans S.upd CZR u;rw[AP6 p2 ?_]
   .rw[BC8]
   rw[show B2T (ws.map λ_=>BL5) trV by rw[BC8]];generalize VB p2 CZR=G at s3;rw[AI1 (IZ rfl l _ rfl (gR (iR s3 hl) tn B))];rw[GJ F s3.upd AZQ B];rw[IS J G tn AZQ tn AZQ];rw[yB G tn AZQ I F J];obtain⟨⟨dx,a0,g,o2⟩,⟨us,r1,r2⟩,hs,Z,hp,rs,Y⟩:=D.same F;rw[DN (jI g U.n1 (BG2 5)) c0V];have j:AIV HO (HV I) ((∀fs,o≠iG)) (L1 I p (tY AD6) b o):=λ{b o} M t=>by
    rw[AE (A5 λz=>by subst z;rw[M]at g;rw[BUU g g t g]) M]
   exact k _ ⟨zO tn A0 (AP7 J),⟨us,AP7 r1,Its.putI r2 g⟩,AP7 hs,AP7 Z,AP7 hp,rs,Y⟩ (aB F.off.set)
inductive spTSo(C:qE)(vs:AA)(H:Hp)(Q:VK)(y_3:XK):Prop
 |mk (p ar as ac ap l:qE) (d:Dr) (xs:qI) (sd:Int) (_:A99) (_:lF) (_:xG (HW D2S)) (_:ANR) (_:DFC) (_:kS) (_:Bds BLM) (_:A5G (LB a5e d.names BLM)) (_:DZ1) (_:C97) (_:B7C (AGY (CDX xs sd)) (ZB [ar,as])):fX spTSo
inductive spTSx(C:qE)(vs:AA)(H:Hp)(Q:VK)(y_3:XK):Prop
 |mk (p ar as ac ap l:qE) (d:Dr) (_:A99) (_:lF) (_:xG CUU) (_:ANR) (_:kS) (_:DID):fX spTSx
noncomputable def c8q(C:qE):Sp:=EB3 spTSo spTSx
def sc_Draft_take_sum:DJ (ACT "words" "rest") iT O8:={}
def a9L(FM:cN "take_sum" "Draft.take_sum" O8 iT)(U:YF)(T:AT)(c:ENE):EN2:=by
 rw[B79 sc_Draft_take_sum a4]
 .rcases h with⟨p,ar,as,ac,ap,l,d,xs,G,rfl,_⟩|⟨p,ar,as,ac,ap,l,d,rfl,_⟩<;>rfl
 .rw[ANZ]
  rotate_left
  .obtain⟨p,ar,as,ac,ap,l,d,rfl,D,R,M,L,k⟩:=h;rw[BL (EUI
 (A1 (DUY
 VW
 B7)
 (A05
 (A05
 JV))))]
   rw[EI2 j q];rw[RT (CHQ j U.n1 A54 _ (DH ⟨tn,l,d.names,rfl,q,R,M,L,AFH⟩))];exact lR BSZ
  obtain⟨p,ar,as,ac,ap,l,d,xs,G,rfl,D,R,M,a1,L,h3,a0,J,Z,k⟩:=h;rw[A74]
  rw[BL (EUI
 (A1 (DUY
 JV
 B7)
 (AE9 (uM L4 HJ (mP (X0 K PM G3 CC7)))
 (AE9 (L4 K HJ (jaC (Z1 (BJZ PM)) jaN))
 VW))))]
  obtain⟨⟨dx,tn,j,q⟩,⟨a5,a2,_⟩,_⟩:=A3F;rw[RT (CHQ j U.n1 A54 _ (CW ⟨tn,l,d.names,BG1 G,rfl,q,R,M,ALC a1,L,h3,a0,DP a H1 x O s1⟩))];obtain⟨⟨dx,tn,j,q⟩,⟨I,t,v⟩,y,N,W,rs,cp⟩:=B6H;rw[DN (vF (BN1 j U.n2 BYT ar _ rfl (PX t) rfl)) (A4J (by have:=BO1;rw[lW v.1 (B23 0x111ffe2f6501d4fe5 J)]))];rw[LD (BCY j U.n2 BYT t)];dsimp only[K8];refine F2B a (FD x) (AS p2 X);rw[b0B,<-List.map_dropLast,List.dropLast_concat];rw[IL s2 H1 XG X];rw[IS e2 H1 p2 XG p2 XG];generalize BGR XG=H2 at s2 e2;refine⟨p2,_,rfl,gR BVY r Y⟩;rw[GJ m s2.upd aR Y];rw[IS e3 H2 r aR r aR];rw[yB H2 r aR u m e3];rw[AD a3 (s1.trans m) x (rN x)];rw[AD j (rN j) q (rN q)];rw[AD t (rN t) y (rN y)];rw[AD N (rN N) W (rN W)];rw[AD v (v.same m) S v.1];clear s1 s2 m;refine BB9 ar I t (jT 0x5cde6d6301f873465c7fb81d5bcd7e7 J hz S);have B:AIV HO (HV u) D8V (L1 u ar (BQ CA7) b o):=λe g=>JM g e
  have kd:EGC D8V:=λ{b o} e g z=>by
   subst z;rw[t]at e;injection e with e
   exact g _ e.symm
  have n:=B y rs.symm;rw[GD (BCY (B j (kd j λ_ z=>lN)) U.n3 DBU n) ⟨_,rfl,_,rfl,a,_,_,_,rfl,rfl,SqL.of (B x (oV a2 O)),AJ List.map_append (BX a0u),_,rfl,as,_,_,rfl,rfl,n,B4K 0x5d8498f7cc2b21570a82e50ef15dbe7 J Z hz,?_⟩];have F:EGC (L1 (FB u ar CA7) as (BQ (EIR (- -G))) b o):=λ{b o} e g=>by
   rw[AE (A5 λz=>by subst z;rw[y]at e;rw[BUU e e g e.symm]) (B e (kd e g))]
  refine k _ ⟨zO tn (F j RE) (F q RE),xD CA7 (CAL rs),?_,F N RE,F W RE,rs,cp⟩ (B5A a3.off.set AL)
  .exact Its.put (Its.put (v.snoc (DG r e3)) t) n
  .rw[DE A0 List.map_append (congrArg (λz=>BV HO.lst (EIR z)) (Int.neg_neg G))]
def a1T(x:V)(xs:AA):a0s IF (AU SQ) none=xs:=by
 unfold a0s;rw[E09 SQ 1,HT.sIx_none,HT.sIx_nat];simp
noncomputable def L5(p ar as ac ap:qE):EG:=[p,ar,as,ac,ap]
inductive Stp:EDZ AB
 |of {d:Dr}{ns:AB}(h0:d.names=[]) (hN:LM) (h1:BXI) (h7:bF):ALD ABO (DIY ns)
 |sum {d:Dr}{xs:qI}{s:Int}(hN:ANR) (h1:AHQ) (h7:kS) (hl:DFC) (hb:Bds C2X) (h5:DZ1) (hs:C97):ALD (a5e d.names C2X) (CDX xs s)
 |cap {d:Dr}{n:Str}{x:Int}(hn:C4H) (hc:AX2 d.caps.map) (hl:GT d.caps.length) (h1:SE) (h2:bH):ALD [A42,n,iS] (AES caps (d.caps++[BOW]))
 |price {d:Dr}{n:Str}{x:Int}(hn:C4H) (hc:AX2 d.prices.map) (hl:GT d.prices.length) (h1:SE) (h2:bH):ALD [AFS,n,iS] (C35 (d.prices++[BOW]))
inductive spTko(C:qE)(vs:AA)(H:Hp)(Q:VK)(y_3:XK):Prop
 |mk (p ar as ac ap l:qE) (ws:AB) (d d':Dr) (_:A99) (_:ALD ws d') (_:C34) (_:lF) (_:C2Q) (_:B7C C4E B3J):fX spTko
noncomputable def RfW(d:Dr)(ws:AB):Prop:=(d.names=[]/\∃y r,ws=ZT/\y≠BVP)∨(ANR/\AHQ/\kS/\(ws=XH∨ws=B7B))
inductive spTkx(C:qE)(vs:AA)(H:Hp)(Q:VK)(y_3:XK):Prop
 |mk (p ar as ac ap l:qE) (ws:AB) (d:Dr) (_:A99) (_:lF) (_:C2Q) (_:RfW d ws) (_:DID):fX spTkx
noncomputable def c8p(C:qE):Sp:=EB3 spTko spTkx
def a6s:DTJ a0F:={}
def DrAt.putK{H H':Hp}{p ar as ac ap kp:qE}{d d':Dr}{c:KM}(D:lF)(l:YP kp .dK c)(off:DMQ)(m:d'.names=d.names)(n:d'.rows=d.rows)(s:d'.sides=d.sides)(h1:C00 ac d'.caps)(h2:C00 ap d'.prices):C4E:=by
 obtain⟨⟨dx,tn,t,u⟩,⟨y,w,j⟩,h,A,B,x,k⟩:=D;have kd:AIV HO A3E ((∀c,o≠.dK c)) (HV H'):=λ{b o} f g=>off b o (by rw[List.mem_singleton];intro z;rw[z,l]at f;rw[BUU f f g f.symm]) f;rw[DN ⟨zO tn (kd t RE) (AJ m (kd u RE)),xD y (kd w RE),AJ s (kd h RE),h1,h2,x,k⟩ n];rw[AY j.1 (PP v (CMR (j.2 i v e) (kd q RE)))]
def b7J(FM:cN "take" "Draft.take" a0F iT)(U:YF)(T:AT)(i:TR)(a:EOP)(c:EN1)(e:EN2):EN0:=by
 rw[IH FM.fnJ a6s a0 v]
 .rcases h with⟨p,ar,as,ac,ap,l,Z,d,d',rfl,_⟩|⟨p,ar,as,ac,ap,l,Z,d,rfl,_⟩<;>rfl
 .rw[ANZ]
  rotate_left
  .obtain⟨p,ar,as,ac,ap,l,Z,d,rfl,D,m,hR,k⟩:=h;rw[BL (A1 (DVC
 F23
 B7)
 (A1 (BBB
 EUH
 B7)
 (A1 (BBB
 D8L
 B7)
 ECB)))]
   rw[EI2 t M];rw[F6H]
   rcases hR with⟨O,y,r,rfl,hy⟩|⟨J,h1,I,rfl|rfl⟩
   .rw[eH O BEV];rw[BJ (C2A hy) C1 AP3]
   .rw[wU (G h1)];rw[wU (BBE "sum")];rw[wU (BBE "cap")];rw[BJ (BBE "price") C1 AP3]
   .rw[EFQ]
    delta K8
    rw[BTU];rw[A93 wBad.map j];rw[QY ⟨p,ar,as,ac,ap,u,d,rfl,B6H,A0,J,I,λH2 s2=>k H2 (s1.trans s2)⟩]
  obtain⟨p,ar,as,ac,ap,l,Z,d,d',rfl,S,X,D,m,k⟩:=h;rw[BL (A1 (DVC
 F23
 B7)
 (A1 (BBB
 EUH
 B7)
 (A1 (BBB
 D8L
 B7)
 ECB)))]
  obtain⟨⟨dx,tn,t,M⟩,_,_,R,W,_,cp⟩:=A3F;rw[F6H]
  have pos:∀{n:Str},C4H->AHQ:=λh=>List.length_pos_of_mem h;cases S with
  |@of ns O J h1 I =>
   rw[eH O BEV];rw[eH A6K (D3Q c7B)]
   delta K8
   rw[BTU];rw[A93 ns.map j];exact⟨p,ar,as,ac,ap,u,_,d,rfl,B6H,A0,J,h1,I,BTP N N (A82 AZ0)⟩
  |@sum xs sd J h1 I Y q h5 hs =>
   rw[EFQ]
   delta K8
   refine vY l _ BE0 (A4W u);rw[a5e,List.map_cons,a1T];rw[A93 D2S j];rw[MA ⟨p,ar,as,ac,ap,u,d,_,_,rfl,B6H,A0,J,Y,I,q,X,h5,hs,BTP N N (by rw[nK q];unfold L5;simp only[List.mem_cons];rcases q with rfl|rfl<;>simp)⟩]
  |@cap n x L F B h1 h2 =>
   rw[ENX];rw[eH A6K ERX]
   delta K8
   rw[F83 U.n4 DBV ac A09 A09 e2 (XE g cp.symm BY0)]
  |@price n x L F B h1 h2 =>
   rw[ENX];rw[wU D0M];rw[eH A6K ERX]
   delta K8
   rw[F83 U.n5 DBW ap BY0 BY0 (XE g cp A09) e2]
#where
#where
universe K52
namespace L2
open PySem PySem.Spec PyProof.Rows
section
variable {X:Cx}
noncomputable def c5w(C:qE)(m:Str)(sp:Sp)(ta:TE)(t:TA):TX:=F51 (λv H3=>D.rt v H3)
def c3B{C:qE}{m:Str}{k:Nat}{ps:AB}{sp:Sp}{o e:Expr}{es:BN}{ta:TE}{t:TA}{qN qM pos:Pos}{pl:kU}(O:DS8)(c:lC)(hr:fF)(he:A8O)(ha:EQ)(i:CE5:=by exact vT z z)
  (y:CG:=by rfl) (w:RZ:=by rfl)
  (ht:LQ ALU=(do
   let ov <-eval o X.env
   standAt qN.atName
   let (f,first) <-holding [ov] (getMethod ov m pl)
   callWith qM f first (backTo qM (starEach (e::es) X.env)) (backToKw qM (keywordEach [] X.env))):=by rfl) :
  EYP [D1Q ALU] c5w:=by
 rw[ERY];rw[dJ wpAny_execs_cons wpAny_Return_some];rw[F7R]
 rw[F6F];cases r with
 |error e =>
  rw[F7Z]
 |ok fl =>
  cases fl with
  |ret u =>
   rw[F1S];rw[ID v σ M N rv q3]
  |next=>rw[UQ g]
  |brk=>rw[UQ g]
  |cont=>rw[UQ g]
section
variable {M:Model}{A:Around}{E:qH}
def a5X{nm q s K:Str}{C N D x:qE}{bs bm n b:AI}{hdct i:Bool}{sn u:AB}{sub l:AI}{ab m:Bool}{col j:bB}{dd o:EN}{k0 k1 k2 k3 k5 F G H I J:LS}{qO a:String}
  {h:Heap}{g:eD}{d:Drawn}{t:Nat}{os:OsState}{e:qE}{w:Obj}{Q:YE}
  (y:A0X) (v:UV D (F2L s K x u F G H I J a)) (z:UV e w) (k:AQ6 w.cls)
  (c:DE4) (r:D8T) (B:AVT false):DW5:=by
 rw[EYS]
 rw[CBC]
 rw[EZ6 z v v y]
 exact B
#where
structure ClsN(K:qF)(D C:qE):Prop where
 d:C6W
 ex:F7W D8T
noncomputable def c8f(D C:qE)(tx:TX)(ts tu:TS):TS:=CB1 (λσ1 c H'=>(c=D/\DWG De σ1 BPM)∨(c=C/\∀p,VJ->tu De σ1 (upd H' p BPM)))
def c3F{K:qF}{body:IV}{tx:TX}{ts tu:TS}{G J:Str}{np y nq A pos:Pos}{b0 b1:Stmt}{g i:IV}{D C:qE}(hN:ClsN K D C)(hx:DQI)
  (hg:KU Gl) (hm:wN G D) (V:JK J) (W:wN J C)
  (Z:DWM b0 g) (a1:∀p,JB A2Z (b1::i) tu) (hK:AQ:=by rfl) (t:BBX:=by rfl) (U:AO6:=by rfl) (hd:A2A G:=by decide) (S:A2A J:=by decide) :
  JS X (BTM [.ExceptHandler (AU (.Name G np)) none (b0::g) y,.ExceptHandler (AU (.Name J nq)) none (b1::i) A]) (c8f D C tx ts tu):=by
 rw[B04 hK N];rw[CHT hx.h N]
 .cases f with
  |next=>rw[A7X q]
  |brk=>exact q
  |cont=>exact q
  |ret v=>exact q
 .obtain⟨σ1,H1,s1,p,c,H',B,a0,rfl,I1,hos,hbare,hU,hok,hp,fl,cov,k⟩:=q;rw[AD P CW8 w fl];rw[t]at w;rw[EMU t U w o a2];rw[EBP o d j];rw[<-t]at d;have j:=a2.trans j;have l:lI σ1 H' DEF:=C4D P cov kH j;obtain⟨oe,r,n⟩:=d.there;obtain⟨b2,q',a5,a8,a7,T,b3,a4,a6,a3,a9,j0,j1,j2,j3,j5,M,F,x,_⟩:=hN.d.ex;obtain⟨nm,qq,NN,bs,bm,hdct,sn,sub,ab,col,dd,k0,k1,k2,k3,k5,qO,E,R,Y⟩:=hN.ex;rcases k with⟨rfl,k⟩|⟨rfl,k⟩
  .rw[B0Z l.held hg hm hd];rw[F79 DO7 x Z];cases f with
   |next=>rw[AAL]
   |brk=>rw[AAL]
   |cont=>rw[AAL]
   |ret v=>rw[F6I]
  .rw[B0Z l.held hg hm hd];refine a5X DO8 DO7 r n x Y ?_;rw[B0Z l.held V W S];rw[F79 DO8 R a1];cases f with
   |next=>rw[AAL]
   |brk=>rw[AAL]
   |cont=>rw[AAL]
   |ret v=>rw[F6I]
def c7b{st:Stmt}{t:TS}(h:E37 JS):BIU JS:=⟨APE D hw (EW0 DE5)⟩
#where
section
open PySem.W
variable {A:Around}{C L f fI:qE}{E:qH}{H:Hp}{K:qF}{M:Model}{N ps:AB}{P:qG}{Q:kO}{X:Cx}{base h:Heap}{cd:qB}{dd:EN}{e:Expr}{es:BN}{k:Nat}{mg:AZ}{n qual x:Str}{o:Obj}{outer:HB}{qK:DA}{pos:Pos}{s:qC}{scope:Scope}{sp:Sp}{t:TA}{tk:Tok}{vs:DB}{w:World}{σ:St}
section
variable {prog:qG}{g:eD}{d:Drawn}{t:Nat}{os:OsState}
variable {nm q:Str}{N:qE}{bs bm bmB:AI}{hdct:Bool}{sn:AB}{sub:AI}{ab:Bool}{col:bB}{k0 k1 k2 k3 k5:LS}{B Bn qO nid initId inN:String}{bmN:AI}
noncomputable abbrev c2d(C:qE)(n:Nat):Obj:=(BKQ EA (CTN (AK n)))
def c3d(X:TN)(j:BCM)(f:B9Y)(F:BCL)(T:ENL){rest:AI}{Q:rY}
  (i:A0X) (hi:E6B) (v:EEV)
  (y:F2J (DM FW A EJJ (BFY s' (E1Z AET s')) E (B3H t))) (c:D6C) :
  yW (Builtin.«type.__call__» (JJ DCS)):=by
 repeat (first|rw[D59 wpAny_loadPart_at]|rw[D59 wpAny_madeBy_exc]|wp_step)
 refine codeAny_call_builtin_code (Code.quiet_builtin _ j.quiet) (wpAny_check_new_subU j f T i (codeAny_exc_new_subU j f F T i ?_ c));rw[LW _];have m:∀{b:qE}{o:Obj},QD->HV EPJ:=λe=>AEY;have k:=m i;have n:K.In ((h.push CWD).push BS8):=X.keeps λb o e=>m e;have a:BW EPJ AET BS8:=DKM (by simp only[Heap.size_push]);have l:AYJ C=true:=by simp
 have p:=CKS n hi;rw[BUH]
 repeat (first|rw[zJ a] | rw[A5Y k l]|wp_step)
 rw[LW (typeLookup EA _)];rw[GM p.at];rw[dJ wpAny_holding wpAny_bind];unfold bindSpecial;rw[KA (looks_typeIn n (beq_iff_eq.mp v)).at];rw[xO];refine wpAny_pure (wpAny_bind (eS (y _ ⟨λb o u=>m u,BKU Heap.get?_none_of_le,h.objs.size,a,DAU,KP (DKM rfl)⟩) (FH r s' z)));obtain⟨rfl,s⟩:=z
 wp_walk
 exact s
def c3e(X:TN)(e:BCM)(c:B9Y)(F:BCL)(T:ENL){rest:AI}{Q:qH}
  (b:A0X) (hi:E6B) (f:EEV)
  (j:F2J (DM FW (CEG (JJ DCS)) EJJ (BFY s' (cS CUB)) E (B3H t))) (a:D6C) :
  yW (call EA rest):=by
 rw[AD k tc_lookup l (II tc_bind C)];have m:(A2K:qC).TypeIs EA "type":=FZ b;rw[BMS (callAny EA _)]
 rw[AQ4 (by first|assumption|rw[zJ b]|wp_step)]
 rw[DU rfl (codeAny_call_builtin_at AWT entry_typeCall (wpAny_check_type_call_sub b (c3d X e c F T b hi f (λh' i=>j h' i) a)))]
#where
section
open Builtin Builtin.ObjectAttr
variable {prog:qG}{g:eD}{d:Drawn}{t:Nat}{os:OsState}
variable {nm q:Str}{N x:qE}{bs bmB:AI}{sn:AB}{sub:AI}{ab:Bool}{col:bB}{k0 k1 k2 k3 k5:LS}{B qO sa owner:String}{name:Str}{v:qB}
def b6b{a:qB}(c:CH1)(j:CBE)(l:AL1)(k:SZ)
  (i:DKQ):AR6 M (BUW sa CFL):=by
 have e:tZ (ARR C CQQ) owner=true:=by rw[List.contains_cons,List.contains_cons,c.hasOwner,Bool.or_true,Bool.or_true]
 have f:=c.args WR a v;rw[E05 c.kind c.split];rw[BUH]
 repeat (first | rw[eO l k] | rw[A5Y j e]|wp_step)
 cases b:Manifest.signature? sa with
 |none=>rw[NW i]
 |some sig =>
  simp only[argsOk,b]at f;show DM M A (C9S sa CFL) Q E _;rw[pQ (show A8Q (C9S sa CFL)from f) i]
def b6a{Q:rY}(X:TN)(I:CH1)(P:CBE)
  (p:B6P) (D:AL1) (S:SZ) (m:B38)(c:A0Y)
  (U:EXB F (Q CXW (B3H F))) :
  yW (Builtin.«object.__setattr__» (JJ [WR,C5L,v])):=by
 rw[AD H (A1F p) a (II I.passes x)];unfold Builtin.«object.__setattr__»
 repeat (first|rw[refuse_eq] | (rw[refuseLoop_ref,refuseLoop_ref,a]) | rw[eO D S]|with_reducible rw[JZ wpAny_mroOf_exc P]|rw[ADL H.at]|wp_step)
 rw[m,MV (by simp[typeHasDict])];split
 .rename_i z;cases z
 split
 .rename_i z;rw[iX c]
 have i:W0 (ASR h.push oA) x:=KP D;have j:x≠h.objs.size:=CJN Heap.lt_size D;rw[wJ wpAny_alloc' (AC8 wpAny_update' i)];have n:BW (AVR EZV) h.objs.size oA :=
  A7V (AKL j.symm) (Heap.get?_push_at rfl rfl)
 have r:(EZV).Ns h.objs.size AKQ :=
  ⟨_,#[],_,n,rfl,wT e T T,B3D⟩
 rw[LW (storeInDict h.objs.size C5L name v)];unfold storeInDict newKeyGuard;rw[wJ wpAny_pure (wpAny_nsSet1 (Heap.Ns1.of_empty r) λh' f G=>?_)];obtain⟨V,O,J,s,l,k⟩:=f.count (Within.cons name v Within.nil);rw[gX wpAny_lookBehind s (HG l pastItsLine_dict (Nat.le_trans k (by rw[List.length_cons,List.length_nil,sizeLine_eq];omega)))]
 wp_walk
 refine U h' _ (VG G.2 x j (ARD i ?_)) f (TC R e (VG G.2 b AIK (A7V (AKL R) UR)));exact Obj.isFreed_of_fields (vs:=vs) c
def c1t(X:TN)(c:CH1)(l:CBE)
  (hsa:DIJ sa) (j:B6P) (k:AL1) (e:SZ) (f:B38)(i:A0Y)
  (p:EXB a (Q () (B3H a))) :
  yW (setAttr WR name v):=by
 rw[AD r (II c.slot.bind x) m (A1F hsa)];unfold setAttr callSpecial? specialOf
 rw[CES (by rw[eO k e]) m.at]
 rw[BVZ c.slot.plain c.entry (b6b c l k e (b6a X c l j k e f i (DP h' a e1 e2 n)))]
 rw[ON]
 exact p h' a e1 e2 n
def b6c{bm:AI}{Q:rY}(X:TN)(j:E6K)(c:B6P)(f:AL1)(e:SZ)
  {dx:qE}(b:E0N)(a:A0Y) {mA:AZ}(k:AOZ) (m:CC8) (l:AVT (BJ3 v)) :
  E8C WR C5L:=by
 have i:=A1F c
 rw[CES (by rw[eO f e]) i.at]
 split
 .rename_i z;rw[iX a]
 unfold instanceDict
 repeat (first | rw[eO f e]|rw[zJ j]|wp_step)
 rw[b]
 repeat (first | rw[BDQ wpAny_nsGet k.ns m]|wp_step)
 exact l
def c1u{bm:AI}{a:Bool}{Q:qH}(X:TN)(n:E6K)(r:yR)
  (f:BAE) (i:B6Q) (j:B6P) (k:AL1) (b:SZ)
  {dx:qE}(e:E0N)(c:A0Y) {mA:AZ}(u:AOZ) (z:CC8) (s:EK handedIn v) (y:Q v DCR) :
  yW EJB:=by
 rw[AD p (A1F f) L2 (A1F i)];rw[AD m PySem.F.attrBase_ValueError D (II m.ga.bind x)];rw[EM4 l]
 rw[F0J B l]
 unfold getAttr getAttrBy
 rw[EUE (by rw[eO k b]) p.at]
 rw[show HX ((a && onTheHeap (Value.builtin "BaseException.__getattribute__"))) from Bool.and_false _,XR];unfold boundAndCalled
 rw[ON]
 rw[BVZ m.ga.plain F.entry_bexc_ga (a8V n r k b (b6c X n j k b e c u z ?_))];exact handed_on s y
#where
noncomputable abbrev bmV:AI:=BK5
noncomputable def xI(a C:qE)(dd:EN):HO:=ENZ t0 QI (C1J BNF)
def b6e{a b:qE}(e:QI)(e1:SZ)(e2:BRL)(c:C1J FT):AFK (xI a C dd) :=
 ⟨⟨o,b,e,e1,e2,c⟩,AM3,λg1 f (rM b q1 d) k=>rM b DLB d⟩
structure MkX(K:qF)(C L f:qE):Prop where
 cls:∃nm q N bs sn sub ab col dd k0 k1 k2 k3 k5,A3D C (ABU q DKG true "ValueError.__new__")
 tail:gQ tailIn bmV DKG
 init:BML "__init__"
 kp:U3 keepIn EA
 sa:DIJ "object.__setattr__"
 lx:BQ5 C L
 ga:BAE
 gr:B6Q
section
variable {CX:CXT}{fd:FuncData}{E:XK}
def b4u{Q:BNU}{us:AI}{vs:AA}(M:CCV)(F:tG)(y:A12)(w:CL2 [])(A:sZ)(I:AN)(r:A0C)(hl:CC us.length)
  (h:∀x,BWE->D0W BZF DP8 x):UO DWC (λu s'=>∃x H',LR u x/\B11 x/\kZ/\GL x):=by
 rw[APK q N];have m:=h GO C6C;have n:BNY C10 ANB:=B0C;have j:ZN ANB []=ps.length:=by
  have e:=n.length;rw[AHP m]at e;rw[AE List.append_nil e.symm]
 rw[ALY b];refine c3e I.kIn PySem.F.excBase_ValueError rfl PySem.F.excBase_ValueError EI4 C37 M.init.at_ M.init.fn (AS h' l) hl;obtain⟨G,z,_,_⟩:=l.there;have i:F5W (SF AVS (xI AVS C none)) h':=I.laid l.keeps AJH (BQ8 b6e z);rw[QV c (w _ C3K i.kIn j) List.append_nil c];rw[A5L (wW (CCW (JJ C3K) C3K _ _ E (B8B y.make) (B8B i.env0.make) c n m) a)];cases r with
 |error e=>exact A qK σ _ _ e s' i a
 |ok fl =>
  cases fl with
  |ret u =>
   obtain⟨v,H',o,D,p,B⟩:=i.after a;subst p;rw[AY D ⟨AVS,H',rfl,AJH,o,B⟩]
  |next=>rw[YI]
  |brk=>rw[YI]
  |cont=>rw[YI]
#where
inductive tSupI(K:qF)(Q:VK)(vs:AA)(H1:Hp):Prop
 |mk (a C L f y:_) (_:wO A8Z) (_:AUO A7H) (_:AXI f) (_:B1W (EMN a a)):tSupI K Q vs H1
noncomputable def c8h(K:qF)(t:TA):TE:=AYV t (tSupI K Q)
section
variable {a:qE}
def c5D{y:Str}{Q:qH}(I:AN)(M:CCV)(j:DDG)(n:∀s',DOG A7H->cS .none) :
  UO (A4C "ValueError.__init__" [AV,AXA y]) Q:=by
 rw[APK q N];rw[BBQ v c i (AEM A7H j)];have F:=PySem.F.excBase_ValueError;rw[ALY m];rw[BRO p r o];dsimp only at e1 e2 i c;subst e1 e2 i;rw[A5L (codeAny_call_builtin F.init.plain F.initEntry (wpAny_check_init_subU F EI4 C37 c rfl ?_))]
 wp_walk
 refine n _ ?_;have k:=E1Y m (cU #[AXA y]) c;refine ANY a a (AJ j True.intro) HK (A92 l z) (ES (B5Y k)) (BQ8 b6e (B5Y k));exact rF (Ne.symm l) BWN
def c6d{pl:kU}{p qN:Pos}(m:MM)(n:DN7)(o:readsIn X.K L (.type "type")=true)(l:CSS (findCls X.K iM BKK "__init__"))
  (r:specialIn X.K iM "__getattribute__"=some (WE "type.__getattribute__")) (k:fS) (hd:GH:=by decide)
  (c:CG:=by rfl) (b:GG:=by rfl)
  (w:LQ DBR=(do
   let ov <-eval (.Name x p) X.env
   standAt qN.atName
   let (f,first) <-holding [ov] (getMethod ov "__init__" pl)
   callWith pos f first (backTo pos (starEach (e::es) X.env)) (backToKw pos (keywordEach [] X.env))):=by rfl) :
  DY (tX BTI) (c8h X.K t):=by
 rw[CBX (L3 I m n ?_ hd) w];refine method_cls I.kIn r (cls_value I.kIn o l BK ?_);refine PyProof.Rows.callWith_builtin1 (GU (k pos qK _ σ H _ UA h) F s1 D) c b;obtain⟨vs,H1,d,z,a,C,L,f,y,j,i,M,q⟩:=D;subst j;obtain⟨u,v,rfl,A,B⟩:=z.two;cases A;rw[IG tk B];exact c5D d M i λE g=>CZU g
inductive sXfI(K:qF)(f:Str)(D:Ends)(σ:St)(y:V)(x:V)(H2:Hp):Prop
 |mk (a C L g:_) (_:IE) (_:OX H2 A7H) (_:AXI g) (_:ASL f) (_:∀dx,FV H2 dx->C7J->mR (AK7 (W1 H2 dx .xd [(f,y)]) EUG)):EZK sXfI
noncomputable def sXf(K:qF)(ta tv:TE)(f:Str):TS:=EXL sXfI
def c1M{y:V}{u:qB}(I:AN)(M:CCV)(F:findIn X.K EA n=some none)(k:DDG)(J:LJ)
  (G:∀dx s',BWF->C7J->IW (AK7 (cR dx .xd C6H) EUG) s'->BJ4):UO (setAttr AV n u) Q:=by
 rw[APK q N];rw[BBQ S D r (AEM A7H k)];rw[ALY c];refine c1t I.kIn PySem.F.store_ValueError C37 M.sa F D e1 e2 r (DP h' K v O P);have i:EJ c.objs.size:=WZ;have j:c.objs.size≠a:=λz=>by rw[<-z,i]at k;cases k
 rw[eT (G c.objs.size _ i j ?_) od es ep w R (id O)];have p:=(Heap.get?_some_iff.mp w).2;have A:AH9 c.push od c.objs.size od:=Heap.get?_push_at rfl p;have B:F5W (cR c.objs.size .xd C6H) (c.push od):=I.laid (λb u z=>BWN) BO (DX (CE8 A R) (λm=>by
  rw[CS l m n]
  .subst l;rw[EHH [(m,y)] (dS m m AJK none) FU (show gK m m from AL) J]
  .rw[EHH C6H (B7N (m=n) u) (BA l) (show AAU m n from BM l) True.intro]))
 refine BF B.write x a e a (KG (C4I j) k True.intro) HK (A92 E z) (ES v) (b6e v e1 rfl r);rw[VT h c.objs.size]
 .subst h;rw[iX A];exact w
 .rw[FF (Heap.get?_push_ne c b od h) z (P b u E z)]
def c8y{o value:Expr}{pos':Pos}{ta tv:TE}(f:B54)(k:C7Y)(j:DLR):AI8 PS BQ3 (sXf X.K ta tv n):=by
 rw[F4P r f l v t];obtain⟨x,H2,c,p,a,C,L,g,ex,e,M,i,m⟩:=t;rw[ABV ex (l=Value.ref a) p];exact c1M c M i e r λdx w h1 h2 d=>dY _ d (m dx h1 h2)
#where
noncomputable def KD(h h':Heap):Prop:=∀b o,QD->∃o',E2Y/\o'.dict=o.dict
def KD.trans{h1 h2 a:Heap}(x:AGJ KD)(y:KD h2 a):KD h1 a:=GW o (by
 obtain⟨f,e1,c⟩:=NE x;rw[MB g e2 d (y b f e1) g e2 (d.trans c)])
def KD.slots{S:EG}{h':Heap}(x:Heap.SlotsOnly S h h'):E80:=GW o (let ⟨sl,q⟩:=NE x.2.2;FZ q)
def KD.push:KD h (h.push o):=GW o (BZ4 UR)
def b5y(f:C93):∀o:Obj,(Obj.mapFields f o).dict=o.dict
 |⟨c,d,dt,s⟩=>D4Q dt
def KD.fields{b:qE}(f:C93)(e:QD)(hd:A0Y):KD h (h.update b (Obj.mapFields f)):=λc u q=>by
 rw[CS a c b]
 .subst a;rw[SO q q];exact DX (AAF e hd) (BX b5y)
 .rw[AX u (rF (Ne.symm a) q) rfl]
section
variable {env:Env}{e:qE}{cls a0:qB}
def c0O{v:Obj}{f:qB}{d:Bool}(p:B8U)(hl:DVV)(F:B87)(m:vB e v)(r:C7A)(n:C9X)(hd:AQU v.data vs)(hsz:1<vs.size)(h0:E84) :
  DM M A ((do let a <-frameOf env;let pl <-entryPlaceOf L d;let b <-EntryCells.newEntry f a .none (rawInt L) .none pl;setField (.ref e) 1 b)) (λ_ s'=>∃h',s'=UI/\Heap.NotedW base A47 e v.cls a0 (rawInt L) s.heap h'/\CM7) E s:=by
 rw[BI (wpAny_frameOf_fun p hl F λh1 g=>AH0 (wpAny_entryPlaceOf λpl k=>?_))];unfold EntryCells.newEntry newFields;rw[BI (wpAny_newObj_type ?_ (UL k.sizeOk5))];have u:e∉(A47).filterMap (·.frame):=λt=>by
  obtain⟨_,o,w,j⟩:=hl.mem t;rw[AW m w w];exact j vs hd
 have e1:=VG g.2.1 e u m;have y:base.StaysIn h1:=UY o (mC (g.2.1 b λt=>by rw[A32 (hl.mem t).1]) (A9O r));rw[AD sl g.2.2 k0 (KD.slots g)];rw[jV C F2M[3]? (BV rawInt L)]
 generalize F2M=l at C⊢;have td:AQU (Obj.data EZF) l:=rfl;generalize (EZF:Obj)=T at td⊢;clear g k;have e2:=E1Y h1 T e1;have i:h1.objs.size≠e:=BUZ Nat.ne_of_gt e1;have D:=D5Q Heap.get?_push_size h1 (o:=T) td;have kp:uB AHL CUP DNS:=JL q z (rF (Ne.symm q) BWN);have B:tU LA (D2C) (D19 DNS):=JL q j (by
  rw[HN x z (A9O sl) x (C3S (λc=>by rw[A9V m];exact j vs hd))])
 exact wpAny_setField e2 hd hsz (SI ⟨UY o (kp b o (λc=>by rw[A9V n]) (A9O y)),(DSC j (let ⟨x,z⟩:=B b o q j;FZ z)),
  ⟨_,_,h1.objs.size,T,l,AAF e2 hd,⟨BX Obj.cls_mapFields,IP Array.getElem?_setIfInBounds_ne AG h0⟩,BYM hd,Array.getElem?_setIfInBounds_self_of_lt hsz,y.fresh,i,rF (Ne.symm i) D,td,C⟩,B⟩ (k0.trans (KD.push.trans (KD.fields _ e2 hd))))
def b9S(m:B8U)(u:B87)(l:EA5)
  (y:B0T (Heap.HeldW base A47 e cls a0 L h')):OT M (vE noteFrame env):=by
 obtain⟨n,h,C,K,vs,T,J,D,t,⟨g,w⟩,hd,h1,p,j,i,d,r⟩:=l;subst g;rw[DSN u];rw[A4X wpAny_field t hd h1];rw[EP5];rw[A4X wpAny_field i d r];rw[BA (show ¬(gK Value.none CWB)from IN rawInt)];rw[C2P i d (yI r)];have kd:=KD.fields (·.setIfInBounds 3 Value.none) i d;rw[EXJ B (Ne.symm B)];generalize EAL=h2 at kd a⊢;have v:EJX:=JL q f (BBV (by rw[A9V i];exact f D d) q);refine eS (c0O (s:=CPD) m (C.of_keeps (JL q f (BZ4 EAW))) u (mC (E8O j) t) (UY o (BBV (by rw[A9V p]) (A9O n))) h hd DJ6 w) (FH _ s' z);obtain⟨h',rfl,⟨F,G,H,I⟩,k⟩:=z;exact y h' ⟨F,h,G,H⟩ (JL q f (I b o EAW f)) (kd.trans k)
def a8B{l:HB}{fl:qB}(m:C7A)(k:C9X)(hl:DH8 base)(x:s.heap.TracedAtW base e cls a0 fl)(v:EBK):EFF:=by
 obtain⟨y,vs,T,B,z,r,g,hd,h1,i,f,j,d,u⟩:=x;rw[iZ setFlight (ECH r)];rw[EP5];have p:=yI u;refine wpAny_setField j d p ?_;rw[AD kd (KD.fields (·.setIfInBounds 3 Value.none) j d) n (D5Q Heap.get?_update_self ((Obj.mapFields (·.setIfInBounds 3 Value.none))) j (BYM d))];rw[EXJ w (Ne.symm w)];show Q () (KQ (BKF T ((Obj.mapFields (·.setIfInBounds 3 Value.none)))));generalize EAL=h2 at kd n a⊢;have t:EJX:=JL q h (BBV (by rw[A9V j];exact h z d) q);exact v h2 ⟨UY o (BBV (by rw[A9V i]) (A9O m)),k,(DSC h (BZ4 EAX)),y,vs,T,_,_,A7V (E8O f) r,g,hd,h1,i,f,n,BYM d,Array.getElem?_setIfInBounds_self_of_lt p⟩ (JL q h (AVO EAX)) kd
def c7M{l:HB}(a:AXB l s.heap)(b:EBK):EFF :=
 a8B QZ BNX CW6 (CWX).at b
def c3w(c:B8U)(i:B87)(b:EA5)
  (h:B0T (AXB outer h')):EKR:=by
 rw[iZ leaving (b9S c i b λh1 a f k1=>EXM (KQ h1) (DD h2 d g k2))];obtain⟨j,k,⟨_,_,l⟩,m⟩:=d;exact h h2 ⟨j,k,l,m⟩ (f.trans g) (k1.trans k2)
def b9V{d:Obj}(b:B8U)(g:B87)(hl:DVV)(f:vB e d)(c:C7A)(a:C9X)(hd:AQU d.data vs)
  (h1:yE 1 .none) (h0:E84) (j:B0T (CLK outer d.cls h')):EKR:=by
 unfold leaving;rw[DSN g];rw[BFR (ECH f)];rw[A0E];refine eS (c0O b hl g f c a hd DJ6 h0) (A52 _ z);obtain⟨h',rfl,⟨k,l,m,n⟩,k1⟩:=z;rw[EF (a8B (s:=UI) k a l m) h2 h i k2];obtain⟨o,p,⟨_,_,q⟩,r⟩:=h;exact j h2 (rM p q r) (Heap.UpToSlots.trans n i) (k1.trans k2)
#where
inductive DictAt(h:Heap)(p:qE)(dd:EN):Prop
 |mk (o:_) (_:BYX) (_:BRL):AIF h
def DictAt.kd{h':Heap}{p:qE}(x:AIF h)(k:E80):AIF h':=by
 rw[aM o d x];rw[MB o' e' a (k p o e) o' e' (a.trans d)]
noncomputable def CXN(P:qG)(w:World):CXT:=λouter H s E e s' =>
 ∃(p C:qE) (H':Hp) (B:Heap) (a0:qB) (dd:EN),EU7 (C6M /\
  VJ/\EAC/\DQ3/\DLU/\E EA dd H')
noncomputable def rem(H:Hp)(x:qE):Hp:=ENH x none
def a2N{x:qE}:KY (rem H x x):=FU
def W4{x b:qE}(h:AHK):rem H x b=H b:=bC
def c8D{d:qC}{u:Hp}{E:XK} :
  Y2 A8H (AQL outer d u E) E:=by
 rw[F2P];obtain⟨p,C,H',B,a0,dd,rfl,s,v,L,n,M,c,i,F,q⟩:=h;rw[F4L L];rw[EF (ESX c3w) h' y Q R];have r:yL oG A4B:=λb a=>by
  rw[ERA]
 have m:CE2:=B9T J (by
  rw[BC5 x J]
  rw[B9R x]
  rw[BC9 x])
 have j:BPY d.heap:=λb o G O a=>by
  rw[EUL G O]
  .rw[B58 a a a]
   .exact a g.free
   rw[B9Q a]
  .rw[AER a a a]
   rw[GE a]
   rw[ETY]
 rw[F6U Q ⟨p,C,H',B,a0,dd,rfl,g.os,v,D,t,M,y,k,F.kd R,q⟩]
def b6S{env:Env}{x:AWF}{Q:KR Flow}(k:OG)
  (h:DM M A x (λv s1=>∃e o C nm q N bs bm hdct sn sub ab col dd k0 k1 k2 k3 k5 qO,uR e/\BW s1.heap.get? C BFG/\yR/\W0 s1.heap.get? e/\SZ/\(∃t,C1J IQ)/\vE E s1) E s) :
  OT M (raiseStmt env WM none):=by
 rw[iZ raiseStmt (eS h (A52 v h1))];obtain⟨e,o,C,nm,q,N,bs,bm,hdct,sn,sub,ab,col,dd,k0,k1,k2,k3,k5,qO,rfl,b,i,j,c,⟨p,hd⟩,f⟩:=h1;have a:C0C:=by rw[B03 i]
 rw[uK n g tk os s1];rw[BRO l m o];dsimp only at c hd;subst c hd
 repeat (first|rw[zJ j]|rw[zJ b] | rw[A5Y b a]|wp_step)
 exact wpAny_raiseNew_none k f
noncomputable def b2S(C:qE)(sp:Sp)(E:XK)(t:TA):TS:=EF6 (∀x,B4P->sp BZF (EMN x x) (BMF D33) E0)
def b4A{d:qC}{G:Hp}{E:XK}{np qM:Pos}(M:C5O) (O:CDQ) (hm:yY)
  (hr:ADF (B97).A)
  (hg:A8X B97) (ha:PA B97 MQ t) (hd:GH:=by decide)
  (he:AVE B3L B3L B3L:=by rfl)
  (a3:CTM B3L:=by rfl) :
  EYJ PS B97:=by
 rw[dD];obtain⟨f',fd,m,b,F⟩:=O.ex;obtain rfl:f'=fI:=by
  have z:=m.at_.symm.trans M.init.at_;cases z;rfl
 rw[APK q NC];rw[arm_exec_Raise];rw[OR wpAny_standAt (b6S (I.ok.hd rfl) ?_)];rw[BI (EP6 (wpAny_Call_Name_kw (L3 I hg hm ?_ hd)) v wpAny_standAt)];rw[BRU (h₀:=base) M.kp (UN DUW (λus s1 (EDL X)=>GZ X.kIn) _ _ z z) he a3];refine UN (BF b4u C C L L (f:=f') (E:=E0) (Q:=λx H2=>D33) M F hr b a6U X r (by show us.length<=_;rw[EX r.length hl]) q) (FH v B ⟨p,H2,ev,a4,g,R,ex,W⟩) _ _ z z;subst ev;have h0:∀o,d.heap.get? p≠AHE:=λo z=>BNG (iE z (A5K X.sz a4));rw[BBQ t0 Z e3 (A2O (AOL H2 B.heap p (xI p C R)) (g.hok p _ ex))];refine⟨p,o,C,nm,_,NC,bs,_,true,sn,sub,ab,col,dd,k0,k1,k2,k3,k5,_,rfl,AEU g.kIn,rfl,Z,e1,⟨t0,e3⟩,?_⟩;have a1:ES3 (AQD d.heap.objs.size) CQ4:=λenv he b c=>JC (BZL env he c);rw[EF (BF b9V base D1M a0 BNF g.ok.frames rfl (D5B g.stack a1) Z E8W (hideAll_none _ BOO) e3 rfl rfl) h2 x1 x4 x5];rw[e1]at x1;have i:ACW ((∀o,u≠.ext o)) DBZ ZS:=λb u hu z w=>by
  rw[w,ex]at z;cases z;exact hu _ rfl
 have a7:p∉A4B:=λc=>by
  rw[AW (g.stkFree p c) ex ex]
 have U:yL oG A4B:=λb c=>by
  rw[BJN h1 h2 c];rw[BTK]
 have S:CE2:=B9T h3 (by
  rw[BC5 W h3]
  rw[B9R W]
  rw[BC9 W])
 have T:∀b,rem H2 p b≠none->ZS/\H2 b≠none:=λb z=>by
  rw[VT c p]
  .subst c;rw[HI a2N z]
  .rw[W4 c]at z;rw[AY c z]
 have Y:Cov outer AIG d.heap B.heap D1M:=λb o eb nb c=>by
  have j:ZS:=by
   rw[AER c c c]
   .exact(T b c).1
   .rw[PJ];exact h0 o' c
  refine hideAll_get _ eb λz=>?_;rw[B6L]
  .exact j z
  .refine S b nb AJT z;rw[B58 c c c]
   .exact(T _ c).2 g.free
   rw[B9Q c]
 have a2:AB9 AIG B.heap:=λa u V=>by
  have ha:a≠p:=by rw[PJ];rw[AW a2N V V]
  rw[W4 ha]at V;refine(g.hok a u V).stay (RK _ z z) DEB λb xs z=>?_
  .rw[AE AOW z]
  .rw[AE AOW z]
 have a5:Un oG [] G AIG d.heap B.heap:=by
  have y:=g.base;refine⟨y.keep,y.slot,DP b u z n hx,y.there,C4Q xs,A92 v z,C4Q ps⟩
  .rw[AE (W4 (by rw[PJ];exact h0 u z)) (y.free b u z n hx)]
  .have z:=y.tups b xs z;rw[AE AOW z]
  .have z:=y.frzs b u v z;rw[AE AOW z]
  .rw[HN more z (y.tbls b ps z) more (AJ AOW z)]
 obtain⟨U2,a6,J⟩:=BTX G AIG d.heap B.heap h2 a5 a2 Y x1.1 x4 g.funs λb c=>by
  rw[VT j p]
  .subst j;exact a2N
  .rw[AE (W4 j) (g.stkFree b (U b c))]
 exact⟨p,C,AIG,_,BNF,R,rfl,g.os,g.bare,U2,a6,a2N,x1,J,DictAt.kd (PK Z e2) x5,W⟩
structure OkN(P:qG)(w:World)(K:qF)(mg:AZ)(base:Heap)(x:Str)(k:Nat)(ps:AB)(sp:Sp):Prop where
 ex:CD2 A8H
def FunAt.okN{st:Stmt}(F:AAJ)(S:lG)(len:bM)
  (b:A1U x (WP ->
   DQG A8H)):EOI BZ:=by
 rw[F0M]
def b3E{b:qC}{a:Hp}{E:XK}{p:Pos}(O:EOI k) (m:A2C (AF6).A) (l:A8X AF6)
  (i:AZR AF6) (c:GH:=by decide)
  (j:AVE B59 B59 B59:=by rfl)
  (d:CX7 B59:=by rfl) :
  JE AF6 DBQ DRD:=by
 rw[F6Z c8D]
def b5h{a:qC}{b:Hp}{E:XK}{np qM:Pos}(M:C5O) (O:CDQ) (i:yY)
  (j:ADF (B81).A)
  (h:A8X B81) (d:AZR B81) (hd:GH:=by decide)
  (g:CFE:=by rfl)
  (c:C90:=by rfl) :
  EYJ JS B81:=⟨b4A M O i j h d.h hd g c⟩
noncomputable def xR(p C:qE)(dd:EN):HO:=ENZ vs BYX A0Y
inductive XPN(X:Cx)(qK:DA)(R:CD8)(e:qB)(s':qC):Prop
 |mk (σ1:St) (H1:Hp) (s1:qC) (p C:qE) (H':Hp) (B:Heap) (a0:qB) (dd:EN) (_:BQP) (_:E9I) (_:AMC) (_:jM) (_:AOV) (_:A13) (_:VJ) (_:DQX) (_:AOS) (_:DLU) (_:R σ1 C dd H'):E8S XPN
noncomputable abbrev TXN:=Ends->(CD8)->QT
structure JXN(X:Cx)(sts:IV)(t:TXN):Prop where
 h:F1K CD8 XPN
section
variable {H1 H':Hp}{s1 s':qC}{p:qE}{B:Heap}{a0:qB}{h2:Heap}
def Inv.landN(j:B9O)(v:AMC)(K:jM)(D:AOV)(t:A13)(hp:VJ)(I:CD5)(l:AOS)(d:DQW)(O:C11)(H:AIF h2) :
  IW APF (cZ h2):=by
 have J:B42 jF:=λb i=>by
  rw[ERQ s D.free s]
 obtain⟨f,y,g⟩:=X6 D t l kH O I J;obtain⟨x,vs,_,_,_,c,m,h,_⟩:=(pI d);have w:p∉nG:=λi=>by
  obtain⟨_,o,s,M⟩:=(ZX d).mem i;rw[AW s c c];exact M vs h
 rw[EH1 r (by
  rw[AJI (g p x c w (.inr AM3)) d.2.1])]
 have G:BIE APF h2:=by
  refine⟨f.keep,f.slot,BB6 n L,f.there,C43,C3R,B7R⟩
  rw[ETB r f.free L]
  rw[BAD (BXJ f.tups)]
  rw[BAD (gP f.frzs u)]
  rw[EZI f.tbls]
 have A:ACO APF h2:=λa o e=>by
  rw[CS E a p]
  .rw[B1D E];obtain⟨R,F,P⟩:=H;rw[AW c F F];rw[AX ⟨x,vs,c,m.1,P,h⟩ ⟨x,c⟩ (λg1 Q (rM vs q1 N) k=>rM vs DLB N)]
  .rw[EY0 E y]
   rw[B8A]
   rw[B8A]
 rw[EGI v A K]
#where
noncomputable def c8e(K:qF)(D:qE)(j:Nat)(tx:TXN)(ts:TS):TS:=CB1 (λσ1 C dd H'=>AYZ (WI D)/\∀p,VJ->ts F2H E3J APF)
def c3E(K:qF){body:IV}{tx:TXN}{ts:TS}{o:Str}{np m:Pos}{T:Stmt}{b:IV}{j:Nat}{D:qE}(hx:BQK JXN)(hg:JK o)(hm:DPX)(hD:C6W)(Y:X.N.Nodup)(Z:C6G)
  (E:BB5) (G:DWM T b) (hK:AQ:=by rfl) (g:BBX:=by rfl) (A:AO6:=by rfl) (hd:A2A o:=by decide) :
  EXI (EY8 (T::b)) c8e:=by
 rw[B04 hK De];rw[CHT hx.h De]
 .cases f with
  |next=>rw[A7X q]
  |brk=>exact q
  |cont=>exact q
  |ret v=>exact q
 .obtain⟨σ1,H1,s1,p,C,H',B,a0,dd,rfl,I1,hos,hbare,hU,hok,hp,fl,cov,da,hC,k⟩:=q;rw[EWM V];rw[EF (D1R b9S g A l) h4 a R M];rw[EF (EXM (cZ h4)) W c d N];rw[EWZ c d R.trans d (cZ W) (C4D V cov c.1 d) c.there];rw[F7X a7 P];obtain⟨a8,q',a2,a5,a4,y,a9,a1,a3,U,a6,j0,j1,j2,j3,j5,r,Q,w,_⟩:=hD.ex;rw[F48 P Q];rw[GM codeAny_handlers_suite_as];rw[EF (c7M (s:=cZ W) c) h6 u S O];have I6:BQO APF h6:=BID I1.landN hp V cov u (d.trans S) (da.kd (kJ M.trans N O));refine EKC (a2I I6 Y Z D7L) I7;rw[BT1 ((G p).h qK s7 _ _ _ (I7.held p) BRV) i];cases f with
  |next =>
   rw[EZS I8 (a6Y (I8.unheld I.ok) Y Z E)]
  |brk=>rw[BC2]
  |cont=>rw[BC2]
  |ret v=>rw[ESK]
section
variable {te:TE}{p:Pos}{f:Str}
inductive rIsN(K:qF)(xs:AA)(H:Hp)(Q:VK):Prop
 |mk (p C:qE) (dd:EN) (vc:V) (b:Bool) (_:E78) (_:EKG C) (_:B3U) (_:F58) (_:C1I):bL rIsN
def c1e(K:qF)(j:AQ:=by rfl):C3N rIsN:=by
 rw[EAJ];obtain⟨p,C,dd,B,b,rfl,l,Z,k,q⟩:=h;rw[F3P (B9J o h1 h2 E2E DL6)]
 rw[F7I]
 rw[BCX]
 rw[BCX]
 rw[F7L]
def J2(K:qF)(f:BXL)(g:BYR)(c:EQ)(b:AQ:=by rfl)(d:CG:=by rfl)(a:GG:=by rfl) :
  C3O rIsN:=(C70 c1e)
inductive tXgI(K:qF)(f:Str)(Q:VK)(x:V)(H1:Hp):Prop
 |mk (a C L g dx fs v:_) (_:IE) (_:AUO ELS) (_:H1 dx=BV .xd fs) (_:AXI g) (_:ASL f) (_:CC9) (_:DJ2):EOJ tXgI
noncomputable def tXg(K:qF)(ta:TE)(f:Str):TE:=DW3 tXgI
def c5c(K:qF)(r:YL)(n:AQ:=by rfl)(p:CFV:=by rfl):EP1 tXg te:=by
 rw[B04 n Q];refine b3Y p (A5W r.h D);obtain⟨x,H1,b,B,a,C,L,g,dx,fs,v,ex,l,m,M,y,w,q⟩:=D;rw[vW B];rw[BBQ vs j k (CH8 a ELS (b.hok a _ l))];obtain⟨mA,c,z⟩:=CH8 dx DYJ (b.hok dx _ m);rw[APK G N];rw[XU A i (EDT w z)];rw[uK F E t os s1];exact c1u b.kIn (AEU b.kIn) rfl M.ga M.gr y j e1 e2 k c A (a7h i) (mV v CUF i q)
#where
section
variable {o value:Expr}{ta tv:TE}{pos' qN p:Pos}{pl:kU}
def c7e(K:qF)(h:MM)(i:DN7)(j:CZE readsIn L)(g:D1G findCls iM)(k:bP specialIn iM "__getattribute__" (WE "type.__getattribute__"))
  (f:EQ) (d:AQ:=by rfl) (hd:GH:=by decide)
  (b:CG:=by rfl) (a:GG:=by rfl)
  (l:LQ DBR=(LQ nC>>=λc=>CFZ [c] (getMethod c "__init__" pl) f' f' DIN):=by rfl) :
  A2S BTI (c8h K t):=by
 subst d;exact⟨c6d (pl:=pl) h i j g k f.h hd b a l⟩
def c8U(K:qF)(b:A8O)(d:C7T)(a:AQ:=by rfl)(c:DLR:=by rfl):EFW BQ3 sXf n:=by
 rw[EF7 c8y]
#where
#where
section
variable {C:qE}{k:Nat}{ps:AB}{sp:Sp}
noncomputable def c1w(C:qE)(m:Str)(sp:Sp)(ta:TE)(t:TA):TX:=F51 (λ_ H3=>mR H3)
def c0a{X:Cx}{m:Str}{o e:Expr}{es:BN}{ta:TE}{t:TA}{qN qM pos:Pos}{pl:kU}(O:DS8)(c:lC)(hr:fF)(he:A8O)(ha:EQ)(i:CE5:=by exact vT z z)
  (y:CG:=by rfl) (w:RZ:=by rfl)
  (hs:B67 ALU:=by rfl)
  (ht:LQ ALU=(do
   let ov <-eval o X.env
   standAt qN.atName
   let (f,first) <-holding [ov] (getMethod ov m pl)
   callWith qM f first (backTo qM (starEach (e::es) X.env)) (backToKw qM (keywordEach [] X.env))):=by rfl) :
  EYP (E97 ALU) c1w:=by
 rw[ERY];rw[EWL];rw[F7R]
 rw[F6F];cases r with
 |error e =>
  rw[F7Z]
 |ok fl =>
  cases fl with
  |ret u =>
   rw[F1S];rw[A7X (dY M N q3)]
  |next=>rw[UQ g]
  |brk=>rw[UQ g]
  |cont=>rw[UQ g]
structure MethOkN(P:qG)(w:World)(K:qF)(mg:AZ)(base:Heap)(C:qE)(m:Str)(k:Nat)(ps:AB)(sp:Sp):Prop where
 ex:CDW A8H
def MethAt.fnN{P:qG}{w:World}{K:qF}{mg:AZ}{base:Heap}{m qual:Str}{st:Stmt}{N:AB}(F:C77)(S:lG)(len:bM)
  (b:A1U qual (WP ->
   BQG (AAS A8H))):A25 MethOkN m BZ ps sp:=by
 rw[F0N]
structure MakeOkN(P:qG)(w:World)(K:qF)(mg:AZ)(base:Heap)(x:Str)(C:qE)(k:Nat)(ps:AB)(sp:Sp):Prop where
 ex:EBJ A8H
def MethOkN.make{P:qG}{w:World}{K:qF}{mg:AZ}{base:Heap}{x:Str}(O:DTS k ps sp)(d:yY)(c:B6Y)(b:C4U):EXN:=by
 rw[F37]
noncomputable def c8b(C:qE)(sp:Sp)(t:TA):TXN:=λD R σ H=>ZA t vs (∀x dx,B4P->DCQ->AMI->sp BZF EAA (BMF (mR H2)) λc dd H'=>D2I (R σ C' dd H'))
def b9Z{X:Cx}{x:Str}{p pos qM:Pos}{e:Expr}{es:BN}{t:TA}(O:D3X MakeOkN)(Z:A12)(U:MM)(Q:EQ)(n:CE5:=by exact vT z z)(l:GH:=by decide)
  (T:CG:=by rfl) (m:RZ:=by rfl) (hs:B67 DCW:=by rfl) :
  JXN X (E97 DCW) (c8b C sp t):=by
 rw[D49];rw[AOT Y M S F];rw[EWL];rw[BTD U Y l];rw[BRU (h₀:=X.base) M.kp (UN (AS8 Q.h qM) (A52 b zz) e s z (BMX n)) T m];obtain⟨vs,H1,c,r,q⟩:=zz;rw[IR c.kIn];rw[AD o (q A4G s1.heap.objs.size (BKU c.hok.fresh) CVL wH) g (EJO c)];have w:BNY (vQ A4G) AOG:=B0C;have W:FO AOG=ps.length:=by
  rw[CAR w.length (AHP o)]
 rw[D0O (S _ AOG g.kIn (A5M W)) (F20 c.kIn (CCW (JJ AOG) AOG _ _ _ (Z.make C b [])
  (g.env0.make C b []) d w o))]
 cases r with
 |error e =>
  obtain⟨p,C,H',B,a0,dd,h1,h2,E,G,J,K,L,N,j,C',P,i⟩:=a;cases P;exact⟨σ,_,_,p,C,H',B,a0,dd,h1,g,h2,E,G,J,K,L,N,j,i⟩
 |ok fl =>
  cases fl with
  |ret u =>
   obtain⟨v,H',y,rv,A,q3⟩:=g.after a;subst A;rw[AY rv (D4F (dY H' y q3))]
  |next=>rw[YI]
  |brk=>rw[YI]
  |cont=>rw[YI]
#where
universe L2
namespace K52
open PySem PySem.Spec PyProof.Rows L2
section
variable {C:qE}{K:qF}{L:DW}{P:qG}{base:Heap}{mg:AZ}{w:World}
structure SysAt(H:Hp)(v:V)(ns:AB)(rows:LLI)(sides:qI)(caps:AO)(prices:qI):Prop where
 ex:∃a n r s c p us,AGC/\A2Q [AK n,AK r,AK s,MH,EU]/\BES n/\C1G/\OV us rows/\AFT s sides.map/\lV c caps.map ovI/\WS (TZ prices.map)
def SysAt.same{H H':Hp}{v:V}{ns:AB}{rows:LLI}{sides:qI}{caps:AO}{prices:qI}(h:C5S)(s:BG):C5T:=by
 obtain⟨a,n,r,t,c,p,j,e,e1,e2,b,d,f,g,i⟩:=h.ex;exact⟨a,n,r,t,c,p,j,e,D9C,BX6,HF b,DEX,BX4,BX3,HF i⟩
noncomputable def Dr.capsL(d:Dr):AO:=d.names.map (lk d.caps)
noncomputable def Dr.pricesL(d:Dr):qI:=BDN (CJ5 0)
inductive spWh(C:qE)(vs:AA)(H:Hp)(Q:VK)(y_3:XK):Prop
 |mk (p ar as ac ap:qE) (d:Dr) (_:fD) (_:lF) (_:kS) (_:∀v H',F2N->BG->GL v):fX spWh
def sc_Draft_whole:DJ (ACT "caps" "prices") A2H a0c:={}
def b7H(FM:ALL "whole" "Draft.whole" a0c)(U:YF)(T:AT):E7U:=by
 rw[B79 sc_Draft_whole a0]
 rw[A1P p ar as ac ap d]
 .obtain⟨p,ar,as,ac,ap,d,rfl,D,hnl,k⟩:=h;rw[C3V];rw[A74]
  rw[BL (BU 1 sc_Draft_whole.nd (eM (EG8
 DUS) (c3T hu B5U (jv 0)))
 (BU 2 sc_Draft_whole.nd (eM (EG8
 DUS) (c3S hu B5U EV A6))
 (SX S9 (jaC HJ (QN BZX BZX BZ5)))))]
  obtain⟨⟨dx,tn,g,t⟩,⟨j,r1,r2⟩,hs,hc,hp,rs,cp⟩:=A3F;refine EY2 g t;rw[EF (F2Y CJL t H1 Q1 s1) H1 G s1 S]
  .rw[F2O (HH g) U.n4 DBV ac DA9 DA9];cases e:lk d.caps x with
   |none=>rw[A2M e]
   |some y=>rw[A2M e]
  rw[A8C s2 s1.upd pV S];rw[IU e2 H1 G pV G pV];generalize AJZ G pV=H2 at s2 e2;refine⟨G,_,rfl,gR BVY l O⟩;rw[GJ c s2.upd (FX pV) O];rw[fW e3 H2 l pV l pV];generalize LX H2 l pV=H3 at c e3;rw[CV (EY2 (AJE c) DMF)];rw[EF (F2Y CJK DMF J Q4 z) J I z W]
  .rw[F2O (eC z c g) U.n5 DBW ap DX2 DX2];cases e:lk d.prices x with
   |none=>rw[A2M e]
   |some y=>rw[A2M e]
  rw[A8C s5 z.upd pU W];rw[IU e5 J I pU I pU];generalize FB J I pU=H5 at s5 e5;refine⟨I,_,rfl,gR (FD e5) m R⟩;rw[GJ s6 s5.upd (FX pU) R];rw[fW e6 H5 m pU m pU];generalize LX H5 m pU=L at s6 e6;rw[DZ];have a:=c.trans s6;refine⟨_,rfl,p,C,dx,_,_,rfl,AJE a,U.cl,U.n1,A54,_,rfl,p,C,dx,_,_,rfl,AJE a,U.cl,U.n2,BYT,ar,j,rfl,gR (iR a r1) q1 X⟩;rw[kQ s7 L j X];rw[fW e7 L q1 j q1 j];generalize LX L q1 j=M at s7 e7;have B:=a.trans s7;refine B0W (AJE B) U.n3 DBU as _ rfl (gR (iR B hs) u Y);rw[IL s8 M AYO Y];rw[IS e8 M u AYO u AYO];rw[yB M u AYO H8 s8 e8];refine IZ rfl _ rfl E7N (AS q hq);rw[AD s9 (HE H8 (o:=FX [AK tn,AK q1,AK u,GV,AUG]) hq) F (s8.trans s9)];have b:=s7.trans F;refine AM k ⟨q,tn,q1,u,l,m,j,rfl,A0,eC b a t,AH F e7,(r2.same (a.trans b)),AH s9 e8,eC b s6 (DHR e3 Dr.capsL),AH b (DHR e6 Dr.pricesL)⟩ (a.trans b)
inductive Stps:EDZ DW
 |nil {d:Dr}:Stps d [] d
 |cons {d e d':Dr}{ws:AB}{L:DW}(h:Stp d ws e) (r:BA3 L):B7U (ws::L)
def Stps.inv{d d':Dr}{a:AB}(h:B7U (a::L)):∃e,Stp d a e/\BA3 L:=by
 cases h with|cons h r=>exact DX h r
def Stps.app{d e d':Dr}{M:DW}(h:Stps d L e)(g:BA3 M):B7U nR:=by
 induction h with
 |nil=>exact g
 |cons h _ a=>exact .cons h (a g)
structure Wl(ws:AB):Prop where
 ne:GY ws
 wl:C34
 no:JY ws (C60/\10∉x.cps.toList)
 le:A5G (A5B ws)
def Wl.split{b:AB}(h:Wl b):CA3 BOP b:=a2g h.ne λa c=>(h.no a c).1
noncomputable def lnW(L:DW):AB:=B05 L.map
noncomputable def ptW(L:DW):Str:=BE6 lf lnW L
def a6S(h0:sB)(h:ZD L (Wl b)):PySem.Txt.split (ptW L) lf=lnW L:=by
 refine a2g (nB h0 List.map_eq_nil_iff.mp) λa c=>?_;rw[GQ b hw c];exact vC a9Z λy d=>((h b hw).no y d).2
def a7Y(h:∀a∈L,Wl a)(hl:DGT):NF ptW L 10000000:=by
 have:=BGA 10 10000 (ys:=lnW L) λy b=>by
  rw[GQ a hw b];exact(h a hw).le
 rw[lW (B4M (GK lnW L) L.length) (CS9 (ESB _ 900 10001))]
section
variable {L fI:qE}
inductive spNt(C:qE)(vs:AA)(H:Hp)(Q:VK)(y_3:XK):Prop
 |mk (x:qE) (n:Nat) (_:QQ WR qT) (_:AGB 9) (_:W2 x CY0) (_:∀dx,BWF->AMI->B1W (upd (W1 DP8 dx .xd [("line",qT)]) x (xI x C (some dx)))):fX spNt
def a2h:DJ jY jY O0:={}
def b4O(o:cN "__init__" "NoText.__init__" O0 jY)(M:C5O)(q:B4L "line")(d:BZ9 L)(b:DWV L)
  (a:DXP iM) (c:EFK iM):DH1 jY spNt:=by
 rw[IH o.fnJ a2h p r]
 rw[SA x n]
 .obtain⟨x,n,rfl,hl,hx,k⟩:=h;have t:=r.u60;rw[BL (AE9 (lJ c7e d b a c (GI 0 (jaC (c0r (CXF (AFC a2V))) jaN)))
 (A3 (c8U K EV (jv 1))))]
  rw[NJ g]
  have i:A0U 9:=E6G hl;have j:BZK Str.empty "line "=5:=by rw[bT]
  have l:FO EPB=5+rJ:=by rw[D8,j]
  have m:BZK EPB " isn't one where it stands"=5+rJ+26:=by rw[D8,l];rfl
  rw[GD (AAC (HG j b1O g) _ rfl (DH ⟨n,rfl,CUE hl Nat.pow_le_pow_right AG AG,AJL l 0xbd47f3501b1150f561aae0ede g i,_,rfl,EEN,EEN,?_⟩)) ⟨x,C,L,fI,_,rfl,hx,M,?_⟩];refine BC0 x C L fI A0 M q (vD dx hd);exact k dx (AH2 (A5 e) hd hd) e
#where
inductive spTkA(C CN:qE)(vs:AA)(H:Hp)(Q:VK)(E:XK):Prop
 |mk (p ar as ac ap l:qE) (L M:DW) (d d':Dr) (_:A99) (_:lF) (_:xG BS9) (_:l∉CNQ) (_:C8W) (_:DGT) (_:B7U L) (_:(D23 (RfW d' wb))) (_:(∀H',B3V->C4E->B3J->A2Y)) (_:(ERT B3J)):ERN spTkA
def sc_take_all:DJ ["draft","lines","number","line"] ["draft","lines"] a2k:={}
noncomputable abbrev c9F(p l:qE)(L:DW)(d':Dr)(C ar as ac ap:qE)(H:Hp)(i:Nat)(σ:L2.St)(H':Hp):Prop:=∃o2 o3 e,σ=[UU,B2G,o2,o3]/\i<=L.length/\BA3 (L.drop i)/\AGY e/\B3J
def a9M{CN Lx fI:qE}(F:X3 "take_all" a2k "draft" "lines")(T:AT)(m:TR)(c:EN0)(g:MkX K CN Lx fI)(j:wR MethOk CN "__init__" 1 jY (spNt CN))(n:DC9 CN):EWO:=by
 rw[IH F.okN sc_take_all a0 Z]
 .obtain⟨p,ar,as,ac,ap,l,L,M,d,d',rfl,_⟩:=h;rfl
 .obtain⟨p,ar,as,ac,ap,l,L,M,d,d',rfl,D,hL,hl5,hW,h900,S,hRf,k1,k2⟩:=h;rw[C27]
  rw[BL (A3 (BBW (lJ c0l T.b_enumerate KB) 2 sc_take_all.nd 3 sc_take_all.nd
 (A3 (AOF (a0g c m (WD Z.mono b8p) EV (ER DRO))
 (A3 (b5h g j n (IX Z.mono) rfl NU))
 B7)) (hp:=PassesOwn.leaving)))]
  refine VO false l (hJ hL) ?_;refine BF b5p K K k false (a:=l) (xs:=(lnW nR).map V.str) (c9F p l L d' C ar as ac ap H) ⟨_,_,d,rfl,IC,S,D,yG⟩ (ABH σ zz (by obtain⟨_,_,_,_,_,_,_,o⟩:=zz;rw[zQ (AM o hl5 hL)])) ?_ ?_
  .rintro i x σ H1 q U ⟨o2,o3,e,rfl,hiL,t,D1,off1⟩ hq;rw[AD s2 (HE H1 (o:=FX B0F) hq) N (D1.same s2)];have B:=off1.trans s2.off;rw[fW I H1 q B0F q B0F];rw[A7T (AHS q B0F) N B I];rw[RT (A4R q _ I _ dX x [])];rw[lnW,List.map_map,List.getElem?_map]at U;rw[ARI z r U];have hw:=ML hW z r;obtain⟨⟨dx,tn,o1,_⟩,_⟩:=id N;rw[DN ⟨_,rfl,p,dx,_,rfl,o1,UL c0T,_,rfl,rfl,_,bk,rfl,rfl,AG,by show A5B z+2<=_;rw[XY hw.le 0x6ef1cb4911f4afb0f65f78e9f17d6e hz],AS p3 X⟩ (show CA3 ((V.str ∘ Str.join bk) z |> GA (MF z)) z from hw.split)];rw[AD W (HE H2 (o:=HW z.map) X) v (B.trans W.off)];rcases Nat.lt_or_ge i L.length with u|u
   .rw[List.getElem?_append_left u]at r;rw[B1E (List.getElem?_eq_some_iff.mp r)];rw[List.drop_eq_getElem_cons u]at t;generalize L[i]=z at t hw W v⊢;obtain⟨e',st,t⟩:=t.inv;rw[MA ⟨p,ar,as,ac,ap,p3,z,e,e',rfl,st,hw.wl,DYR,A0,λY D4 J=>CD (C1 ⟨_,_,e',rfl,u,t,D4,v.trans J⟩)⟩]
   .obtain rfl:i=L.length:=Nat.le_antisymm hiL u;rw[A8S,Nat.sub_self]at r;rw[AW List.drop_length t t];obtain⟨R,rfl⟩:∃R,M=z::R:=by
     cases M with
     |nil=>cases r
     |cons y R=>cases r;rw[AY R rfl]
    rw[iP ⟨p,ar,as,ac,ap,p3,z,_,rfl,DYR,A0,AH hRf rfl,λY s4=>CD AUS⟩];rw[GD (SI (ANT 1 0x69679fa28020b17d6d) (vR U)) ⟨x,DC0,LZ (show(1+BH L.length)=BLQ by rw[XW 0x1c286103ac30c6d]),DSR (AJ8 (GT DC0) 0x6c80d360058c6de27a8cace5 h900),A0,λdx hd G=>⟨rfl,AVU,A0,?_⟩⟩];have hd:FV Y dx:=by rw[FF (A5 G) hd hd]
    rw[EF (k2 _ _ dx _ rfl ?_) b o hb e0]
    .rw[W4 G,A5 G,A0]
    .have e4:=(v.trans s4.off) b o hb e0;have O:AHK:=A7 e4 U;have b2:HY dx:=A7 e4 hd;rw[W4 O,A5 O,A5 b2,A5 O,A5 O];exact e4
  .rintro σ H1 ⟨o2,o3,e,rfl,hiL,t,D1,off1⟩;rw[B4M (xH (FQ lnW nR)) (L.length+M.length)]at t hiL;obtain rfl:B3V:=List.length_eq_zero_iff.mp (BS 0xd1f66681a788b96 hiL);rw[List.length_nil,Nat.add_zero,List.drop_length]at t;cases t;exact k1 _ rfl D1 off1
inductive spRSy(CN:qE)(vs:AA)(H:Hp)(Q:VK)(E:XK):Prop
 |mk (L M:DW) (d:Dr) (_:DBP nR) (_:DAF) (_:C8W) (_:C1L M) (_:C8J) (_:kS) (_:DXY) (_:(∀v H',B3V->F2N->BG->GL v)) (_:(ERT BG)):AQ1 spRSy CN
def sc_read_system:VC ["text","draft"] "text" Z8:={}
def a5o{CN:qE}(F:RQ "read_system" Z8 "text")(T:AT)(U:YF)(j:TR)(l:ED8 "Draft" A2H spDInit)(c:EWO)(a:E7U):F29:=by
 rw[IH F.okN sc_read_system a0 I]
 rw[AAG L M d]
 .obtain⟨L,M,d,rfl,h0,hW,hll,S,hn7,hRf,k1,k2⟩:=h;rw[C26]
  rw[BL (BU 1 sc_read_system.nd (c3P l (DD0 4974806956) rfl)
 (AE9 (b3E c (IX I.mono) rfl (oJ (BS1 EV)))
 (FE (a4F a j (DD0 177658348) JD))))]
  refine B8V J z B;rw[BCR N H B.symm J]
  have n:KO BC6:=gZ qV z N;refine jA x dx A0 (λar as ac ap H1 u y r t W kp=>rX);have s1:PF:=CZX n (A5U J);rw[DZ];have G:=a7Y hW hll;rw[DN ⟨_,rfl,_,rfl,rfl,_,lf,rfl,rfl,AG,BT 0xc72a5e709e217cace833656b1f6da5c6a2e4e hz G,AS O k⟩ (a6S h0 hW)];rw[IL Y H1 BS9 k];have D:O∉DK1:=by
   obtain⟨⟨a1,a2,o1,o2⟩,⟨us,r1,r2⟩,hs,hc,hp,rs,cp⟩:=W;unfold L5;rw[B0R];rw[EO (AMF o1) (AMF r1) (AMF hs) (AMF hc) (AMF hp)]
  have keep:∀m,Off DK1 (A35 O BS9) m->KO m:=λm g b o e=>g b o (by
   unfold L5;rw[B0R];rw[EO (A5U J) (BAP u) (BAP y) (BAP r) (BAP t)]) (AH Y (HH e))
  refine⟨x,ar,as,ac,ap,O,L,M,dr0,d,rfl,W.same Y,A0,D,hW,by rw[List.length_append]at hll;rw[ED 0xdcfc05ba08b6d80ee842e4c5d96 hll],S,hRf,DD m q X g,λwb R dx m q hd g=>k2 wb R dx m q hd (keep m g)⟩;obtain⟨⟨p,a3,o4,_⟩,_⟩:=id X;exact⟨_,rfl,x,p,_,rfl,o4,UL c7A,x,ar,as,ac,ap,d,rfl,X,hn7,λv Z hv s5=>k1 v Z q hv (VG keep m g s5)⟩
#where
section
variable {ns:AB}{xs:qI}
noncomputable def a6l(a:Int):DW:=if a > 0 then[[E5 a]] else[]
noncomputable def N8(ns:AB)(xs:qI)(a:Int):DW:=ATB (λq=>BGX)++a6l a
noncomputable def a7X(ns:AB)(xs:qI)(s:Int):AB:=BQ2 (E7 (N8 ns xs (-s))) (E7 (N8 ns kC s))
def b6l:∀(pre ns:AB) (xs:qI),A0T->DH3 pre.length (tmP (pre++ns))=ATB λq=>BGX
 |pre,[],[],_=>rfl
 |pre,dW,IF,h=>by
  have a:=b6l (pre++[n]) ns xs A04;rw[List.append_assoc,List.length_append]at a;have a:DH3 (pre.length+1) (tmP (pre++dW))=_:=a;rw[DZS List.zip_cons_cons List.filter_cons];by_cases e:BZ7
  .rw[B7X,B7X,List.map_cons,List.map_cons,a];congr 1;rw[EY tmP (MV (by rw[D50 List.length_cons];show ¬pre.length=_;exact lq 0x4490056c45546))];dsimp only;rw[List.getD_eq_getElem?_getD,A8S,Nat.sub_self];rfl
  .rw[AKO,AKO,a]
def b0Y(h:A0T)(a:Int):iA=ARZ (xs++[a]):=by
 unfold N8 Z4 psW;rw[List.zipIdx_append,List.filter_append,List.map_append,<-b6l [] ns xs h];congr 1;unfold a6l;rw[List.zipIdx_cons,List.zipIdx_nil,List.filter_cons];by_cases e:a > 0
 .rw[QH,B7X];show _=[tmP ns (a,0+xs.length)];rw[tmP,if_pos (by rw[BJ h Nat.zero_add _])]
 .rw[JQ,AKO];rfl
def c5N(h:A0T)(s:Int):a7X ns xs s=a5e ns C2X:=by
 unfold a7X a5e;rw[b0Y h,dB b0Y List.length_map h,List.map_append,List.map_cons,Int.neg_neg];rfl
noncomputable def T4(ns:AB)(cs:AO):XS:=(ns.zip cs).filterMap λq=>(CZ).map λx=>(EB,x)
noncomputable def a0G(w:Str)(ns:AB)(cs:AO):DW:=CZS EKQ w
def a3u(n:Str)(ns:AB)(c:EM)(cs:AO):T4 dW sL=(match c with|WM=>(n,x)::AN6|none=>AN6):=by
 unfold T4;rw[List.zip_cons_cons,List.filterMap_cons];cases c<;>rfl
def K3:ES2 (((T4 ns cs).map (·.1)).Sublist ns)
 |[],_=>DAO
 |dW,[]=>DAO
 |dW,sL=>by
  rw[a3u];cases c with
  |none=>exact AU1 cons n
  |some x=>exact AU1 cons_cons n
def a6W{cs:AO}(h:BLT cs):∀q∈AN6,BPS CZ CZ:=λq c=>by
 rw[ET a b e List.mem_filterMap.mp c];rw[DU6 x d];exact h x (by rw[<-d];exact(List.of_mem_zip b).2)
def b3v(n m:Str)(x:Int)(c:XS):lk ((n,x)::c) m=dS n m WM (lk c m):=by
 rw[EY lk List.find?_cons];rw[GC n m]
 .rw[QH,A87];rfl
 .rw[JQ,AJS]
def c3t{c:XS}{n:Str}(h:C5C):lk c n=none:=by
 have:=a8y (c:=c) (n:=n);rw[gU A6P];cases e:DTP with
 |none=>rfl
 |some y=>rw[CAU]
def a8i:∀(ns:AB) (cs:AO),ns.Nodup->AIZ cs.length->ns.map (lk AN6)=cs
 |[],[],_,_=>rfl
 |dW,sL,h,d=>by
  rw[B7Y];have b:=a8i ns cs h2 AJY;have a:AX2 EKQ:=nB h1 CXC;rw[AY2 a3u];cases c with
  |none=>rw[AE (BGF (lk _ n) (c3t a)) (congrArg _ b)]
  |some x =>
   dsimp only;rw[b3v,FU];refine congrArg _ (Eq.trans (DDE m e) b);rw[b3v,AKN (dB h1 z e)]
def a9h:F3W ((d.caps.map (·.1)++qs.map (·.1))) d.caps.length A42 (AES caps (d.caps++qs))
 |[],d,_,_,_=>DJ3
 |A9S,d,h,b,a=>by
  rw[F5B a9h (AES caps (EAU d.caps)) .cap]
def a4O:F3W ((d.prices.map (·.1)++qs.map (·.1))) d.prices.length AFS (C35 (d.prices++qs))
 |[],d,_,_,_=>DJ3
 |A9S,d,h,b,a=>by
  rw[F5B a4O (C35 (EAU d.prices)) .price]
structure SysOk(ns:AB)(rows:LLI)(sides:qI)(caps:AO)(prices:qI):Prop where
 nm:LM
 n1:BXI
 n7:bF
 rl:rows.length<=6
 rw:∀r∈rows,DW1 ns.length
 sl:DZ9
 sb:DKB
 cl:AIZ caps.length
 cb:BLT caps
 pl:AIZ prices.length
 pb:JY prices A3V
noncomputable def prO(p:Int):EM:=B7N (p > 0) p
noncomputable def V2(ns:AB)(rows:LLI)(sides:qI)(caps:AO)(prices:qI):DW :=
 (ABO)::(ESN++(a0G A42 ns caps++D3G))
def a9g:∀(rows:LLI) (sides:qI) (d:Dr),ANR->AHQ->kS->DZ9->C0N (DW1 d.names.length)->DKB->C97->d.rows.length+rows.length<=6->Stps d (List.zipWith (a7X d.names) rows sides) {d with rows:=d.rows++rows,sides:=d.sides++sides}
 |[],[],d,_,_,_,_,_,_,_,_=>KG List.append_nil List.append_nil .nil
 |r::rows,s::sides,d,f,h1,c,j,g,e,h,a=>by
  rw[jQ l (g r List.mem_cons_self)];obtain⟨m,n⟩:=e s List.mem_cons_self;rw[CWK];have:=a9g rows sides (CDX r s) f h1 c (BM j) (CBQ g) (CBQ e) (CYQ h) (by rw[wI];show aT+_<=_;rw[ED 0x64d2d73de4bbb3e5d6 a]);rw[List.append_assoc,List.append_assoc]at this;rw[List.zipWith_cons_cons,c5N i];refine .cons (.sum f h1 c i (vR k) (bE 0x46579479a250627e5d6) h) this;rw[CA (List.mem_append.mp k)]
  rw[JR l x]
  .rw[UX];rw[BRR]
def c5C{rows:LLI}{sides:qI}{caps:AO}{prices:qI}(h:B7L):∃d,CR6 BQ7/\d.names=ns/\d.rows=rows/\d.sides=sides/\d.capsL=caps/\d.pricesL=prices:=by
 refine⟨D1J C3C B0S,?_,rfl,rfl,rfl,DTR caps h.cl,?_⟩
 .rw[JZ .cons (.of rfl h.nm h.n1 h.n7)];refine(a9g rows sides {dr0 with names:=ns} h.nm h.n1 h.n7 h.sl h.rw h.sb rfl (by show 0+_<=6;rw[LF h.rl])).app ?_;have a:∀cs:AO,GT (0+D14):=λcs=>by
   rw[EFV]
  have f:∀cs:AO,CEO->∀q∈AN6,D39 ns:=λcs c q g=>⟨EG3 g,a6W c q g⟩;have b:C6T:=λx i=>by
   rw[CFT b i]
   .rw[CM];exact h.pb _ b
   .rw[CM]
  refine(F2D a9h C3C [] (f caps h.cb) caps).app ?_;exact F2D a4O B0S C3C (f _ b) _
 .unfold Dr.pricesL;have:=DTR BM7 (LG h.pl);show ns.map (λn=>E55)=prices;rw[D4Z ((ns.map λn=>E55)=A22 ns.map lk B0S (λo=>o.getD 0)),this,List.map_map];refine Eq.trans (DDE p b) (List.map_id _);show(prO p).getD 0=p;unfold prO;obtain⟨h1,_⟩:=h.pb p b;split
  .rfl
  .show PD=p;omega
def b2J{α β:Type}{K:qF}{src:OJ}{σ caps:L2.St}{Q:VK}{k1 k2:Bool}{a b:qE}(ca:A0R)(g:β->V){xs:DI}{ys:A7W}{H:Hp}{w:TT}{te:TE}(t:AO7 Bool)(f:AO7 V)(hl:RW)
  (c:F2V g)
  (n:ALZ) (r:∀x y H1 (m:VU),YH->B7P->PF->m DC3 H1->w (CCZ g) H1 m) (o:BAV m (YH->B7P->DC3=true->PF->CAI (m AHT H2)->yO (CCZ g) m))
  (hd:BLJ (EF1 xs.zip ys)) :
  CompW src COJ w te σ Q pH H:=by
 rw[XQ B]
 rw[BN0 AUX (ys.map g) jG (BG/\zs=EF1 EBY i) (by rw[EL,List.length_map];exact Nat.le_trans VH nN)]
 .rw[BCS k a0r d l a0r];rw[B0Y DNY DNY AXC [g d] (g d) n (BMI x' g d)];have u:EBY AR=(xs.zip ys).take i++[(x',d)]:=by
   rw[List.take_add_one];congr 1;rw[jL List.getElem?_zip_eq_some (z:=(x',d)) ⟨k,l⟩];rfl
  rw[IR AIH]
  .match j,e with
   |0,e=>rw[CM]
   |1,e=>rw[CM]
   |j+2,e=>exact e
  .refine r x' d _ _ CVA DC5 s' ?_;rw[u,List.filter_append,List.map_append];cases e:t x' d with
   |true =>
    refine EU0 o e s' λH2 A=>GZ (s'.trans A);rw[List.filter_cons,QH];rfl
   |false =>
    rw[IR s'];rw[List.filter_cons,MV (by rw[TY e])];simp
 .rw[oW zs];rw[BUA List.length_map (BVE (by rw[BJE List.length_zip]))];exact hd H' p s hp
def Z2(x:Str):Str.empty++x=x:=Str.ext' (by rw[Str.cps_append];show #[]++x.cps=x.cps;simp)
noncomputable def Wg(x:Str):Prop:=DGP/\oX x.cps.toList EBN
def b6f{a:AB}(h0:B3E)(hl:BN4 400)(h:JY a ARG):Wl a where
 ne:=h0
 wl:=AF
 no:=λx b=>⟨E5H,E5H⟩
 le:=by
  have:=AP5 a d (A8I h d);exact CFX hl
def isNm.wg{n:Str}(h:BWM):Wg n:=⟨pY YB,λc a=>B16 A89 c a⟩
def a5U{x:Int}(h1:bH):Wg (E5 x):=⟨by
 have:CWN 13:=BS4 (by rw[AX9 h1]);show DUQ;omega,λc a=>pY DV0⟩
def wg_lit:A11 "of"/\A11 "sum"/\A11 "cap"/\A11 "price"/\A11 "+"/\A11 "="/\A11 "0":=by
 rw[F11 DGP EBN ARG ⟨h1,λc a=>BU4 (List.all_eq_true.mp h2 c a)⟩];refine⟨?_,?_,?_,?_,?_,?_,?_⟩<;>exact EID
def Tm.wg{ns t:AB}{j:Nat}{x:Int}(c:LM)(h:CDE t)(h1:bH):AIX:=by
 rw[CEB h b]
 .have hw:=(c.nm _ D7T).wg;rw[TL tmW]
  .rw[AY (λy a=>AJ A6O hw) (B4G 2)]
  .rw[DU C2O BO];rw[lL BFO rfl]
   .exact a5U h1
   rw[A8M hw]
 .rw[AY (λy a=>HG A6O a5U h1) (B4G 2)]
def b2Q{a:Int}(e:LM)(hl:A0T)(d:A0G)(c:B6C):iY iA ((AIX)/\GY t):=λt b=>by
 rw[b0Y hl]at b;obtain⟨j,x,_,f,q⟩:=a7C (ALC hl) b;rw[DU (q.wg e ?_) q.ne];rw[CA (List.mem_append.mp f)]
 .exact(d x z).2
 rw[A8M c]
def b3l:∀{ts:DW},AWW AIX->AT5 B5L/\GK O7 ts<=3*ts.length
 |[],_=>⟨λx a=>AH7 a,BO⟩
 |[t],h=>⟨oP h List.mem_cons_self,by have:=rZ h List.mem_cons_self;rw[MJ (t.length<=3*1)]⟩
 |A10,h=>by
  obtain⟨b,c⟩:=EZN b3l;rw[RP d A16];rw[IR (vR a)]
  .rw[E6M (x∈AO3) a]
   rw[JR d x]
   .rw[B6L]
    .rw[AE z (ZX wg_lit.2.2)]
    rw[JR b x]
  .show ZN t BH0<=_;rw[C5X List.length_append];rw[List.length_cons]at c;rw[BO8]
def b3I{ts:DW}(h:iY ts AIX):AT5 (E7 ts)/\NF E7 ts (3*ts.length+1)/\(C5B->GY (E7 ts)):=by
 unfold E7;rw[GC ts []]
 .rw[QH];rw[AX (λx b=>AJ (List.mem_singleton.mp b) wg_lit.2.2.2.2.2.2) AL rE]
 .rw[JQ];rw[QC (b3l h)];rw[AX h1 (BS 0x3c103f9b597c28666 h2) (λa=>a9I e a)]
def a9d(ns:AB)(xs:qI)(a:Int):iQ N8 ns xs a<=B1O:=by
 unfold N8 a6l;rw[D50 List.length_map];have h1:=List.length_filter_le EH8 (xs.zip ns);rw[EZA]
 split
 .rw[AE List.length_singleton (lq 88495846044719319 h1 h2)]
 .rw[AE List.length_nil (lq 0x3c2c967ac6ccad8d7 h1 h2)]
section
variable {P:qG}{w:World}{K:qF}{mg:AZ}{base:Heap}
inductive spShT(vs:AA)(H:Hp)(Q:VK)(y_3:XK):Prop
 |mk (x:Int) (n:Str) (_:QQ (BD x) (.str n)) (_:0<x) (_:bH) (_:DGR) (_:xJ EW9):HR spShT
def a7O:sN "many" "name" "many" "name" a0Z:={}
def a8e(F:X3 "show_term" a0Z "many" "name")(T:AT):EU4:=by
 rw[BP a7O g l]
 rw[SA x n]
 .rw[TD x n rfl h0 h1 hn k];rw[NJ a]
  rw[GF (a5M (AHY K2) JD (c0r E70))];refine BY7
  .have e:x=1:=DDD V.int.inj;rw[tmW,QH]at k;exact CD k
  .have e:¬x=1:=D7C;rw[tmW,JQ]at k;have i:=(a5U h1).1;have j:x=EE x.toNat:=by omega
   rw[WW (A5P x.toNat (B14 j) (CEZ x.toNat h1) ?_)];rw[Z2];have b:DUQ:=i;refine⟨EAT,_,rfl,?_⟩;rw[EQU c A7A b]
   rw[HC d (FO (A7A++bk++n)<=41) D8 (b9y hn c)]
   refine⟨AGQ (AHZ A7A) b9u c,_,rfl,CW ⟨n,rfl,oD b1V hn,EWU,EWU,?_⟩⟩;exact k
inductive spShTs(K:qF)(vs:AA)(H:Hp)(Q:VK)(y_3:XK):Prop
 |mk (nt np:qE) (k:Bool) (ns:AB) (xs:qI) (a:Int) (_:EPE) (_:fT) (_:(gF (CQW k np))) (_:LM) (_:bF) (_:A0T) (_:A0G) (_:B6C) (_:ALQ BQ6):ANQ spShTs
def sc_show_terms:DJ ["names","numbers","alone","terms"] BSE a0y:={}
def b5i{t:AB}(h:JY t ARG)(hl:t.length<=2):A5B t<=42:=by
 have:=AP5 t a (A8I h a);exact EA3 hl
noncomputable abbrev c9E(nt:qE)(np:qE)(a:Int)(p:qE)(ns:AB)(xs:qI)(H:Hp)(σ:L2.St)(H':Hp):Prop:=σ=[D86,EZ np,FP a,UU]/\DJE D2X/\BG
def a6x(F:IJ "show_terms" a0y BSE)(T:AT)(d:EU4):EV6:=by
 rw[BP sc_show_terms W hr]
 rw[A1P nt np k ns xs a]
 .obtain⟨nt,np,k,ns,xs,a,rfl,hn,m,hnm,hn7,hl,l,ha,kk⟩:=h;rw[NJ R]
  rw[BL (A1 (AIU 3 sc_show_terms.nd "many" "name" none (AS7 yN)
 (xB CZ4 CZ4) (A9B DL8) (tJ (eJ d aF)))
 (A1 (DE6 2
 (C3B WU (E4K NU))
 B7)
 (FE (a5M (a0p CW0 A6) (Y9 K A4 pB) A4))))]
  rw[F0R (b2Q hnm hl l ha) J g g];refine xC k true np nt (EIP m) DB3;rw[EF (TB b2J [] V.int V.str (xs:=xs) (ys:=ns) (λx _=>CIP x) (λx n=>bV EW9) (BT 0x293bb70cc9ff404307458766 hn7 hl) (AF5 (m H' s) DED) rfl (λx y H1 U _ _ s1 q=>COR q) (λx y H1 U C G g s1 q=>ZY _ rfl x y rfl (of_decide_eq_true g) (l x C).2 ((hnm.nm y G).wg).1 aU)) H1 p s1 O];rw[DZ];have Y:(ATB λq=>bV (Str.join bk (tmW EB CZ)))=AB3 CMF V.str:=by simp only[List.map_map];rfl
  rw[Y];rw[GJ I s1.upd AZD O];have e2:L1 H1 p AZD p AZD:=A0;have X:ND:=s1.free O;generalize AEF AZD=H2 at I e2;rw[EA1 (c9E nt np a p ns xs H)]
  case fin =>
   rintro σ H3 ⟨rfl,L,S⟩;rw[F62 p (PX L)]
   .have e:=zY;have j:GY iA:=λz=>by rw[z]at e;rw[HI e AG]
    have u:A8Y DNH 42:=λy D=>by rw[GQ t g D];exact b5i (oP J g) (rZ J g)
    have M:qU wplus DNH BQ6:=by
     rw[a7e λt g=>rZ tm g,E7,BA j]
    have v:E27:=by
     obtain⟨w1,w2,_⟩:=b3I J;have:=AP5 AWV D (A8I w1 D);exact CFX (show _<=28 by exact b9L hn7 hl tl w2)
    refine⟨rfl,_,rfl,wplus,p,_,42,rfl,rfl,FD L,u,?_,AJ M (b2b R v),?_⟩
    .rw[List.length_map,vN (wplus.length=3)];omega
    .rw[AE M DO3]
   .have j:iA=[]:=by
     cases Z:iA with
     |nil=>rfl
     |cons t r=>rw[FF Z e (pA decide_eq_true AL e)]
    have:=DO3;rw[j,E7,FU]at this;rw[A7O]
  refine B9A
  .have e:0<a:=zY;have m:a=EE a.toNat:=by omega
   refine⟨_,rfl,PV e2,_,rfl,a.toNat,B14 m,CEZ a.toNat ha,p,_,_,rfl,rfl,e2,?_,?_⟩
   .have:=List.length_filter_le EH8 (xs.zip ns);rw[EZA]
    simp only[List.length_map];exact lq 0x2d1833c6c6e84b32d154dc2b03a8822f0ef168769 hn7 hl R this h2
   .refine jD (lU ?_ (FH b o l))
    .rw[EHD A0 N8 a6l QH]
    .rw[AE (mS l X) (AH I l)]
  .have e:¬0<a:=B6N;refine jD (lU ?_ I);rw[e2,N8,a6l,JQ,List.append_nil]
inductive spShR(K:qF)(vs:AA)(H:Hp)(Q:VK)(y_3:XK):Prop
 |mk (nt np:qE) (ns:AB) (xs:qI) (a:Int) (_:EPE) (_:fT) (_:W2 np aR) (_:LM) (_:bF) (_:A0T) (_:A0G) (_ : -topN<=a) (_:B6C) (_:ALQ (MF (BDO a7X))):ANQ spShR
def sc_show_row:DJ ["names","row","side","left","right"] BSC a2l:={}
def a2Z{a:Int}(b:LM)(hn7:bF)(hl:A0T)(h:A0G)(g:B6C):E27/\GY AWV/\AT5 AWV/\NF E7 iA 30:=by
 rw[F0R (b2Q b hl h g) j d d];rw[ET e f k b3I j];have:=AP5 AWV i (A8I e i);rw[FJ (CFX (show _<=28 by exact b9L hn7 hl tl f)) (k λt d=>rZ tm d) e (~~~lq 0xcef898c40917ceaa95bdbe4c3daf4c14d658182a8768 hn7 hl tl f)]
def b6I{l r:AB}(hl:GY l)(a:GY r):CQ7 (MF l)++DK " = " ++ MF r=MF ED5:=by
 rw[BKB (ED5=tQ "sum"++(l++(tQ "="++r))),S8 AL AL,S8 hl AL,S8 AL a];rw[EEJ "sum " AVV]
 have e2:BHD " = " (bk++(DKL)):=by rw[bT]
 rw[e1,e2];show _=AVQ AVV++(MF l++bk++(DKL++MF r));rw[BUO]
def a9N(F:IJ "show_row" a2l BSC)(T:AT)(b:EV6):EV7:=by
 rw[BP sc_show_row z p]
 rw[ADX nt np ns xs a]
 .obtain⟨nt,np,ns,xs,a,rfl,hn,hx,hnm,hn7,hl,hb,h1,h2,kk⟩:=h;rw[NJ c]
  rw[BL (BU 3 sc_show_row.nd (E72 (oJ (Z1 (jv 2))))
 (BU 4 sc_show_row.nd (E72 (jaC (WK (C2J BLG
 C1W) (Z1 (jv 0))) NU))
 (SX c0r (AFC EM0))))]
  have e:=hb.neg;have d : -a<=topN:=D4U
  refine⟨_,rfl,_,rfl,_,rfl,_,rfl,nt,np,true,ns,xs,-a,rfl,hn,aK hx,hnm,hn7,hl,hb,d,AFH⟩;rw[CV (AAC np rfl (B3Q hx) ?_)];rw[EF (CD0 nH xs CMX jG (HH hx) (A7G H2 L r j y)) H2 p2 y g]
  .rw[yP j r r];exact B8J aU
  have k:=rQ s1.trans y.upd BPU g;rw[pM l (L1 H2 p2 (BQ BPU) p2 (BXP kC)) A0 List.map_map]
  generalize VB p2 BPU=I at k l;rw[RT ⟨_,rfl,nt,p2,false,ns,kC,a,rfl,AJD hn,AL6 l,hnm,hn7,DCM,e,h2,AS J G⟩];obtain⟨t,C,_⟩:=a2Z (a := -a) hnm hn7 hl hb d;obtain⟨u,D,_⟩:=BF a2Z xs kC a a hnm hn7 DCM e h2;have B:=b6I C D;have g1:FO CDH<=1004:=by rw[D8,A4E (BWR "sum ") 4 rfl];rw[ED 0x6df3158588d1027fceac80e5 t]
  have m:BZK CDH " = "<=1007:=by rw[D8,A4E (BWR " = ") 3 rfl];rw[ED 0x6f08c721a9682a4cc26b80e5 g1]
  rw[HC n (FO (CDH++DK " = " ++ A4A E7 (N8 ns kC a))<=2007) D8 (lq 0x153beef6ae3b53fa343b242163a1080e6 u m)]
  rw[qX];rw[Z2];refine⟨PH 4,_,rfl,CW ⟨_,rfl,~~~b2b c t,A08 0x14be6a7d0c3d34ee3803aae0ede g1,_,rfl,A08 0x14be6b1bbadf91c11d43aae0ede m,_,rfl,CW (IZ rfl (~~~b2b c u) E9K E9K ?_)⟩⟩;rw[AE B (kk _ (k.trans G))]
def a9T(w:Str):ES2 ((A2P (mE ns.zip cs) (CZ).isSome λq=>ABB [w,EB,C06 (CZ).getD])=AB3 E8I V.str)
 |[],_=>E7Y
 |dW,[]=>E7Y
 |dW,sL=>by
  have a:=a9T w ns cs;unfold a0G at a⊢;rw[List.zip_cons_cons,List.filter_cons,a3u];cases c with
  |none=>exact a
  |some x =>
   rw[DF (AJ9 ((n,WM).snd.isSome=true)),List.map_cons,a];rfl
inductive spShN(K:qF)(vs:AA)(H:Hp)(Q:VK)(y_3:XK):Prop
 |mk (w:Str) (nt np:qE) (k:Bool) (ns:AB) (cs:AO) (_:vs=[AZ1,ASE,AK np]) (_:fT) (_:(gF (SqK k K H' np (cs.map ovI)))) (_:w.length<=20) (_:bF) (_:(CQ n ns DGR)) (_:CEO) (_:EPG (DJE E8I) BG):ANQ spShN
def a4f:DJ B0G B0G V5:={}
def a4l(F:IJ "show_numbers" V5 B0G)(T:AT):EN9:=by
 rw[BP a4f C I]
 rw[A1P w nt np k ns cs]
 .obtain⟨w1,nt,np,k,ns,cs,rfl,hn,hx,hw,hn7,hnl,hb,kk⟩:=h;rw[NJ a]
  rw[GF (CDT "name" "number" "word" gO BZ5
 (xB D10 D10) (A9B (DS b3z 1 G0)) (ACK c0r (DS R5 2 (AFC E70))))]
  refine xC true k nt np DB3 (EIP hx);rw[EF (TB b2J [ADA w1] V.str ovI (xs:=ns) (ys:=cs) (λ_ o=>o.isSome) (λn o=>ABB [w1,n,C06 o.getD]) (BNM hn7) (AF5 DED (hx H' s)) rfl (λx y H1 B _ _ s1 q=>?_) (λx y H1 B c d G s1 q=>?_)) H1 p s1 j]
  .refine dN;cases y with
   |none=>exact q
   |some z=>exact q
  .rw[IG z (Option.isSome_iff_exists.mp G)];obtain⟨J,v⟩:=hb z d;have g:z=EE z.toNat:=by omega
   rw[AD D (a5U v).1 b (hnl x c)];have u:=aU;rw[EQU l w1 hw]
   rw[HC m (FO zK<=41) D8 (b9y b l)]
   have r:AHZ zK<=42:=by rw[D8,A69];rw[ED 0x3b3b384131476e8e5 m]
   have t:BKT zK BPB<=62:=by rw[D8];rw[A9E (_+GK E5 z) 0x3b1b9d93b0080a8bb898226 D r]
   rw[WW (CW (SI DUO ?_))];rw[Z2];refine⟨DUO,_,rfl,?_⟩;refine⟨AGQ (AHZ w1) b9u l,_,rfl,CW ⟨_,rfl,EAT,AGQ (FO zK) b1X m,_,rfl,show AHZ zK<=_ by rw[KZ 0x6c602bfe710c15887aae0ede a r],_,rfl,DH ⟨z.toNat,?_,CEZ z.toNat v,EWT,EWT,?_⟩⟩⟩
   .show V.int z=_;rw[<-g]
   .have e:qU bk [w1,x,C06 (some z).getD] (zK++bk++BPB):=by
     show w1++bk++(x++bk++E5 z)=_;simp only[a1J];rfl
    rw[FF e u u]
  .rw[AE a9T (kk p _ A0 (s1.free j) (s1.upd j))]
inductive spShS(vs:AA)(H:Hp)(Q:VK)(y_3:XK):Prop
 |mk (v:V) (ns:AB) (rows:LLI) (sides:qI) (caps:AO) (prices:qI) (_:QS v) (_:C5S) (_:B7L) (_:ALQ (ptW (BCG prices))):HR spShS
def sc_show_system:VC ["system","names","lines"] "system" Z7:={}
def a6J{rows:LLI}{sides:qI}{caps:AO}{prices:qI}(h:B7L):CQ f BQ7 (Wl f)/\D97<=30:=by
 rw[EQK l (by
  rw[EFV])]
 have b:∀(k:Str) (cs:AO),Wg k->CEO->∀f∈a0G k ns cs,Wl f:=λk cs hw A f d=>by
  rw[GQ q m d];refine b6f AL (cG (3<=400)) λx c=>?_;rw[nK c];rcases c with rfl|rfl|rfl
  .exact hw
  .exact(h.nm.nm _ (EG3 m)).wg
  .exact a5U (a6W A q m).2
 have j:C6T:=λx c=>by
  rw[CFT j c]
  .rw[CM];exact h.pb _ j
  .rw[CM]
 rw[IR (AS f d)]
 .rw[lL (List.mem_cons.mp d) rfl]
  .rw[EH3 AL (by rw[D4V];have:=h.n7;rw[XF 85331137448418149])]
   .exact wg_lit.1
   .exact(h.nm.nm x z).wg
  .rw[AMT]
   .rw[jQ hi D90];rw[List.getElem?_zipWith]at hi;cases e1:rows[i]? with
    |none=>rw[AW e1 hi hi]
    |some r =>
     cases e2:sides[i]? with
     |none=>rw[EQO]
     |some sd =>
      rw[EQO];rw[AJ5 n o (ML h.rw r e1) B u (ML h.sb sd e2)];have g:=o.neg;obtain⟨_,_,s,t⟩:=a2Z (a := -sd) h.nm h.n7 n o D4U;obtain⟨_,_,v,w⟩:=BF a2Z xs (CJ7 r.map) a sd h.nm h.n7 (LG n) g u;rw[EH3 (by rw[A6E a7X]) (by unfold a7X;rw[List.length_cons,List.length_append,List.length_cons];rw[KZ 0x22e45c8fd03ea84f4a6a31aaf4e6 t w])]
      .exact wg_lit.2.1
      .rw[AMT]
       rw[JR s x]
       .rw[lL AKB rfl]
        .exact BJ9 wg_lit
        rw[JR v x]
   .rw[AMT]
    .exact b _ _ (ZX wg_lit) h.cb f z
    .exact b _ _ (A3N wg_lit) j f z
 .unfold V2 a0G;rw[List.length_cons,List.length_append,List.length_append,List.length_map,List.length_map,List.length_zipWith];rw[AD h1 (l caps) h2 (E0I l)];have y:=h.rl;rw[EJE];exact lq 0x5f443b5fad4abdb744a15792240111db3a768 h1 h2 y
def c3b(h:DAD):DK "of " ++ MF ns=MF ABO:=by
 rw[vN (ABO=tQ "of"++ns),S8 AL h];rw[EEJ "of " BVP]
 rw[e1];rfl
def a5n(F:RQ "show_system" Z7 "system")(T:AT)(g:EV7)(d:EN9):EOU:=by
 rw[BP sc_show_system a9 hr]
 rw[A1P v ns rows sides caps prices]
 .obtain⟨v,ns,rows,sides,caps,prices,rfl,hS,hO,kk⟩:=h;rw[C26]
  obtain⟨a,n,r,sd,c,pr,us,rfl,J,hn,R,hI,S,a0,M⟩:=hS.ex;have h0:DAD:=λz=>by rw[cY hO.n1 z];rw[HI this AG]
  have hn7:=hO.n7;have b0:A5B ns<=147:=by
   have:=AP5 ns l CSO;exact EA3 hn7
  rw[BL (AO9 1 sc_show_system.nd ALB
 (eE 2 sc_show_system.nd (ER (B5 A4 (c0k K A4 KB)))
 (AZX PM (WK (CDT "row" "side" "names" uW (QP ALB ALB)
 (xB D1L D1L)) (eJ g (A81 aF)))
 (EG1 ALB
 (EG1 (WK (wX "price" (G7 K ALB)
 (wF "price")) (a5M DL8 EV G0))
 (FE (Y9 K A4 NU)))))))]
  rw[RT (EFS a _ D7O)];rw[DN ⟨rfl,_,rfl,bk,n,ns,20,rfl,rfl,GR hn,CAN,SG A69,AF,_,_,rfl,rfl,by rw[MJ (3+_<=_)],A0D,pN hp⟩ (c3b h0)];rw[DZ];have fp:ND:=hp;rw[ZZ (ABP CIT) hp];rw[IU e1 H p ACG p ACG];rw[xT (ABL ACG) e1];refine⟨_,rfl,PV e1,_,rfl,a,_,1,_,rfl,rfl,E1R,rfl,_,rfl,a,_,2,_,rfl,rfl,E1R,rfl,true,true,r,sd,rfl,(LY A09),(B3Q S),?_⟩;have a4:=hO.rl;rw[JZ (BF X9 K K k1 true (k2:=true) (a:=r) (b:=sd) (xs:=us) (zs:=bX sides.map) (by rw[MW HP]) (cE zs (ARE H'/\zs=AB3 (FQ (zV CVT rows sides take) i) V.str)) ⟨Same.refl H1,AL⟩
   (AUC zs ⟨A0L A09,A0L (HH S),by rw[EL,List.length_map,List.length_map];exact nN⟩)) ?_]
  .rintro i x z zs H' q hx l ⟨s',rfl⟩ hq;obtain⟨W,t,a7⟩:=hI.2 i x hx;rw[lO sv U a0r l];have C:ARE (LX H' q [x,DT sv]):=s'.upd hq;rw[B2R X C];rw[GN b hb a7];rw[AJ5 r1 r2 (ML hO.rw W t) b1 b2 (ML hO.sb sv U)];refine⟨q,_,rfl,GR A0,rfl,_,_,rfl,_,[],rfl,rfl,AIH,?_⟩
   .match j,e with
    |0,e=>rw[CM]
    |1,e=>rw[CM]
    |j+2,e=>exact e
   .refine⟨_,rfl,_,rfl,_,rfl,n,b,ns,W,sv,rfl,B1Q hn,B1Q hb,hO.nm,hn7,r1,r2,b1,b2,λH3 u=>GZ (C.trans u)⟩;rw[EHD List.take_add_one List.getElem?_zipWith t U]
  rintro zs H' ⟨s',rfl⟩ q hq;rw[oY (BVE (by rw[List.length_zipWith,HP];omega))];generalize I:ESN=k;have m:k.length<=6:=by rw[<-I,List.length_zipWith];rw[EJE];rw[ED 0x111f82cfedcce25a6 a4]
  rw[GJ C s'.upd AZC hq];rw[IS e2 H' q AZC q AZC];have D:=AH C e1;have qp:q≠p:=A7 (pZ s') hq |>.symm;rw[A7T (upd H' q AZC) C e2 D];rw[EQK hk (by
   have:=CXD;rw[lW List.length_map (B23 85026750973216614 hn7)])]
  refine⟨p,q,_,_,rfl,rfl,D,e2,by show 1+_<=_;rw[DDZ List.length_map],?_⟩;have up:∀{Hx:Hp}{o:HO},KO Hx->KO (A2L Hx o):=λsx b o hb=>AJ (mS hb fp) (BVB sx)
  have u:KO (VB p B9F):=up (s1.trans C);rw[IU Z H2 p B9F p B9F];generalize VB p B9F=H3 at u Z;refine⟨_,rfl,PV Z,_,rfl,_,rfl,a,_,3,_,rfl,rfl,hE u J,rfl,A42,n,c,true,ns,caps,rfl,AH u hn,aK (AH u a0),AG,hn7,CAN,hO.cb,DP p4 H4 e4 f4 s4⟩;have L:=hk caps;have b3:p≠p4:=A7 Z f4;refine⟨p,p4,_,_,rfl,rfl,B1R Z,e4,by rw[EHO];exact lq 0x4109f6d67e8d99c3f358b3e48d0dc6a2e4f hz m L,?_⟩;have Y:KO (FB H4 p AIY):=up (u.trans s4);rw[IU e5 H4 p AIY p AIY];generalize FB H4 p AIY=H5 at Y e5;refine⟨_,rfl,PV e5,_,rfl,_,rfl,a,_,4,_,rfl,rfl,hE Y J,rfl,pr,rfl,LY DO5,?_⟩;rw[EF (CD0 (bX prices.map) prices CLG (by rw[AH3];rw[LF hO.pl]) DO5 (A7G H6 Q6 hv a6 s6)) H6 p6 s6 O]
  .rw[yP a6 hv hv];have q0:=aU;refine B9A
   .rw[prO,BHS of_decide_eq_true]at q0;exact CD q0
   .rw[jP prO (AKN (e (decide_eq_true z))) q0 q0]
  have s7:=rQ Y.trans s6.upd AXF O;rw[pM e7 (L1 H6 p6 (BQ AXF) p6 (BEY (FQ prices.map prO))) A0 List.map_map]
  have G:=AH ((s6.upd (o:=BQ AXF) O)) e5;generalize FB H6 p6 AXF=H7 at s7 e7 G;have a3:C6T:=A5Q (by
   rw[CFT hp hx]
   .rw[CM];exact hO.pb _ hp
   .rw[CM])
  refine⟨AFS,n,p6,false,ns,BM7,rfl,BVA hn,AL6 e7,AG,hn7,CAN,a3,DP p8 H8 e8 f8 s8⟩;have a1:=E0I hk;refine⟨p,p8,_,_,rfl,rfl,AH s8 G,e8,by rw[EHO];exact lq 0x74c1d4e39ead8a829463bff5e493bf54d0dc6a2e50 hz m L a1,?_⟩;have s9:KO (FB H8 p DZD):=up (s7.trans s8);rw[WQ hw a5 a6J hO];have a8:=a7Y hw (BS 0x6421a1d3a90ced34e5 a5);have a2:DZD=A22 lnW BCG prices V.str:=by
   unfold lnW V2;rw[I];simp only[List.map_cons,List.map_append,List.append_assoc,List.singleton_append,List.cons_append,List.nil_append]
  rw[a2]at s9⊢;refine⟨rfl,_,rfl,lf,p,lnW (BCG prices),10000,rfl,rfl,UJ,AE5 l,?_,by show GK ptW _<=_;omega,kk _ s9⟩
  .rw[GQ ws hws l];exact(hw ws hws).le
  .rw[B4M (FO (lnW (BCG prices))) D97,vN (lf.length=1)];omega
#where
#where
section
variable {j m:Nat}{x:Str}
def a1h(c m:Nat):CR3 a0e m=BZV c:=by
 unfold a0e;show cB m [c] flatten.toArray.toList=_;rw[List.toList_toArray];induction m with
 |zero=>rfl
 |succ m a=>rw[B91 a]
def c5O{c:Nat}(h1:97<=c)(h2:c<=122)(d:AG1)(e:m<=8):isNm (a0e HL m):=by
 have a:LB a0e HL m=m:=by
  show(a0e HL m).cps.size=m;rw[ATJ a1h List.length_replicate]
 rw[DV (oD b9H d) (BT 0x465794ac2afdbb5dd26 e a) AM8];rw[a1h]at b;rw[xL b];rw[AY h1 h2]
def c1Z{c d k:Nat}(h:a0e HL m=a0e (lS d) k)(a:AG1):c=d:=by
 have e:List.replicate m c=BO3 d:=by rw[<-a1h,<-a1h,h]
 have:c∈BO3 d:=xY e List.mem_replicate.mpr (NM (hY b8t))
 exact xL this
def c5P{c:Nat}{p q:Nat}(hp:p∈x.cps.toList)(a:q∈x.cps.toList)(h:p≠q):DGW:=λz=>by
 rw[<-z,a1h]at hp a;exact h ((xL hp).trans (xL a).symm)
noncomputable def six:AB:=[AVV,A42,AFS,BVP,wd "least",wd "step"]
def c5I:BXB six:=by
 rw[F11 (D9P/\x.length<=8) CCG BKP ⟨h1.1,h1.2,λc b=>of_decide_eq_true (List.all_eq_true.mp h2 c b)⟩];rw[BQT six];rw[nK a];rcases a with rfl|rfl|rfl|rfl|rfl|rfl<;>exact EID
def c1J(c m:Nat):D04∉six:=by
 have key:∀x:Str,(∃p q,D6E 0 p/\D6E 1 q/\p≠q)->DGW:=λx ⟨p,q,h1,h2,a⟩=>c5P (List.mem_of_getElem? h1) (List.mem_of_getElem? h2) a;unfold six;rw[B0R];refine⟨AAH 115 117,AAH 99 97,AAH 112 114,AAH 111 102,AAH 108 101,AAH 115 116⟩<;>with_unfolding_all rfl
def c5J:six.Nodup:=AG
structure NmI(L R:AB):Prop where
 nd:L.Nodup
 nm:BXB L
 ap:JY L (x∉R)
 rd:R.Nodup
 rm:BXB R
def a2t{α:Type}{L:DI}{x y:α}(h:y∈E3M):y∈L∨y=x:=by
 rw[CA (List.mem_or_eq_of_mem_set h)]
 rw[GE z]
 rw[FN z]
def b4U{L:AB}(h:L.Nodup)(a:x∉L):(L.set j x).Nodup:=by
 induction L generalizing j with
 |nil=>exact h
 |cons y r b =>
  rw[B7Y];cases j with
  |zero=>exact List.nodup_cons.mpr ⟨λz=>a AK9,h2⟩
  |succ j =>
   rw[D5U ⟨AJT,b h2 λz=>a AK9⟩];rw[CA (a2t z)]
   .exact h1 z
   .exact a (A82 z)
def b8a{R:AB}{k:Nat}(h:R.Nodup)(a:EIM):x∉R.eraseIdx k:=by
 induction R generalizing k with
 |nil=>cases a
 |cons y r b =>
  rw[B7Y];cases k with
  |zero=>cases a;exact h1
  |succ k =>
   rw[List.eraseIdx_cons_succ];intro z;rw[B6L]
   .rw[FF z a (h1 (List.mem_of_getElem? a))]
   .exact b h2 a z
def NmI.step{L R:AB}{k:Nat}(h:CD6)(b:EIM):NmI E3M (R.eraseIdx k):=by
 have c:x∈R:=D7T;refine⟨b4U h.nd λz=>h.ap x z c,C2O,C2O,h.rd.sublist (List.eraseIdx_sublist ..),λy a=>h.rm y (EIC a)⟩
 .rw[CA (a2t a)]
  rw[JR h.nm y]
  .rw[AE z (h.rm x c)]
 .rw[CA (a2t a)]
  .exact λq=>h.ap y z (EIC q)
  .rw[AE z (b8a h.rd b)]
def c0L{α β:Type}(f:DM4):AJ3 R DI j ((R.map f).eraseIdx j=FQ R.eraseIdx j f)
 |[],_=>rfl
 |HU,0=>rfl
 |A8E,OC=>by rw[List.map_cons,List.eraseIdx_cons_succ,List.eraseIdx_cons_succ,List.map_cons,c0L f r j]
noncomputable def nmF(f s g:Int)(k:Nat):Str:=a0e (lS C6Y) EF4
def b8c{f s g:Int}(q:0<=f/\f<26)(p:s∈APG)(r:0<=g/\g<8)(l:m<=7):NmI (B5B (nmF f s g)) six:=by
 have h:∀k:Nat,97<=C6Y/\C6Y<=122:=λk=>by
  have:=Int.emod_lt_of_pos BMO DHH;rw[A53 Int.emod_nonneg BMO B96]
 have o:∀k:Nat,EF4<=8:=λk=>by
  rw[A53 Int.emod_lt_of_pos (k*3+g) DHG]
 refine⟨?_,AM8,AM8,c5J,c5I⟩
 .rw[C9D];refine List.Pairwise.imp_of_mem (EX2 c (a:i<j)) (List.pairwise_lt_range (n:=m));rw[List.mem_range]at hi c;have:=c1Z e AF;rw[AA9 Int.emod_nonneg CB9 B96 (BUX CEM B96)];have key:∀s∈APG,∀d∈B10 7,d≠0->AD2 (s*BH d)≠0:=by decide
  have e2:AD2 CB9=AD2 CEM:=(Int.toNat_of_nonneg h1).symm.trans (A7V (congrArg Int.ofNat (Nat.add_left_cancel this)) (Int.toNat_of_nonneg h2));refine key s p (j-i) (List.mem_range.mpr (BT 0x4707ffd6769f4df350ca7c767 l c)) (bE 0x111feb6a56eaf1696) ?_;rw[BJ (show s*EE (j-i)=(CEM)-(CB9) by rw[FK (Int.ofNat_sub (Nat.le_of_lt a)) Int.mul_sub lq 0x30d0deb03b61ad8e]) Int.emod_eq_emod_iff_emod_sub_eq_zero.mp e2.symm]
 .rw[dZ k BWC];exact c5O (h k).1 (h k).2 AF (o k)
 .rw[dZ k BWC];exact BX c1J
def c6L:∀i:Nat,i<26->CP lts.cps.toList (97+i):=by
 rw[DWW [97,98,99,100,101,102,103,104,105,106,107,108,109,110,111,112,113,114,115,116,117,118,119,120,121,122]]
 rw[TY e]
def two_at(x y:Int)(c:Bool):∃m:Int,atI [DT x,BD y] (UW c 1 0)=AW4/\(m=x∨m=y):=by
 cases c
 .rw[PZ x HK]
 .rw[PZ y A80]
section
variable {P:qG}{w:World}{K:qF}{mg:AZ}{base:Heap}
inductive spNms(vs:AA)(H:Hp)(Q:VK)(y_3:XK):Prop
 |mk (a b:qE) (_:A8U) (_:MO) (_:∀t ns H',DU7->LM->BXI->bF->VE->NV->GL IQ):HR spNms
def sc__law_names:DDV ["_law_pot_here","_law_letters","_law_many","_law_first","_law_step","_law_longer","_law_names_here","_law_words","_law_k"] a0D:={}
noncomputable abbrev c9D(a:qE)(m:Nat)(fi:Int)(st:Int)(gi:Int)(p9:qE)(p11:qE)(b:qE)(H:Hp)(σ:L2.St)(H':Hp):Prop:=F67 (E58/\CD6/\L.length=m/\VE/\NV)
noncomputable abbrev c9C(a:qE)(m:Nat)(fi:Int)(st:Int)(gi:Int)(p9:qE)(p11:qE)(b:qE)(H:Hp)(i:Nat)(σ:L2.St)(H':Hp):Prop:=F67 (E58/\UZ p11 (HW R.map)/\CD6/\L.length=m/\R.length+i=6/\VE/\NV)
def b7P(F:DE2 "_law_names" a0D)(T:AT)(c:AAK)(u:BCO):EOS:=by
 rw[BP sc__law_names e3 J]
 rw[SA a b]
 .rw[ER5]
  rw[BL (AO9 1 sc__law_names.nd A4
 (BU 2 sc__law_names.nd (N5 A6 (BHX (ENM A6 A6 ANO)))
 (A1 (c0h (S9 (A43 ANO (iJ u J.mono a3w (BXF (QN A6 A6 EUR))) ANO)) (M9 K 3 (C2 (CBU 3) (BE5 (CBU 4) (CBU 5)))))
 (A1 (ASZ 6 sc__law_names.nd (N:=D3E) (src:=[none,uW,AU 3,BIQ,AU 5]) (R0 rfl T.b_range NU)
 (gL D3E) A26 (gA _ ((a5L (DS c5e 1 (B47 (DS N5 2 (DS a2W 3 EV)))) (N5 A6 (a2X (WA N5 (AHY a2W) 4) A6))))))
 (eE 7 sc__law_names.nd (A9X B01)
 (A1 (AFA K2 ANO
 (A3 (jN (AOQ (c7f rfl T.b_min (qS 2 (N5 A6 ANO)))) 8 sc__law_names.nd
 (A3 (c0h (uM b0o CUJ (BHX (AB8 (gC 7)))) (DS c7d 6 (MU c J.mono D9K))))))
 B7)
 (BNW BW6)))))))]
  refine fG E7M p1 b1;have q1:QX p1:=E6 hP b1;rw[ZZ (BQ AXH) b1];rw[IU e1 H p1 AXH p1 AXH];have P1:=hP.same s1;have o1:BY3 E40:=s1.off;generalize E40=H1 at s1 e1 P1 o1;refine zM 4 P1 (λr2 H2 _ _ P2 f2=>rX);rw[ES7 b0 d3 4 7 r2 ⟨_,rfl,p1,_,_,_,rfl,rfl,B22 f2 q1 e1,b0,a,b,mi,rfl,P2,AF,yU (A6H (mi<=7)),ETM c6 c7⟩];rw[RT (BRZ ?_)];have o3:=IP o1.trans f2 f3;obtain⟨m,hm⟩:QE m (1+r3=VA):=⟨UC (1+r3),AF⟩;rw[rP v (AG1/\m<=7)]
  rw[hm];clear f2 f3 P1 P2 s1 e1 c6 c7 hm b0 d3;rw[GD (zM 26 P3 (DR g H4 c0 c3 P4 f4)) (fG E7O p5 a0)];have q5:QX p5:=E6 P4 a0;rw[A6Y s5 H4 B0X a0];rw[IU e5 H4 p5 B0X p5 B0X];rw[AD P5 (P4.same s5) o5 (IP o3.trans f4 s5.off)];generalize FB H4 p5 B0X=H5 at e5 P5 o5;refine⟨a,b,p5,_,rfl,P5,e5,q5,AG,AG,DP sv H6 b4 P6 f6⟩;obtain⟨st,b3,rfl⟩:∃st:Int,st∈APG/\sv=V.int st:=by
   rw[AGK x hx (B1F sv (bX (APG).map) b4)];rw[AX x hx e.symm]
  refine zM 8 P6 (DR l H7 c4 c5 P7 f7);have o7:=IP o5.trans f6 f7;rw[HA D0A p8 b2];rw[kQ s8 H7 B0P b2];rw[fW e8 H7 p8 B0P p8 B0P];rw[S1 P8 P7.same s8 o8 o7.trans s8.off];generalize LX H7 p8 B0P=H8 at e8 P8 o8;clear s8 b2 o7 f7 P7 o5 f6 P6 s5 a0 e5 P5 o3 f4 P4 P3 b4;refine⟨p8,_,rfl,GR e8,rfl,_,_,rfl,_,_,rfl,_,[],rfl,rfl,?_⟩;rw[CV (EMM m)];have d5:0<=st/\st<=11:=(AG:∀s∈APG,0<=s/\s<=11) st b3;rw[BUB];rw[EF (a5g (caps:=[CQ5,FP g,CPH,AYL]) (λk=>EZ1) (BNM v.2) rfl (CCC H9 Q9 s9)) H9 C s9 I]
  .rw[AD m1 (Int.emod_lt_of_pos AFJ DHH) m0 (BUX AFJ B96)];rw[AD n1 (Int.emod_lt_of_pos E88 DHG) n0 (BUX E88 (CNU 8))];have c9:atI lts.cps.toList DGH=some DNC:=by
    rw[RV (K4 (c6L DJZ AF)) (jS (EE DJZ) DGH)]
   rw[GD ⟨_,rfl,_,rfl,_,rfl,_,rfl,_,_,rfl,rfl,B9U,_,_,rfl,rfl,_,_,rfl,rfl,BEW (PD<26),lts,_,_,rfl,rfl,ANT 26 0x69b830c3eade6e0edd,c9,?_⟩ ⟨_,rfl,_,_,rfl,rfl,B9U,_,rfl,_,_,rfl,rfl,_,_,rfl,rfl,BEW (PD<8),_,_,rfl,rfl,lS DNC,1+BOG QW l,rfl,?_,B4G 10,AF,q⟩];show pE (1+(QW*3+l) % 8) (ATQ (BOG QW l));congr 1;omega
  have hI:=b8c ⟨c0,c3⟩ b3 ⟨c4,c5⟩ v.2;have c8:(B5B λk=>EZ1)=FQ B5B CFC V.str:=by rw[BHI]
  rw[c8];rw[jV Z (GK B5B CFC) m]
  generalize (List.range m).map CFC=L0 at hI Z;rw[DZ];have P9:=P8.same s9;have q9:QX C:=E6 P9 I;have f9:EJ C:=a5r (o8.trans s9.off) P9 I;rw[GJ a3 s9.upd AYD I];rw[IS G H9 C AYD C AYD];rw[S1 y P8.same a3 M o8.trans a3.off];generalize upd H9 C AYD=X at G y M;rw[HA E7O d r];have D:QX d:=E6 y r;have b9:EJ d:=a5r M y r;rw[IL S X AYE r];have W:C≠d:=A7 G r;have a8:L1 X d AYE d AYE:=A0;rw[AD z (AH S G) a4 (y.same S)];have a1:=M.trans S.off;rw[AJ9 ([US "sum",US "cap",US "price",US "of",US "least",US "step"]=six.map V.str)];rw[DZ];generalize upd X d AYE=d9 at a8 z a4 a1;clear S a3 y M s9 P9 I P8 o8 e8 G r;rw[EA1 (F4F c9D)]
  case fin =>
   rintro σ H' ⟨o8,L,R,rfl,e,hN,U,P',o'⟩;refine IZ rfl C _ rfl (AWA e t ht);exact k t L _ A0 ⟨hN.nd,hN.nm⟩ (~~~b9H v.1 U) (BT 0x4657949b54c2ca58766 v.2 U) (P'.same (AK0 ht)) (o'.trans (AK0 ht).off)
  refine zM 2 a4 (λe7 e0 _ _ a5 B=>BJL nY)
  .refine D1F 3 a5 (DR O e2 d7 d8 b6 Y);rw[AD d6 (IP a1.trans B Y) b7 (ZK Y q9 B q9 z)];have b8:=ZK Y D B D a8;obtain⟨n,hn,d4⟩:QE n ((F1Z)=DO/\n<=3):=⟨UC F1Z,by split<;>omega,by split<;>omega⟩;rw[DA4 ⟨_,_,rfl,rfl,_,_,rfl,n,LZ hn,AF,AF,?_⟩];rw[CF6 (n:=n) (F4F c9C) ⟨_,L0,six,rfl,b7,b8,hI,Z,rfl,b6,d6⟩]
   .rw[F5X o8 L R hN U hR];rw[DZ];have hm:EE R.length<A95:=yU (show GT (BH R.length) by rw[ED 0x33b819d9ca234831dc284996 hR]);refine⟨_,rfl,PV c2,_,rfl,_,rfl,d,_,rfl,PX c2,a,b,_,rfl,P',B4K 0x1e895693d5305e3343a70223b7067 d4 hi hR,DCN,DR r1 H1 e6 a2 P1 f1⟩;rw[List.length_map]at a2;obtain⟨j,rfl⟩:QE j (r1=j):=⟨r1.toNat,AF⟩;have hj:j<R.length:= ~~~b9i a2
    have d2:=AM f1 D c2;have d0:seqIndex? zT (xH R.map)=some j:=by
     rw[AE List.length_map (seqIndex_of A5J AF)]
    refine⟨d,_,_,j,bV R[j],rfl,rfl,d2,AF,AF,d0,SH List.getElem?_map BOD,?_⟩;rw[AD d1 (AM f1 q9 c1) P2 (a8a (o:=AGW) P1 D)];have o2:=b1C (p:=d) (o:=AGW) (o'.trans f1) b9;rw[HC a6 (L1 H1 d AGW C CUT) (A5 W) d1]
    have a7:L1 H1 d AGW d (AQZ R.eraseIdx j):=by rw[A0,c0L]
    generalize A35 d AGW=H2 at P2 o2 a6 a7;refine⟨_,rfl,_,rfl,_,rfl,a,b,m,rfl,P2,BS 0x89ad3f90066d v.1,yU (show VA<=7 by exact b9I v.2),ETM e9 b5⟩;obtain⟨i2,rfl⟩:QE j (r3=j):=⟨r3.toNat,AF⟩;have e4:i2<L.length:= BT 0x46fb2449bf7b0ab5957 U b5
    have a9:ixN (xH L.map) (BH i2)=some i2:=by
     rw[EXK (BT 0xd9612dd1e40fd00fb5957 U b5)]
    rw[GD ⟨C,_,_,i2,rfl,rfl,AM f3 q9 a6,a9,?_⟩ ⟨_,L.set i2 R[j],R.eraseIdx j,rfl,NG A0 List.map_set,JM W.symm (AM f3 D a7),A7U hN.step hj,AJ List.length_set U,KG List.length_eraseIdx (DF hj) (lq 0x111dcda07c2f3348150cd3e55e746204173e77f0bc997 hR a2),a8a P3 q9,b1C (o2.trans f3) f9⟩]
   .rintro σ H' ⟨o8,L,R,rfl,c1,c2,hN,U,hR,P',o'⟩;exact jD ⟨_,L,R,rfl,c1,hN,U,P',o'⟩
  .exact jD ⟨_,L0,six,rfl,AM B q9 z,hI,Z,a5,a1.trans B⟩
#where
def a7y{α:Type}{f:A0R}{Pr:DCE}:∀{ys:AA},ADS (∃x,y=f x/\Pr x)->∃zs:DI,ys=zs.map f/\BU7 zs.length/\∀z∈zs,Pr z
 |[],_=>(RB [] rfl (λz a=>AH7 a))
 |MN,h=>by
  rw[GN x d (h y List.mem_cons_self)];obtain⟨zs,rfl,e,a⟩:=a7y (ys:=ys) λu c=>h u BWZ;rw[FJ (x::zs) rfl AL (λz b=>by rw[cH B2C q];exact d;exact a z q)]
section
variable {P:qG}{w:World}{K:qF}{mg:AZ}{base:Heap}
def a6a{src:OJ}{σ caps:L2.St}{Q:VK}{H:Hp}{a b t:qE}{xs:AA}{te:TE}(R:BZB)(hl:RW)(d:bJ)(k:MO)(l:B39 t)
  (f:F3Y)
  (hd:F57):DJG Itt:=by
 rw[XQ n]
 refine VM T0 t xs (C7W n) (uT EJ3) EWH (E5I (GR (AM (pI h) (L6 k l) l))) ?_ ?_
 .rw[F68 m]
  rw[JR h2 y]
  rw[A8M m]
 rw[F7K]
def c0Q{src:OJ}{σ caps:L2.St}{Q:VK}{H:Hp}{a b t:qE}{xs:AA}{te:TE}(R:BZB)(hl:RW)(d:bJ)(k:MO)(m:uQ t)(l:QX t)
  (f:F3Y)
  (hd:F57):DJG Itl:=by
 rw[XQ o]
 refine VM R1 t xs (C7W o) (uT EJ3) EWH (E5I (B22 (pI h) l m)) ?_ ?_
 .rw[F68 n]
  rw[JR h2 y]
  rw[A8M n]
 rw[F7K]
def SysAt.pot{H H':Hp}{a b:qE}{v:V}{ns:AB}{rows:LLI}{sides:qI}{caps:AO}{prices:qI}(h:C5S)(d:MO)(o:NV):C5T:=by
 obtain⟨c,n,r,t,k,p,m,e,e1,e2,f,l,g,i,j⟩:=h.ex;exact⟨c,n,r,t,k,p,m,e,B53 e1 e1,B53 e2 e2,B53 f f,Its.pot l d o,B53 g g,AM o (L6 d i) i,AM o (L6 d j) j⟩
def a8F{ys:AA}{lo hi:Int}(h:ZF ys (∃x,y=V.int x/\(CEQ))):∃xs:qI,ys=xs.map V.int/\A39 ys.length/\jW CEQ:=a7y h
inductive spSml(vs:AA)(H:Hp)(Q:VK)(y_3:XK):Prop
 |mk (a b:qE) (_:A8U) (_:MO) (_:∀v ns rows sides caps prices H',C5T->B7L->C0N E2J->VE->NV->B2N):HR spSml
def sc__law_small:DDV ["_law_pot_here","_law_names_here","_law_rows","_law_k","_law_sides","_law_caps","_law_prices"] a0C:={}
noncomputable abbrev c9B(a:qE)(t:qE)(pr:qE)(ns:AB)(b:qE)(H:Hp)(i:Nat)(σ:L2.St)(H':Hp):Prop:=∃o3 us rows,σ=[ZL,BWH,EZ pr,o3,none,none,none]/\A0A pr us/\sQ us rows/\rows.length=i/\C0N (AYF ns.length E2J)/\DU7/\VE/\NV
def b7M(F:DE2 "_law_small" a0C)(T:AT)(c:AAK)(l:BCO)(C:EOS):EOV:=by
 rw[BP sc__law_small i4 B]
 rw[SA a b]
 .rw[ER5]
  rw[BL (BU 1 sc__law_small.nd (iJ C B.mono a3x WF)
 (DUT sc__law_small.nd
 (A1 (jN (AOQ (ENM (MU l B.mono (BXF EUR)) E71 E71)) 3 sc__law_small.nd
 (C3B PM (EUF (CDJ
 C89))))
 (BU 4 sc__law_small.nd (EUF (CQ8 "_law_row" (AW2 2)
 (CQ2 "_law_row")))
 (BU 5 sc__law_small.nd (E6V (CDJ
 C89) G0 G0 BRJ)
 (BU 6 sc__law_small.nd (E6V (CDJ
 C89) A6 BRJ (CO3 E48))
 (SX S9 (GI 1 (jaC (AVH NU) (GI 4 (GI 5 BW6)))))))))))]
  rw[RT (VO a b hP (λt ns H1 ht g9 h1 h7 P1 o1=>?_))];rw[fC pr a7];have fr:EJ pr:=a5r o1 P1 a7;have qr:QX pr:=E6 P1 a7;rw[IL s2 H1 ABW a7];rw[IU e2 H1 pr [] pr []];generalize AJZ pr []=H2 at s2 e2⊢;rw[S1 P2 P1.same s2 o2 o1.trans s2.off];have b7:=AH s2 ht;clear s2 a7 o1 P1 ht;rw[CV (fG (ANT 4 0x69714aa7b8086e0edd) p3 b5)];rw[A6Y s3 H2 [AQK,BFP,BFP,DT 2] b5];refine⟨a,b,p3,_,rfl,P2.same s3,A0,E6 P2 b5,cG (0<4),ACZ 4,DP r4 H4 b6 P4 f4⟩;obtain⟨x4,rfl,f1,f2⟩:∃x,r4=V.int x/\SE/\x<=2:=by
   rw[nK b6];rcases b6 with e|e|e|e<;>exact(KS e AG AG)
  rw[AD o4 (IP o2.trans s3.off f4) c8 (A83 f4 (rO s3))];have b8:=AM f4 (L6 (P2.same s3) DO6) DO6;clear s3 f4 b5 b6 P2 o2 b7 e2;refine zM 7 P4 (λr5 H5 f3 g0 P5 f5=>A6F E7M S L);have q6:QX S:=E6 P5 L;rw[A6Y s6 H5 B0E L];rw[IU e6 H5 S B0E S B0E];generalize FB H5 S B0E=H6 at s6 e6⊢;refine zM 8 (P5.same s6) (λr7 H7 _ _ P7 f7=>rX);rw[AD a5 (IP f5.trans s6.off f7) o7 (o4.trans a5)];rw[AD c9 (A83 a5 c8) d7 (yD a5 P4 b8 b8)];rw[ES7 d3 g7 x4 r5 r7 (AX7 S _ (B22 f7 q6 e6) d3 mi rfl AF AF ?_)];obtain⟨m,rfl⟩:QE g (mi=g):=⟨mi.toNat,AF⟩;rw[rP b4 (m<=6)]
  rw[BUB];clear o4 f5 s6 f7 a5 P4 P5 c8 b8 e6 f3 g0 d3 g7 f1 f2;have d9:pr≠t:=dP c9 d7;rw[CF6 (n:=m) (c9B a t pr ns b H) ⟨_,[],[],rfl,c9,.nil,rfl,λr B=>AH7 B,d7,P7,o7⟩]
  .rw[F5X o3 us rows c3 c4 c5];rw[CV (EQM (PV c1) t (LY c5))];refine CDY (CDL D0Y) P' c5 (EZZ 7 0x4a24c03b69da77236 0x2a3eaa4bfa9baf16) F38;rw[EWW xs h9 h8 h9 XG];rw[F5H aR XG aR aR XG aR];rw[AD f8 (f6.trans s8.off) W (A83 f8 c1)];have O:=Its.pot c2 P' f8;rw[GD (BB9 pr us W (KG O.1 c3 (lq 0xcf6601d9b0c9ef07146ae0edf hz b4 hi))) ⟨_,us++[vQ p8],rows++[xs],rfl,A0,(O.snoc (DG p8 e8)).put W,ALC c3,AS r B,JM d9.symm EVF,a8a (P6.same s8) qr,b1C (o'.trans f8) fr⟩];rw[CA (List.mem_append.mp B)]
   rw[JR c4 r]
   .rw[UX];rw[AY AF h8]
  .rintro σ H' ⟨o3,us,rows,rfl,c1,c2,c3,c4,c5,P',o'⟩;have d1:∀{xs:qI}{lo hi:Int},-4<=lo->hi<=4->AYY CEQ->A0G:=λh1 h2 h x hx=>by have:=h x hx;rw[C5Z]
   rw[AI5 pr c1];refine TB c0Q ARB (λu=>CDL (-4<=x/\x<=4)) (AJL c2.1 0x293bb70cc9ff4043074531a6 b4 c3) rfl P' c1 qr (EZZ 9 0x4a2697aa0e7a53236 0x2a5c218b172f7116) F38;rw[EWW j h5 h4 h5 BO9];rw[F5H AYM BO9 AYM AYM BO9 AYM];rw[S1 f8 f6.trans s8.off P8 P6.same s8];rw[AD o8 (o'.trans f8) W (A83 f8 c1)];rw[AD O (Its.pot c2 P' f8) X EVF];clear s7 s8 f8 f6 L a6 P6 c1 c2 c5 P' o' D;rw[CV (ZP t (LY X))];refine CDY (∃o:EM,u=ovI o/\∀x,some x=o->A3V) P8 X (DP v H9 N P9 q) λH9 p9 ys g6 D P9 f9 d6=>?_
   .refine ERO 4 P9 EM8;rw[F4M c0 [V.non,V.non,DT x] a1.same a1 (λr U B a2 b3=>q r U ?_ a2 (kJ b2.trans G.off b3))]
    rw[EFL]
    rw[EFL]
    .rw[AX WM e (λy z=>by cases z;rw[C5Z])]
   rw[EC caps rfl g4 g3 a7y D];rw[BRQ g6 g4 e0 H9 CQ6 d6];rw[oK p9 I p];rw[GJ G e0.upd B09 p];rw[IS a4 ECG I B09 I B09];rw[AY6 ECG I B09 i3 G a4];rw[S1 R f9.trans G.off M P9.same G];rw[AD d8 (o8.trans R) g1 (A83 R W)];rw[AD g2 (Its.pot O P8 R) g5 (yD R P8 X X)];rw[AD g8 (yD R P8 e8 e8) h6 O.1];clear e0 G R f9 d6 p P9 W O X P8 o8 e8 D;rw[CV (ZP t (LY g5))];refine CDY (CDL A3V) M g5 (DP v a0 N a3 q) λa0 b9 ys d2 D a3 d0 a9=>?_
   .refine ERO 6 a3 ⟨_,rfl,_,_,rfl,rfl,EE4,a,b,_,rfl,a1,AG,BK,λy U y1 y2 a2 b3=>EM8⟩;have y2:y<1000000000000:=y2;rw[F4M U [AQK,DT x,DT y] a2.same a2 (λr e5 B e7 f0=>q r e5 ?_ e7 (((b2.trans b3).trans G.off).trans f0))]
    .exact KS e AG AG
    rw[EFY 0xf183a3edc63a3ee515b6e4931e94e16 x2]
    rw[EFY 0x1c83cf3463cd651ff7d57a09fd6a7931745a66437b32bda2a16 y2]
   rw[EC d rfl h3 h0 a8F D];rw[BRQ d2 h3 e3 a0 CPK a9];rw[oK b9 Z b0];rw[GJ a8 e3.upd AYN b0];rw[IS c7 EJD Z AYN Z AYN];rw[AY6 EJD Z AYN b1 a8 c7];rw[S1 J d0.trans a8.off e9 a3.same a8];rw[AD i1 (d8.trans J) j1 (A83 J g1)];rw[AD j2 (Its.pot g2 M J) j5 (yD J M g5 g5)];rw[AD j8 (yD J M g8 g8) i0 (yD J M a4 a4)];clear e3 a8 J d0 a9 b0 a3 g1 g2 g5 g8 M d8 a4 D;rw[CV (AAC pr us rfl (AWA j1 Y d4))];rw[kQ e1 b1 us d4];rw[fW c6 b1 Y us Y us];generalize LX b1 Y us=U at e1 c6⊢;refine AAC _ rfl E7N (AS i2 d5);rw[AD e4 (HE U (o:=FX [IQ,AK Y,AK p8,AE4,AK Z]) d5) ss (e1.trans e4)];refine k _ ns rows j caps d _ ⟨i2,t,Y,p8,I,Z,us,rfl,A0,B1S j5,AH e4 c6,j2.same ss,B1S j8,B1S i0,B1S c7⟩ ⟨g9,h1,h7,BT 0x4657948a7e87d9531a6 b4 c3,λr B=>⟨(c4 r B).1,EI8 EEU⟩,?_,EI8 h4,AF,A5Q (g3 _ hx x rfl),AF,h0⟩ (λr B=>EEU) (e9.same ss) (i1.trans ss.off);rw[KZ 0x10e349568b2565d631a457 hl h6]
#where
#where
section
variable {F W a rss:LLI}{H H':Hp}{P:qG}{base:Heap}{cs:AO}{k:Nat}{mg:AZ}{w:World}
noncomputable def Lst(rss:LLI)(v:qI):Bool:=!(rss.any λu=>! CJ (u=v) && BJF)
structure Srt(rss srt:LLI):Prop where
 ri:DFB
 nd:srt.Nodup
 mem:EG6
def Srt.eq{b:LLI}(h:E3A)(g:C87):a=b:=F0I W3
def a6Z(h:∀r,xN↔C08)(v:qI):Lst rss v=AU5:=by
 unfold Lst;congr 1;rw[Bool.eq_iff_iff,List.any_eq_true,List.any_eq_true];rw[AY (EH9 (aP h u b)) (EH9 (jL h u b))]
def b3W:∀{u v:qI},u.length=v.length->BJF=true->u≠v->yK v u
 |[],[],_,_,ne=>eB rfl ne
 |[],HU,h,_,_=>TJ
 |HU,[],h,_,_=>TJ
 |x::u,y::v,h,a,ne=>by
  unfold Bel at a;rw[List.zipWith_cons_cons,List.all_cons,Bool.and_eq_true]at a;have h1:x<=y:=BU4 QZ;rw[GC x y]
  .rw[DQ];have b:=BF b3W u u v v A04 a.2 λz=>ne (by rw[z]);simp[HT.lexLt,b]
  .have:¬y<x:= BS 6243241540210 h1
   have e':¬y=x:=DVF;simp[HT.lexLt,this,e']
def b3g{α:Type}{m:JN DI}(l:DI)(nil:m [])(snoc:GP l DI v α (m l) (m DEC)):m l:=by
 have:∀r:DI,m r.reverse:=λr=>by
  induction r with
  |nil=>exact nil
  |cons x r a=>rw[AE List.reverse_cons (snoc _ x a)]
 have:=this l.reverse;rwa[List.reverse_reverse]at this
noncomputable def LO(l:LLI):LLI:=l.foldl (λqQ v=>if qQ.any BPH then qQ else A2X qQ) []
def a8S(l:LLI)(v:qI):LO DEC=if ET3 then AL2 else A2X AL2:=by
 rw[A4T LO List.foldl_append]
def c1h(v:qI):Bel v v=true:=WT a1W rfl (Under.refl v)
def b5V{a b c:qI}(h1:B85)(h2:b.length=c.length)(g1:Bel a b=true)(d:Bel b c=true):Bel a c=true :=
 (a1W (h1.trans h2)).mpr (kJ (SN a1W h1) g1 (SN a1W h2 d))
def b4a{n:Nat}:∀(l:LLI),CQ r l BHJ->CQ x AL2 (x∈l)/\∀u∈l,∃x∈AL2,Bel x u=true:=by
 intro l;induction l using b3g with
 |nil=>intro _;rw[AY CVN RE]
 |snoc l v h =>
  intro f;obtain⟨c,d⟩:=h λr g=>f r (aN g);rw[a8S];cases e:ET3 with
  |true =>
   rw[FU];rw[HA (λx b=>aN (c x b)) u a];rw[B7A]
   rw[JR d u]
   .rw[BJ UX List.any_eq_true.mp e]
  |false =>
   rw[A0E];rw[HA AM8 u a]
   .rw[CA (List.mem_append.mp b)]
    .exact aN (c x z)
    .exact C09
   .rw[B7A]
    .rw[MB x h1 h2 (d u z) x C0V h2]
    .rw[UX];rw[AX v BOY (c1h v)]
def b5W{n:Nat}(a:LLI)(hl:C0S a)(i:G6 a)(nd:a.Nodup):∀(l rest:LLI),a=l++rest->AL2=l.filter BLE:=by
 intro l;induction l using b3g with
 |nil=>rw[AO0]
 |snoc l v m =>
  intro rest e;have e':a=l++(A2G v):=by rw[e,List.append_assoc];rfl
  have h:v∈a:=by rw[PQ e']
  have b:C0S l:=λr j=>hl r (DT5 j);obtain⟨f,k⟩:=b4a l b;rw[a8S,List.filter_append,<-m _ e'];have key:(LO l).any BPH=! AU5:=by
   rw[BNA];unfold Lst;rw[Bool.not_not,List.any_eq_true,List.any_eq_true];constructor
   .rw[EI1];rw[DV u (DT5 DPT) ?_];have c:u≠v:=λz=>by
     rw[e']at nd;exact CUS nd u DPT v List.mem_cons_self z
    rw[hb,decide_eq_false c];rfl
   .rw[EI1];rw[Bool.and_eq_true,Bool.not_eq_true',decide_eq_false_iff_not]at hb;have hul:u∈l:=by
     rw[e']at hu;rw[AHM hu]
     rw[OD]
     .rw[bK AKB]
      rw[HQ q hb.1]
      .exfalso;have d:yK u v:=by
        rw[e']at i;have:=(List.pairwise_append.mp i).2.1;exact(List.pairwise_cons.mp this).1 u q
       have h2:=b3W (E47 (hl u (AJ e' C09))) hb.2 hb.1;exact hb.1 (Q5 u v d h2)
    rw[MB x h1 h2 (k u hul) x h1 (b5V (NG (b x (f x h1)) DUG) (E47 DUG) h2 hb.2)]
  rw[key];cases g:AU5 with
  |true=>rw[XR,List.filter_cons_of_pos (p:=BLE) g];rfl
  |false=>rw[xO,List.filter_cons_of_neg (p:=BLE) (B15 g)];simp
section
variable {K:qF}
inductive IspAboveL(vs:AA)(H:Hp)(Q:VK)(E:XK):Prop
 |mk (l:qE) (y:V) (fs:AA) (fss:LLI) (ys:qI) (_:QQ GV y) (_:DTW) (_:DOV) (_:fV) (_:CQ f fss D8R) (_:rG DR5):GX IspAboveL
noncomputable def a9s:Sp:=HS IspAboveL
def sc_above_any:DJ ["some","one","other"] (uC "some") a1d:={}
def a6B(F:AKH "above_any" a1d "some")(T:AT)(b:CCS):EP2:=by
 rw[BP sc_above_any n c]
 rw[ADX l y fs fss ys]
 .obtain⟨l,y,fs,fss,ys,rfl,hl,hI,hy,hL,k⟩:=h;rw[BL (A1 (B65 2 sc_above_any.nd
 (A3 (C3 (J7 K (kA c.mono (A81 KB)))
 VW
 B7)))
 VW)]
  rw[F16 [B2G,BNL,o] (HX ((EDC i))) (OB σ (by obtain⟨_,_,s',_⟩:=h;rw[zQ (zS hl)]))]
  .rw[F4X];rw[EC r c d g hI.mem hx];have j:(EDC AR)=AN4:=by
    rw[EOB d]
   rw[CV (BC0 x y r ys (g.same s') (hy.same s') (hL r c) (λH2 m=>pR))];cases e:AN4 with
   |false =>
    rw[e]at j;exact C1 (SI (s'.trans m) j)
   |true =>
    rw[EB0 m (show LU DR5 from DCX r c e)]
  rw[F6E]
inductive IspLeastOf(vs:AA)(H:Hp)(Q:VK)(E:XK):Prop
 |mk (p:qE) (us:AA) (rss:LLI) (n:Nat) (_:fD) (_:ACX p) (_:OI) (_:us.length<64) (_:OE) (_:YC) (_:C20) (_:∀q zs srt H',BG->Srt rss srt->BHW->ASM (DCK DF6)->wC):GX IspLeastOf
noncomputable def a6M:Sp:=HS IspLeastOf
def sc_least_of:VC ["some","found","one"] "some" a2o:={}
def a9R(F:RQ "least_of" a2o "some")(T:AT)(c:EP2):EOT:=by
 rw[BP sc_least_of a6 m]
 rw[pG p us rss n]
 .obtain⟨p,us,rss,n,rfl,hp,hI,hl,hn1,hn2,hR,k⟩:=h;have hu:=m.u60;rw[RX hz]
  rw[BL (eE 1 sc_least_of.nd jaN
 (A1 (jN (F8 K (c0m P w rfl T.b_sorted (ER (A70 (c3H K P w hu) T.b_set)))) 2 sc_least_of.nd
 (A3 (AOF (iJ c m.mono a3w BZ5)
 (B78 JD NU)
 B7)))
 (BNW KB)))]
  rw[fC g N];rw[ZZ ABW N];rw[IU e1 H g [] g []];rw[xT (cC g []) e1];rw[CV (ZY true p us rss rfl (GR AKP) (hI.same s1) (~~~a8v hl) (DR a xs ha M j W))];rw[AD t (s1.upd (o:=xU) ha) C (AVY (o:=xU) ha)];rw[IS e2 H1 a xU a xU];rw[A7T (AK7 H1 xU) t C e2];have a3:DFS:=by
   have:=Tab.nodup_le (xs.map (·.1)) rss M λr m=>aP j r m;rw[List.length_map,<-HP]at this;rw[ZO 0xc2f79b59ec5597a02a6 hl]
  refine⟨a,xs,rfl,e2,λx L=>(W x L).same C,λx L=>AJ (hR HZ (SN j HZ (List.mem_map.mpr (XO x L)))) hn1,a3,λl zs b B d O a2=>?_⟩;have S:C87:=⟨a2,O.symm.nodup M,λr=>A7V O.mem_iff (j r)⟩;rw[GJ s3 t.upd CJE B];rw[IU V H2 l zs l zs];have D:upd H2 l CJE g=BV .lst []:=K5 DHU B;have d:=rQ d.same AK1 zs B;have a5:l≠g:=oV DHU B;generalize VB l zs=H3 at s3 V D d;have J:C0S b:=λr m=>hR r (DU5 m);have a4:GT zs.length:=by
   have:=Tab.nodup_le b rss S.nd λr m=>DUM m;rw[kH];rw[<-HP]at this;rw[ZO 0x236dfbe0ba9248687a02a6 hl]
  have Y:EJ g:=N;rw[BQE l V];refine VM O5 l zs (cE σ (Ex2 λo2 fs=>An5 (σ=E0B o2) (Off [g] H3 H') (A0A g fs) (sQ fs AIO) (fs.length<=i))) ⟨none,[],rfl,yG,D,.nil,BO⟩ (OB σ (by obtain⟨_,_,_,o',_⟩:=h;rw[zQ (XE o' a5 V)])) ?_ ?_
  .rintro i x σ H' L ⟨o2,fs,rfl,off,G,hIf,hfl⟩;rw[EC r m a0 a1 d.mem L];have Z:BW7:=IB L;have R:IT H' x r:=by
    rw[GN xa U a1];rw[PZ xa (XE off (dP U D) U)]
   have X:∀f∈AIO,D8R:=λf G=>by
    have:=(b4a (n:=n) (b.take i) λr m=>J r (List.mem_of_mem_take m)).1 f G;rw[AE (J f (List.mem_of_mem_take this)) hn2]
   have y:LO (b.take AR)=if EEY then AIO else AIO++[r]:=by
    rw[DE List.take_add_one a0 (BX a8S)]
   rw[CV ⟨_,rfl,_,rfl,g,x,fs,_,r,rfl,G,hIf,R,X,DUV⟩];cases e:EEY with
   |true =>
    rw[e,FU]at y;rw[LD ⟨_,fs,rfl,off.trans t.off,AHA G,?_,AJN hfl⟩];rw[BJ y hIf.same t]
   |false =>
    rw[e,XR]at y;have I:=AH t G;rw[WL ⟨_,rfl,PV I,_,rfl,g,_,_,rfl,rfl,I,~~~lq 0xd4c0c82003e0da3e889e33f0ae923d0 hz a4 hfl Z,?_⟩];refine⟨_,fs++[x],rfl,B5A off.trans t.off,A0,?_,B19⟩;rw[AE y (Its.put ((hIf.same t).snoc (R.same t)) I)]
  .rintro σ H' ⟨o2,fs,rfl,off,G,hIf,_⟩;rw[oN kH hIf];refine IZ rfl g fs rfl (C8E G);rw[kQ s4 H' fs hq];refine k q fs b _ ((a9y s3 Y off).trans s4) S A0 ?_;rw[QV e (b5W (n:=n) b J S.ri S.nd b [] AL) e hIf];have e2:(DCL (Lst b v))=DCL DF6:=by
    rw[ER0 S.mem]
   rw[e2]at hIf;exact hIf.same s4
#where
def Wk.inv1{L:LLI}(h:kY)(e:k=1):EU8 B9W (F=C3L) (W=L):=by
 induction h with
 |one ri nd h=>exact FY ri nd h rfl
 |more h _ _ _ _ _=>rw[LF C53]
def Wk.inv2{L:LLI}{k':Nat}(h:ZH F W L k'):∀k,k'=BZ->1<=k->∃a c b,ZH a c b k/\B2S/\EU8 (∃u∈b,CJA a) (F=a++C3L) (W=c++L):=by
 cases h with
 |one ri nd h=>intro k e d;omega
 |more h ne ri nd f =>
  intro k e d;obtain rfl:_=k:=Nat.succ.inj e;exact⟨_,_,_,h,ne,ri,nd,f,rfl,rfl⟩
def Wk.det{rss:LLI}{cs:AO}:∀(k:Nat) {F W L b c a:LLI},kY->ZH b c a k->F=b/\W=c/\L=a
 |0,_,_,_,_,_,_,h,_=>pY C53
 |1,F,W,L,b,c,a,h,g=>by
  obtain⟨d,e,f,i,j⟩:=h.inv1 rfl;obtain⟨l,m,n,o,p⟩:=g.inv1 rfl;rw[F6R]
 |k+2,F,W,L,b,c,a,h,g=>by
  obtain⟨r,w,t,a0,_,d,e,f,i,j⟩:=E6E h.inv2;obtain⟨s,x,u,q,_,l,m,n,o,p⟩:=E6E g.inv2;rw[GN rfl rfl (Wk.det BZ a0 q)];rw[F6R]
def Wk.back{L:LLI}(h:kY):∀st,1<=st->st<=k->∃a c b G R,ZH a c b st/\W=c++R/\F=a++G/\TH G (BH st<v.sum)/\(st<k->B2S):=by
 induction h with
 |@one L ri nd h =>
  intro st h1 h2;have:st=1:= B6K 0x11c517f498d7b6272468e6d
  rw[X1];rw[F3E (.one ri nd h)]
 |@more F W L L' k h ne ri nd d i =>
  intro st h1 h2;rw[GC st BZ]
  .rw[DQ];rw[F3E (.more h ne ri nd d)]
  .obtain⟨a,c,b,G,R,g1,g2,g3,g4,g5⟩:=i st h1 (~~~b2e h2 e);refine⟨a,c,b,G++L'.filter C0R,R++L',g1,DC4 g2,DC4 g3,dE g,AKK⟩
   .rw[CZO]
    rw[JR g4 v]
    .rw[XU hu hx (aP d v (dL z))];have:=(b7Y (h.lv.1 u hu) hx).sum;rw[MW this]
   .rw[CS e2 st k]
    .subst e2;rw[BUK f h g1];rw[EX f ne]
    .exact g5 AF
def Wk.stop{b d c:LLI}{st:Nat}(h:kX)(g:ECJ d):st<=k:=by
 rw[C23 a];obtain⟨i,j,L2,G,R,g1,_,_,_,f⟩:=g.back k C53 (hY b8X);rw[BUK e h g1];exact f (bE 157932406998) e.symm
def c7X{b c:LLI}{st:Nat}(h:kX)(g:ECJ a):BN4 W.length:=by
 obtain⟨f,i,L2,G,R,g1,d,_,_,_⟩:=h.back st DLH (h.stop g);obtain⟨_,e,_⟩:=C4L g1;rw[d,e,List.length_append];exact b8N
def b6g{b:LLI}{st:Nat}(h:kX)(g:ZH a b [] st):F=a/\W=b:=by
 have e:k=st:=Nat.le_antisymm (g.stop h) (h.stop g);rw[DQ];obtain⟨e1,e2,_⟩:=C4L h;rw[AY e1 e2]
def c4L{α:Type}[DJH]:F3I
 |[],b,_,_=>IC
 |eW,b,e,h=>by
  rw[F6Q c4L]
def a6X{a:Int}(h:kX)(f:BH W.length<=a):¬Over rss cs a:=by
 rintro⟨u,A,y,st,g,r⟩;have b:=c7X h g;rcases r with q|⟨ne,d,nd,p,q⟩
 .exact lq 0x62c1df18c6ef38758 f b q
 .have hst:=h.stop g;have c:st<k:=by
   rw[CA (Nat.lt_or_ge st k)]
   rw[OD]
   .have e:st=k:=Nat.le_antisymm hst z;rw[DQ];rw[BUK e g h];rw[HI e ne]
  obtain⟨w,B,L2,G,R,g1,m,_,_,_⟩:=h.back (st+1) eI c;obtain⟨t,i,x,a0,_,_,_,j,_,l⟩:=g1.inv2 st rfl DLH;rw[GN rfl rfl (C4L a0)];have n:d.length<=L2.length:=c4L d L2 nd λv s=>WT j v (p v s);have o:W.length=i.length+L2.length+R.length:=by rw[m,l,List.length_append,List.length_append]
  exact lq 0x6c7b61b5f81e7a5af75e90333117e1ae375b f q n o
def gdx{a b:qI}(h:B85)(e:∀j,j<b.length->ADE a.getD b.getD):a=b:=by
 rw[EOC h h1 h2 e h2];rw[C62 (MX h1) DAI this];rw[A7O]
noncomputable def a7z(a b:qI):qI:=List.zipWith (λa b=>a+b) a b
noncomputable def a8W(c:Int)(r:qI):qI:=r.map λz=>c*z
noncomputable def TgA:qI->LLI->qI->qI
 |qQ,B8S,sL=>D0Q (EQD c)
 |qQ,_,_=>qQ
def a2E(a b:qI)(h:B85):LB a7z a b=b.length:=by unfold a7z;rw[AE List.length_zipWith (lq 0x790e0edda45b5c900756 h)]
def M4(c:Int)(r:qI):LB a8W c r=r.length:=A56
def b2P(a b:qI)(h:B85)(j:Nat):(a7z a b).getD j 0=MY a.getD+MY b.getD:=by
 unfold a7z;rw[List.getD_eq_getElem?_getD,List.getD_eq_getElem?_getD,List.getD_eq_getElem?_getD,List.getElem?_zipWith];rw[XT BX0]
 .rw[MX c,MX (~~~a8s h c)];rfl
 .rw[AEK c,D4L (~~~b9f h c)];rfl
def b2N(c:Int)(r:qI)(j:Nat):(a8W c r).getD j 0=c*AKW:=by
 unfold a8W;rw[List.getD_eq_getElem?_getD,List.getElem?_map,List.getD_eq_getElem?_getD];cases r[j]? with
 |none=>show PD=c*0;rw[XW 5734523507254]
 |some z=>rfl
def b4c(a r:qI)(h:BIG r.length):a7z a (a8W 0 r)=a:=by
 refine gdx (by rw[DE (BNJ DOA) M4 h.symm]) λj _=>?_;rw[FK (AH b2P DOA) b2N lq 0x96e235d25032]
def b3Z{n:Nat}:∀(rss:LLI) (cs qQ:qI),C20->BYA->iQ TgA qQ rss cs=n
 |[],cs,qQ,_,h=>by cases cs<;>exact h
 |B8S,[],qQ,_,h=>h
 |B8S,sL,qQ,a,h=>by
  have h1:=a r (List.mem_cons_self ..);exact b3Z rss cs _ (CBQ a) (pX (EBZ h h1) M4 h1)
def a7n{α:Type}{xs:DI}{i:Nat}{x:α}(h:aA):xs.drop i=x::xs.drop AR:=by
 rw[QC (List.getElem?_eq_some_iff.mp h)];rw[List.drop_eq_getElem_cons h1,h2]
def c7u{xs:qI}{j:Nat}(h:kN):DAS∈xs:=by
 rw[E3U CUR h]
def b2D{n:Nat}(j:Nat):∀(a:LLI) (cs qQ:qI),BYA->CQ t a DAH->EUS qQ (MY qQ.getD+dot CCL cs)
 |[],cs,qQ,_,_=>by cases cs<;>simp[TgA,dot]
 |t::a,[],qQ,_,_=>xX TgA dot
 |t::a,sL,qQ,b,d=>by
  have h1:=d t List.mem_cons_self;show EUS (a7z qQ (a8W c t)) _;rw[b2D j a cs _ (pX (BNJ ED1) M4 h1) (λq e=>d q AKA),AH b2P ED1,b2N,List.map_cons,a1C,Int.mul_comm c];rw[XW 0x30b37140943e4c8e]
def b3R{B:Int}:∀(a c:qI),CQ x a (x<=B)->CAP->BIG c.length->DL0<=B*c.sum
 |[],[],_,_,_=>B3N
 |eW,y::c,d,e,h=>by
  rw[a1C,List.sum_cons,Int.mul_add];rw[AD h1 (b3R a c DLY DLZ A04) h2 (EYR Int.mul_le_mul_of_nonneg_right)];rw[B8C 0x819f37ab26efaec6aa]
noncomputable abbrev tgl(n:Nat)(qP:LLI)(c:qI):qI:=TgA jZ qP c
noncomputable abbrev fre(m:Nat):AO:=BZV none
def a1R(m:Nat):GK fre m=m:=List.length_replicate
def b2K(n j:Nat):cB n PD getD j 0=0:=by
 rw[List.getD_eq_getElem?_getD,List.getElem?_replicate];split<;>rfl
def b2R(h:iY qP DAH)(c:qI):iQ tgl n qP c=n:=b3Z qP c _ h List.length_replicate
section
variable {K:qF}
inductive IspNought(vs:AA)(H:Hp)(Q:VK)(E:XK):Prop
 |mk (n:Int) (_:DBN) (_:OE) (_:YC) (_:A14 (ABN n.toNat)):GX IspNought
noncomputable def a4P:Sp:=HS IspNought
def b4r:CBY a4W:={}
def b4N(F:C0B "nought" a4W):CC2:=by
 rw[BP b4r a d]
 rw[BBO n]
 .rw[F5A c7h BNO]
  rw[F5Y (nS 0)]
  rw[DZN]
  rw[ELI c0H (DG q e)]
inductive IspZip(g:A0Z)(vs:AA)(H:Hp)(Q:VK)(E:XK):Prop
 |mk (x:_) (y:_) (xs:_) (ys:_) (_:C81) (_:AOD) (_:fV) (_:RW) (_:ASN (IT H' v (List.zipWith g xs ys))):E4S
noncomputable def c4A(g:A0Z):Sp:=λvs H Q E=>E4S
def c1T:E25 b1m:={}
def c2W(F:IJ "plus" b1m AWC)(T:AT):EO2:=by
 rw[BP c1T d j]
 rw[BCB]
 .rw[F75 c];rw[GF (eM (CCY
 BAC) (AMS N5))]
  rw[EXU (C1Q (x+y)) c e];rw[C9R a7x (x+y)];rw[B99 c e c]
inductive IspTimes(vs:AA)(H:Hp)(Q:VK)(E:XK):Prop
 |mk (m:Int) (x:V) (xs:qI) (_:QQ AHF x) (_:AOD) (_:RW) (_:0<=m) (_:m<WX) (_:A14 (xs.map λz=>m*z)):GX IspTimes
noncomputable def b2Y:Sp:=HS IspTimes
def b6C:B8X "many" "many" a7R:={}
def b7I(F:AKH "times" a7R "many")(T:AT):EM2:=by
 rw[BP b6C c g]
 rw[AAG m x xs]
 .obtain⟨m,_,xs,rfl,⟨a,rfl,ha⟩,b,m0,m1,k⟩:=h;rw[GF (eM (ZQ "a" "many" gO BLG
 (gL ["a","many"])) (DS a2W 1 EV))]
  rw[EL3 (a9b (caps:=[AW4]) (λz=>DT (m*z)) b (aK ha) rfl (λx H1 e _ _ q=>EXY B9U)) d];rw[BAM (AEC (DT (m*x))) (GS (AEC (m*x)))];rw[B99 b d b]
inductive IspTog(vs:AA)(H:Hp)(Q:VK)(E:XK):Prop
 |mk (t c:qE) (us:AA) (rss:LLI) (cs:qI) (n:Nat) (_:vs=[IQ,MH,qT]) (_:B62) (_:OI) (_:AFT c cs.map) (_:OE) (_:YC) (_:C20) (_:(CQ c cs (0<=c/\c<WX))) (_:ASN (IT H' v (TgA jZ rss cs))):GX IspTog
noncomputable def c4B:Sp:=HS IspTog
def sc_together:DJ ["told","counts","width","whole","one","many"] BSM a2j:={}
def a9K(F:IJ "together" a2j BSM)(T:AT)(d:CC2)(g:EM2)(k:EO2):EON:=by
 rw[BP sc_together N y]
 rw[A1P t c us rss cs n]
 .obtain⟨t,c,us,rss,cs,n,rfl,ht,hI,hc,hn1,hn,hR,hC,kk⟩:=h;rw[BL (BU 3 sc_together.nd (BXH d NU)
 (A1 (BBW CM2 4 sc_together.nd 5 sc_together.nd
 (A3 (DE6 5
 (A3 (lK 3 sc_together.nd (BXH k (qS 3 (BXH g (GI 5 A88))))))
 B7)))
 (BJ1 3)))]
  refine mF _ rfl (~~~a8u hn1) (~~~b8E hn) (A7I R B);rw[BUE B];rw[CV (xC true true t c (B3Q ht) (B3Q hc))];refine c4f (k1:=true) (k2:=true) (xs:=us) (zs:=bX cs.map) (cE σ (Ex4 λv J L qQ=>An5 (σ=[BWH,EZ c,FP n,SK,J,L]) BG (BFH qQ) BYA (TgA qQ (rss.drop i) (cs.drop i)=DXD)))
   ⟨R,none,none,_,rfl,s1,B,List.length_replicate,rfl⟩ (AUC σ (by rw[BUV s'];rw[AY (B4Y ht) (B4Y hc)])) ?_ ?_
  .rintro i x z σ H' q hx hz' ⟨v,J,L,qQ,rfl,s',hv',hal,hT⟩ hq;rw[lO j u U7 hz'];obtain⟨r,y,D,ra,rfl,hra⟩:=hI.mem hx;rw[AD l (hR r y) m (ML hC j u)];rw[a7n D,a7n u]at hT;refine A4R q AWX A0 iN (nS j) rR [];rw[AD C (s'.upd (o:=FX AWX) hq) p (hv'.same (AK0 (o:=FX AWX) hq))];generalize LX H' q AWX=W at C p;rw[CV B9A]
   .rw[GD ⟨_,rfl,_,rfl,_,rfl,j,iN,r,rfl,DG ra (AH C hra),CA5 l,m.1,m.2,DD S X M G⟩ ⟨v,S,qQ,_,rfl,p.same M,G,CA5 hal,DD U Y O I⟩];exact⟨U,_,_,a7z qQ (a8W j r),rfl,IP C.trans M O,I,KG (EBZ hal l) M4 l,hT⟩
   .have e0:j=0:=by
     have:¬0<j:=B6N;rw[ZO 0x366b995ee82d053a521dc3236 m.1]
    subst e0;change TgA (EQD 0) _ _=_ at hT;rw[b4c qQ r (~~~b2g hal l)]at hT;exact⟨v,_,_,qQ,rfl,C,p,hal,hT⟩
  .rintro σ H' ⟨v,J,L,qQ,rfl,s',hv',hal,hT⟩;have e:qQ=DXD:=by
    rw[<-hT,List.length_map,HP];by_cases h:rss.length<=cs.length
    rw[EHJ BW5 cs.drop rss.length]
    rw[EHJ (Nat.min_eq_right (~~~b8X h)) rss.drop cs.length]
   rw[DQ];exact CD (AM kk s' hv')
#where
noncomputable def Tk(H H':Hp):Prop:=∀c xs,YP c HO.tup xs->cI c xs
def Tk.trans{a:Hp}(h:AOM)(g:Tk H' a):Tk H a:=λc xs e=>g c xs (h c xs e)
def Tk.same(s:BG):AOM:=λc xs e=>s c _ e
def Tk.put{c:qE}{xs:AA}{o:HO}(e:uQ c):Tk H BP6:=λd ys q=>CX9 e
def Tk.it(h:AOM){v:V}{r:qI}(g:B7D):IT H' v r:=jK a e q g a e (AH h q)
def Tk.its(h:AOM){vs:AA}(g:TU):AMV:=⟨XN,PP v (jK r e1 e2 (aS i v e) r e1 (h.it e2))⟩
section
variable {K:qF}
def c7p(a:LLI):GK IK a=a.length:=A56
def b3x(v:qI):EKV v.map v.map:=DDR
def mem_IK{v:qI}:v.map BRS∈IK a↔v∈a:=by
 rw[EY IK List.mem_map];constructor
 .rw[AFP u hu];rw[EX (a8G e) hu]
 .intro h;rw[AX v h rfl]
def c0G(n:Nat)(x:Int)(h:ACI (fre n)):SE:=nomatch List.eq_of_mem_replicate h
structure NarC(qP:LLI)(row:qI)(most:Nat)(cts fss:LLI):Prop where
 ri:G6 cts
 wk:∃F W k,cts.Perm F/\Wk BC7 B9C F W [] k/\B73
 ex:∃mss srt,mss.Nodup/\(A6B mss (∃c∈cts,AOY=v))/\Srt mss srt/\fss=DCK (Lst mss v)
def NarC.one{n d f b:LLI}{l:qI}{i c:Nat}(h:NarC n l i d f)(g:NarC n l c a b):f=b:=by
 obtain⟨F,W,k,p,u,_⟩:=h.wk;obtain⟨z,A,k',p',w,_⟩:=g.wk;rw[IG rfl (b6g u w)];have e:d=a:=W3 h.ri g.ri (p.symm.nodup u.nd.2) (p'.symm.nodup u.nd.2) λv=>p.mem_iff.trans p'.mem_iff.symm;rw[DQ];obtain⟨s,t,_,y,S,rfl⟩:=h.ex;obtain⟨j,m,_,q,o,rfl⟩:=g.ex;have x:∀r,r∈s↔r∈j:=λv=>BMQ y q;have es:t=m:=cL S.eq o.ri o.nd (λr=>IP o.mem r (ZJ x r));subst es;rw[ER0 x]
def b0P{d:LLI}{a:Nat}(e:d.Perm F)(f:kX)(b:W.length<=a):d.length<=a/\oX d (c.length=cs.length/\CAP/\c.sum<=BH a+1):=by
 obtain⟨o,h,j,l,p,q,m,r⟩:=f.lv;rw[HA (AJ e.length_eq (a5y b l)) c g];obtain⟨i,q1,n,lv⟩:=h c (j c (e.mem_iff.mp g)).1;rw[AX lv.len lv.nn (AJ lv.sum (lq 0x19cb1b22f9133c8b4c1d8 b m n))]
inductive IspNarrow(D:qE)(vs:AA)(H:Hp)(Q:VK)(E:XK):Prop
 |mk (t r:qE) (zs:AA) (qP:LLI) (row:qI) (most:Nat) (mi:Int) (_:DQP IQ r) (_:B8R) (_:bU t zs) (_:AZN) (_:AFT r row.map) (_:1<=row.length) (_:QG row.length) (_:zs.length<=63) (_:C7C) (_:(TH qP (AFU row.length (Sm v)))) (_:Sm (qP.map (dot row))) (_:(∀q f g fs fss cts H',BG->ADD [cF,dH]->cI f fs->sQ fs fss->EQA cts fss->wC)) (_:BAL (C7L BC7 B9C)):AF7 IspNarrow
noncomputable def a9n(D:qE):Sp:=B3K IspNarrow
def sc_narrowed:DJ ["told","row","most","totals","first","counts","found"] BSL a2n:={}
def a9Q{j:qE}(F':IJ "narrowed" a2n BSL)(T:AT)(n:BBZ)(G:BAT)(m:EON)(l:EOT)(p:BCK j):EP7 j:=by
 rw[IH F'.okE sc_narrowed f4 X]
 rw[xV t r zs qP row most mi]
 .obtain⟨t,r,zs,qP,row,most,_,rfl,rfl,ht,hI,hrw,r1,r2,hzl,hmo,hT,hS,kq,ke⟩:=h;have hu:=X.u60;rw[A4H 30000]
  rw[BL (BU 3 sc_narrowed.nd (eM (C8K "row"
 (A8V "row")) (MU n X.mono yN))
 (AO9 4 sc_narrowed.nd b3D
 (BWW (jN (G7 K (uG (a1Q p (WD X.mono a8l) rfl (jaC (S9 pB) (jaC (MU G X.mono (ER AG8)) NU))))) 5 sc_narrowed.nd
 (A3 (G5 (c3R hu AVW (iJ m X.mono a8m (GI 0 (qS 5 XL))) yF))))
 (BU 6 sc_narrowed.nd (A8 l (uL X.mono 176430604) rfl (ER (b5k rfl T.b_tuple A88)))
 (SX S9 (qS 6 (eM (ZQ "one" "first" BIQ (tL G7 6)
 (A8V "first")) (X2 hu JD (jv 0)))))))))]
  rw[B5S t ht];rw[EF (TB a7A [EZ r] (λv=>EBD) (BS 0x69c5bc7698434e96a5 hzl) (aK ht) hI rfl (λv u H1 Q1 d9 L s1 q=>?_)) H1 p1 s1 d4]
  .exact AZY (AK r) v row u (DG r (HH hrw)) L C3X (hT u d9).2 (λH2 s2=>q H2 s2)
  rw[BAM (qP.map λv=>EBD) BFK];rw[oK p1 pt d7];rw[GJ s2 (s1.upd (o:=CPL) d4).upd AYP d7];rw[IS e2 E5S pt AYP pt AYP];rw[yB E5S pt AYP H2 s2 e2]
  rw[AA3]
  intro d hd
  rw[AA3]
  have c8:EJ d:=s2.free hd;rw[AD a3 (HE H2 (o:=AEE) hd) s3 (s2.trans a3)];rw[EZ4 e3 H2];have e2:=AH a3 e2;generalize W1 H2 d .dT []=H3 at s3 a3 e3 e2;refine fG E6C p4 d5;rw[AD M (HE H3 (o:=FX AHX) d5) s4 (s3.trans M)];rw[fW e4 H3 p4 AHX p4 AHX];rw[AD e2 (rO M) a6 (AH M e3)];generalize LX H3 p4 AHX=H4 at s4 M e4 e2 a6;refine BTO t (B1R ht) A5J (BS 0xecea926b025a3c596a5 hzl) (DD ca H5 s5 a9);rw[Int.toNat_natCast,HP]at a9;have d2:qP.length<=63:=by rw[EX HP hzl]
  have Y:SyAt H5 p4 ca BC7 (fre qP.length):=⟨⟨AHX,DME,Its.nil.snoc (DG pt (rO s5)),AL⟩,a9,IC,AJ a1R d2,λr' d8=>by
   rw[CU4 d8,a1R,List.length_map];rw[AY rfl hS],c0G _⟩
  refine F26 p4 ca _ B9C (λq t0 pp ys I ws Fl W k H6 s6 hq b4 J b3 e0 f7 f5 hW U=>?_) (λH6 s6 ho=>ke H6 (IP s4.trans s5 s6) ho);rw[S1 b8 s5.trans s6 f3 s4.trans b8];have c3:=AH b8 a6;obtain⟨D,b0⟩:=b0P b3 hW U;have a8:DPO qP:=λv L=>jR hT L;refine⟨q,_,0,_,rfl,rfl,D7P,rfl,t0,rfl,LY b4,?_⟩;refine VM b3N t0 ys ((λi σ H'=>Ex3 λ(o5:qD V) (qL:qA (qA Key×V)) (g:LLI)=>An9 (σ=[some (.ref t),some (.ref r),some (.int most),some (.ref pt),some (.ref d),o5,none]) (Same H H') (Tk H6 H') (H' d=some (.dT qL)) (qL.map (·.1)=IK g) (g.Nodup) (g.length<=i) ((∀v,v∈g↔∃c∈I.take i,tgl row.length qP c=v)) (∀v∈g,∃y,J3 qL (v.map Sum.inl)=some y)))
   ⟨none,[],[],rfl,f3,C8R,c3,rfl,List.nodup_nil,BO,AL,AH8⟩ (OB σ (by rw[BUV tk];exact SqT.of (AH tk b4))) ?_ ?_
  .rintro i x σ H7 hx ⟨o5,qL,g,rfl,s7,tk7,ed7,hk,hnd,hml7,hmem,hfir⟩;rw[EC c c5 c6 c7 J.mem hx];rw[aQ xa a1 id c7];have d0:D7H:=DAP;have f1:=J.1;obtain⟨_,R,f6⟩:=b0 c c5;rw[pM b5 (I.take AR=I.take i++[c]) List.take_add_one c6]
   have d1:qL.length=g.length:=by rw[<-c7p g,<-hk,List.length_map]
   rw[AA3]
   refine⟨_,rfl,d,rfl,DH ⟨qL,CW ed7⟩,_,rfl,_,rfl,_,rfl,r,_,rfl,WN (BVA hrw),t,xa,zs,qP,c,row.length,C05,BVA ht,hI.same s7,AH tk7 a1,r1,C3X,a8,DHX,DD v8 H8 s8 e6⟩
   .rw[AA9 R y hy (b8b R y hy)];omega
   rw[GN va e7 e6];rw[AD B (AH s8 ed7) b9 (s7.trans s8)];have a5:=tk7.trans (Tk.same s8);refine ZY qL (BN3 (cD tgl row.length qP c)) va B rfl (AJ b3x e7) (~~~lq 0x43a56f5014793364c012e5d4bccf8d190343d41a7e8e339bf42ab hmo hz D hml7 d0 f1 d1) (AS v' e1) (KW hn)
   .have hin:AOY∈g:=B1U mem_IK.mp hk b2O e1;refine⟨_,qL,g,rfl,b9,a5,B,hk,hnd,AJN hml7,KW v,hfir⟩;rw[hmem v,b5];constructor
    .rintro⟨c',h1,h2⟩;rw[AX c' C0V h2]
    .rw[ERB]
     .rw[AX c' z rfl]
     .rw[UX];exact aP hmem _ hin
   .have hni:AOY∉g:=λz=>a8X hn (HG hk mem_IK.mpr z);refine⟨_,_,g++[AOY],rfl,GW o (AJ (AWH c8) (NE b9)),AG4 (JM (L7 DJ0 B gW) DJ0),A0,by rw[a5i _ hn,List.map_append,hk];rw[C2L IK],a8j hnd hni,by rw[wI];show aT<=_;exact b3r hml7,KW v,dE L⟩
    rotate_left
    .rw[dR b6i ev v AOY]
     .rw[if_pos (by rw[ev])];exact OZ
     .have L:B4O:=by
       rw[CA (List.mem_append.mp L)]
       rw[OD]
       .exact pA List.mem_singleton.mp z ev
      rw[AE (BA (nB ev a8G)) (hfir v L)]
    rw[List.mem_append,hmem v,b5,List.mem_singleton];constructor
    .rintro(⟨c',h1,h2⟩|rfl)
     .rw[AX c' C0V h2]
     .rw[AX c AL rfl]
    .rw[ERB]
     rw[GE (XO c' z)]
     .rw[BJ UX .inr rfl]
  .rintro σ H7 ⟨o5,qL,g,rfl,s7,tk7,ed7,hk,hnd,hml7,hmem,hfir⟩;rw[oN J.1 hmem];rw[J.1]at hml7;have d3:DPO g:=λv L=>by
    rw[dZ c (aP hmem v L)];exact b2R a8 c
   refine⟨_,rfl,d,qL,g,rfl,ed7,hk,DD p8 ms d6 C⟩;rw[kQ O H7 ms d6];rw[fW e8 H7 p8 ms p8 ms];rw[S1 s8 s7.trans O C C.same O];have B:=AH O ed7;generalize LX H7 p8 ms=H8 at s8 O e8 C B;refine⟨p8,ms,g,row.length,rfl,e8,C,AJ C.1 (lq 0x414e704f0493d4920f682a7 hmo D hml7),r1,C3X,d3,λp9 fs a4 H9 c0 S e9 a0=>?_⟩;rw[AD s9 (s8.trans c0) c4 (AH c0 B)]
   rw[AA3]
   have a7:EQA I (a4.filter λv=>Lst g v):=⟨e0,⟨Fl,W,k,b3,hW,U⟩,g,a4,hnd,hmem,S,rfl⟩;have c9:fs.length<=most:=by
    rw[AE a0.1 (E83 (Tab.nodup_le a4 g S.nd λr X=>DUM X) (~~~a5y D hml7))]
   refine AAC p9 rfl (LY e9) ?_;refine VM T0 p9 fs (jT 0x246d55afe9f55296f3e339bf42a7 hmo hz c9) (cE zs (AJM H9/\zs.length<=i)) ⟨A2W,BO⟩ (OB zs ⟨A0L e9,EL⟩) ?_ ?_
   .rintro i x zs' H10 hx ⟨s10,hzl'⟩;obtain⟨v,e5,f8,xa,rfl,a1⟩:=a0.mem hx;have f0:B4O:=aP S.mem v (dL e5);obtain⟨y,hy⟩:=hfir v f0;rw[B4I];refine D0F d y ?_ s10 B19;rw[RV (DGet.t (k:=BN3 v.map) (AH s10 c4) (b:=xa) (AJ b3x (AH s10 a1))) hy]
   .rintro zs' H10 ⟨s10,hzl'⟩ p10 hp10;rw[oK p10 F b1];rw[AD Z (BQL (HE H10) zs' hp10 (o:=FX zs') b1) b6 (s10.trans Z)];rw[fW c2 EJ0 F zs' F zs'];generalize LX EJ0 F zs'=c1 at b6 Z c2;rw[HA (ANT 2 0x696ad8a526e076a0ad) f2 b2];rw[AD b7 (HE c1 (o:=FX [AK p9,AK F]) b2) a2 (b6.trans b7)];exact MZ (kq f2 p9 F fs) (s9.trans a2) A0 (AH a2 e9) (a0.same a2) a7
#where
#where
section
variable {L:sE}{a rss:LLI}{n:Nat}
noncomputable def Rs3(m:Nat)(rss:LLI):Prop:=ATX (AYF m (∀z∈r,-3<=z/\z<=3))
def c8K{v:qI}(h:∀j,j<v.length->DTG):AM5:=λx b=>by
 rw[BFS j a b];have:=h j a;rwa[List.getD_eq_getElem?_getD,pO]at this
def b2v:∀(a c:qI),CQ x a SE->CAP->0<=DL0
 |[],_,_,_=>B3N
 |HU,[],_,_=>B3N
 |eW,y::c,d,e=>by
  rw[a1C];have:=b2v a c DLY DLZ;rw[LF (EYR Int.mul_nonneg)]
def c5y(h:E64 (dM t)){c:qI}(d:dM c):dM CCM:=c8K λj f=>by
 rw[EMX _ λt b=>oP h b,b2K,Int.zero_add];refine AM b2v (vR e) d;rw[PY t b (List.mem_map.mp e)];exact c8L (rZ h b) j
def c1m{xs:AA}{v:V}(h:A86 D87 v):DFG NH:=by
 have a:D9G:=by
  have:=IB h;rw[XF 0x1e504058902a98e2e5]
 unfold atI ixN;rw[XR,DF (bE 0x1888c52460c5c5d),Option.bind_some,jS (UC (AUH+AHC)) D87];exact h
def a6b{R B:Int}(hR:0<=R)(c:0<=B):∀(r v:qI),CQ z r (-R<=z/\z<=R)->(CQ y v D2B) -> -(EE1)<=E2X/\E2X<=EE1
 |[],v,_,_=>by
  have:=Int.mul_nonneg (Int.mul_nonneg hR c) (Int.natCast_nonneg v.length);simp only[dot,List.zipWith_nil_left,List.sum_nil];omega
 |z::r,[],_,_=>B3N
 |z::r,y::v,d,e=>by
  rw[AD h1 (a6b hR c r v (EGK d) (EGK e)) f (d z List.mem_cons_self)];have b:=e y List.mem_cons_self;have h:z*y<=R*y:=Int.mul_le_mul_of_nonneg_right XC XD;have g : -R*y<=z*y:=Int.mul_le_mul_of_nonneg_right jO XD;have i:R*y<=R*B:=Int.mul_le_mul_of_nonneg_left b.2 hR;rw[Int.neg_mul]at g;rw[a1C,List.length_cons,Int.natCast_succ,Int.mul_add,Int.mul_one];omega
def c6K{c:qI}{B M:Int}(h:E64 (AHN t B))(g:0<=B)(i:c.length=a.length)(d:dM c)(l:c.sum<=M):ZF CCM (y<=B*M):=λy o=>by
 rw[BFS j k o];have e:=EMX jZ λt f=>oP h f;rw[BKD D9Z b2K Int.zero_add e];have e:(CCM)[j]=dot CCL c:=e;rw[e];have h1:=b3R (B:=B) CCL c (λx m=>by
  rw[GQ t f m];by_cases b:j<t.length
  .exact(rZ h f _ (c7u b)).2
  .rw[DE List.getD_eq_getElem?_getD (AEK b) g]) d (CLU i)
 have h2:=Int.mul_le_mul_of_nonneg_left l g;rw[B8C 0xe7ecd3ec51a8e]
noncomputable def BdS(n:Nat)(B:Int)(qP:LLI):Prop:=qP.length<=63/\LH qP (AFU n E4B)
def NarC.bd{b g i:LLI}{a:qI}{f:Nat}{B:Int}(h:NarC b a f g i)(q:BdS n B b)(G:0<=B)(z:a.length=n)(C:f<=40):BdS n (B*41) i:=by
 obtain⟨F,W,k,w,H,m⟩:=h.wk;obtain⟨A,o,I,d,S,rfl⟩:=h.ex;obtain⟨l,u⟩:=b0P w H m;subst z;have j:iY b (t.length=a.length):=λt p=>oP CZ p;rw[HA ?_ v J]
 .have h1:=Tab.nodup_le o (g.map (tgl a.length b)) S.nd λr z=>by
   rw[oZ s e (SN d r (DU5 z))];rw[C0G c s e]
  rw[List.length_map]at h1;rw[D9R (λv=>Lst A v) o];exact lq 0x13de37d5cda1da3d9c0052b0ce8 C l h1 this
 .rw[PY c s (AUU d (AUU S.mem (dL J)))];rw[C9E E (u c s)];rw[a1R]at h1;rw[AY (b2R j c) (λy D=>⟨c5y (λt p=>⟨j t p,λx K=>(rZ CZ p x K).1⟩) h2 y D,c6K CZ G h1 h2 (BT 0x4de8e88eda723920f946917 C E) y D⟩)]
structure Chn(n most:Nat)(rss:LLI)(L:sE):Prop where
 len:L.length=rss.length+1
 hd:∃t,OO L 0 t/\G6 t/\EVB
 nx:GP i Nat row qI DFV (∃a b cts,DMJ/\OO L AR b/\NarC a row most cts b)
def Chn.at{n d:Nat}{rss c:LLI}{L l:sE}(h:Chn n d rss L)(g:Chn n d c l)(hp:GP i Nat k qI (CP c k) (oE k)):∀i,D7I->L[i]?=BYN
 |0,_=>by
  obtain⟨t,e,u,pm⟩:=h.hd;obtain⟨t',e',p,j⟩:=g.hd;rw[e,e',W3 u p (pm.symm.nodup (a1S _)) (j.symm.nodup (a1S _)) λv=>pm.mem_iff.trans j.mem_iff.symm]
 |AR,hi=>by
  have f:i<c.length:=by rw[XY g.len 0x465797692280e281737 hi]
  obtain⟨a,b,s,e1,e2,N⟩:=h.nx i _ (A1A hp f);obtain⟨w,b',q,m,o,r⟩:=A1A g.nx f;have:=Chn.at h g hp i (~~~b8W hi);rw[cJ e1 m this this];rw[e2,o,N.one r]
def Chn.one{a:Nat}{b:sE}(h:ECC L)(g:ECC b):L=b:=by
 refine BMH;rw[A4N b.length]
 .exact EQ6 C8R
 .rw[BVF (by rw[h.len,<-g.len];exact S6 hi),BLN]
inductive OvB(n most:Nat)(rss:LLI):Prop
 |mk (i row L qP:_) (_:DFV) (_:DWN) (_:DMK) (_:C7L BC7 B9C):DRL
def Chn.not{c:Nat}(h:DWX rss):¬BRY c:=by
 rintro⟨i,l,u,t,s,g,m,q⟩;rw[AD hi (IB m) e (EQ6 (λj r f=>by
  rw[List.getElem?_take]at f;split at f
  .exact f
  .cases f))]
 obtain⟨a,b,o,e1,e2,N⟩:=h.nx i l s;rw[e1,m]at e;rw[CM];obtain⟨F,W,k,_,p,d⟩:=N.wk;exact a6X p (xF b8H) q
def Chn.snoc{c i:Nat}{b g:LLI}{m:qI}(h:DWX CV8)(p:oE m)(v:DMJ)(N:NarC a m c g b):Chn n c (rss.take AR) C4M:=by
 have l:=IB p;have o:L.length=AR:=by rw[E3V h.len l]
 have ap:∀{j x},wA L->wA ((C4M)):=λ{j x} e=>AJ (D4H AKV) e
 rw[DV (by rw[CZ8 List.length_take];rw[KZ 0x360b25121b420721e3c7190a988fd7ab9797 l o]) ?_ (FH j r d)]
 .obtain⟨t,e,h1,h2⟩:=h.hd;rw[FJ t (ap e) h1 h2]
 .rw[List.getElem?_take]at d;by_cases f:j<i
  .rw[DF (~~~a5x f)]at d;obtain⟨u,b',k,e1,e2,s⟩:=h.nx j r (KG List.getElem?_take BX7 d);rw[ID u b' k (ap e1) (ap e2) s]
  .have hj':j<AR:=by
    by_cases q:j<AR
    .exact q
    .rw[AW A8G d d]
   have e:j=i:= BT 0xa277b67476d5780835296 f hj'
   rw[DQ];rw[cJ (DF hj') p d d];rw[ID a b g (ap v) (by rw[<-o,A8S,Nat.sub_self];rfl) N]
noncomputable def Sgs(H:Hp)(ss:AA)(L:sE):Prop:=ss.length=L.length/\GP i Nat x V (bY ss) (∃(a:qE) (zs:AA) (qP:LLI),IE/\A2Q zs/\AZN/\DMK)
def Sgs.tk{H H':Hp}{ss:AA}(h:EEO)(k:AOM):CDG:=ARC (PP x (CG6 a zs qP (uV x) ⟨a,zs,qP,e1,rO k,k.its e3,e4⟩))
def Sgs.snoc{H:Hp}{ss zs:AA}{a:qE}{b:LLI}(h:EEO)(e:A2Q zs)(hI:OV zs b):Sgs H (ss++[AV]) C4M:=by
 rw[DU DWH (pS x d)];rw[List.getElem?_append]at d⊢;rw[<-CY];split at d
 .next c=>rw[AE AKI (EL i x d)]
 .next c =>
  rw[BA c];have:i-ss.length=0:=by
   rw[C9W (IB d)]
  rw[this]at d⊢;cases d;exact⟨a,zs,b,rfl,e,hI,rfl⟩
noncomputable def BdL(n i:Nat)(L:sE):Prop:=∀j t,JH L t->BdS n (41 ^ j) t
def c9k:∀{i:Nat},i<=6->SQ<=41 ^ i/\(BH 41) ^ i<=4750104241:=AG
def b5r(n:Nat)(c:fA){t:LLI}(a:EVB):BdS n 1 t:=by
 rw[HA ?_ v d]
 .rw[a.length_eq];have:FO (O6 (fre n))<=GK fre n:=CAZ;rw[lW a1R (B23 0x39d2589128dda0766 c)]
 .rw[GQ j hj (List.mem_filter.mp (a.mem_iff.mp d)).1];rw[a1R];rw[DU (N2 n j) (λy b=>GZ (a8Z n j y b))];unfold T8 at b;rw[C88 BWC]
section
variable {P:qG}{w:World}{K:qF}{mg:AZ}{base:Heap}
inductive IspByRows(D:qE)(vs:AA)(H:Hp)(Q:VK)(E:XK):Prop
 |mk (ra:qE) (us:AA) (rss:LLI) (n most:Nat) (wi mi:Int) (_:vs=[iN,BVR,BD mi]) (_:wi=n) (_:B8R) (_:C1H) (_:OI) (_:B6T) (_:OE) (_:fA) (_:most<=40) (_:DTN) (_:(∀q ss L H',BG->ADD ss->CDG->CYV rss->CQ t L (t.length<=63)->wC)) (_:BAL DRL):AF7 IspByRows
noncomputable def a9p(D:qE):Sp:=B3K IspByRows
def sc_by_rows:DJ (ATI "width" "most" "stages" "row") BS2 a3q:={}
def b1B{d:qE}(F':IJ "by_rows" a3q BS2)(T:AT)(D:BAT)(k:CFD)(m:EP7 d):EV5 d:=by
 rw[IH F'.okE sc_by_rows b6 hr]
 rw[xV ra us rss n most wi mi]
 .obtain⟨ra,us,rss,n,most,_,_,rfl,rfl,rfl,hra,hI,hul,n1,n2,hmo,hR,kq,ke⟩:=h;rw[C3V];rw[A4H 30000]
  rw[BL (eE 3 sc_by_rows.nd (ER (C80 k 177044476 (ER (C80 D 177043692 KB))))
 (BWW (jN AG0 4 sc_by_rows.nd
 (C3B WU (uG (a1Q m (DB8 b8p) rfl (jaC (BJZ WU) (GI 4 NU))))))
 DOP))]
  refine mF _ rfl A5J (~~~b8L n2) (A7I ca Z);rw[BUE Z];refine⟨ca,fre n,rfl,Z,IC,AJ a1R (lq 0xbe0f6d5244b65 n2),λp2 zs S H2 s2 e2 a5 a1 a9=>?_⟩;rw[B2R a2 s2];rw[HA E6C l hl];have a7:A4Z:=a2.free hl;rw[AD R (HE H2 (o:=BQ yM) hl) s3 (a2.trans R)];rw[IU e3 H2 l yM l yM];have S0:Sgs (VB l yM) yM [S]:=BF Sgs.snoc ss [] L [] (EW DN3) (rO R) (a5.same R);rw[AJA l yM H3 s3 e3 S0]
  rw[AA3]
  rw[B5S ra (BNI hra)];refine VM b3N ra us (cE σ (Ex3 λ(o4:eU) (ss:AA) (L:sE)=>An6 (σ=CSM (FP n) l o4) BG (A0A l ss) CDG DWN (BdL n i L)))
   ⟨none,yM,[S],rfl,s3,e3,S0,lU (RB S a9 a1) (λi r z=>lN),λj t e=>by
    match j,e with
    |0,e=>rw[CM];exact b5r n n2 a1
    |OC,e=>exact A5H⟩ (OB σ (by obtain⟨_,_,_,_,s',_⟩:=h;exact SqT.of (zS hra))) ?_ ?_
  .rintro i x σ H4 hx ⟨o4,ss,L,rfl,s4,e4,hS4,hC,hB⟩;obtain⟨C,a8,J,xa,rfl,b3⟩:=hI.mem hx;have I:i<rss.length:=IB J;have Y:L.length=AR:=by rw[E3V hC.len I]
   have M:ss.length=AR:=hS4.1.trans Y;obtain⟨y,O⟩:∃y,OO ss D89 y:=ES (MX (BS 0xb9bf08f0bfa022b336d6 M));rw[HC b4 (AUK ss) (show i=D89 by rw[ED 0x1863c0a822fb06b50b73b8be5f2d6 M]) O]
   obtain⟨ya,ws,u,rfl,a3,X,G⟩:=hS4.2 i y b4
   rw[AA3]
   rw[AD B (hR C a8) W HP];rw[WQ b1 b2 c9k (show i<=6 by exact lq 0x34180881082fffbba31891a7 hul I W)];have p:=hB i u G;have b0:Sm (u.map (dot C)):=λz hz=>by
    rw[GQ v U hz];have h:=a6b AG (ABM (PD<=4750104241)) C v B.2 λy O=>⟨A8I CCD O,Int.le_trans (CCD y O).2 b2⟩;rw[E6S]at h;omega
   rw[GD (SI (PV e4) ?_) ⟨_,rfl,_,rfl,l,_,_,_,rfl,rfl,D6W,c1m O,_,rfl,_,rfl,ya,xa,ws,u,C,most,_,rfl,rfl,a3,X,B1R b3,AJ B.1 n1,SG B.1,AJ X.1 CU,BS 0x20b217080c4b4ce5 hmo,λv U=>⟨NG E6S B.1,λy O=>B16 CCD y O⟩,b0,λq f g fs a4 b7 H5 F hq hf a6 N=>?_,λH5 F ho=>ke H5 (s4.trans F) ⟨i,C,L,u,J,hC,G,ho⟩⟩];refine⟨q,_,0,_,rfl,rfl,D7P,rfl,?_⟩;have e5:=AH F e4;refine BB9 l _ e5 (~~~lq 0x5a385c151da058e2040b139fd6a28f8ff3354cfda9 hul hz I M W);have b5:Tk H5 (FB H5 l DTE):=Tk.put e5;refine⟨_,DTE,L++[a4],rfl,GW o (A6D (AWH a7) (NE ((s4.trans F)))),A0,((EED).snoc hf a6).tk b5,hC.snoc J G N,vD j t⟩;rw[List.getElem?_append]at e;split at e
   .exact hB j t e
   .next c =>
    have a0:j-L.length=0:=by
     rw[C9W AKV]
    rw[HM a0];rw[DE (show j=AR by exact lq 0x4e13c057a4ec303ea17eaf83a9c4dc12a32bf10ed7 Y c a0) Int.pow_succ (N.bd p AF B.1 hmo)]
  .rintro σ H4 ⟨o4,ss,L,rfl,s4,e4,hS4,hC,hB⟩;refine IZ rfl l _ rfl (C8E e4);rw[kQ F H4 ss hq];rw[oN HP hC];exact kq q ss L _ (s4.trans F) A0 EED hC λt ht=>by
    rw[ANL hj ht];exact(hB j t hj).1
#where
#where
section
variable {cs:AO}{m:Nat}{rss:LLI}
noncomputable def Tdc(rss:LLI)(cs:AO)(m:Nat)(qP:LLI):Prop:=∃F W k,kX/\ATE m/\C0Q/\yV
def Tdc.one{e b:LLI}{l:Nat}(h:CCE e)(h':Tdc rss cs l b):e=b:=by
 rw[TD F W k g p c f];obtain⟨n,o,k',i,j,a,d⟩:=h';rw[IG rfl (b6g g i)];exact W3 f d (c.symm.nodup g.nd.2) (a.symm.nodup g.nd.2) λv=>c.mem_iff.trans a.mem_iff.symm
def Tdc.not{a:LLI}(h:Tdc rss cs m a):¬BLD (QM m):=by
 obtain⟨F,W,k,c,b,_⟩:=h;exact a6X c (~~~b8H b)
noncomputable def Lim(rss:LLI)(cs:AO)(m:Nat):Prop:=∀F W k,kX->ATE m->W.length<=900
def Lim.few(h:m<=900):CB4:=gA q (DB1 q)
noncomputable def Fw(n:Nat)(qP:LLI):Prop:=qP.length<=900/\LH qP (AFU n (AHN v 901))
def Tdc.fw{d:LLI}(h:Tdc rss cs m d)(hl:CB4):Fw cs.length d:=by
 obtain⟨F,W,k,g,i,e,_⟩:=h;rw[QC (b0P e g (hl F W k g i))];rw[HA h1 v j];obtain⟨a,b,c⟩:=h2 v j;rw[AY a (λx f=>⟨b x f,by rw[XY (b8b b x f) 0x2cb36a012f44d38cac16b33ae932 c]⟩)]
noncomputable def sdS(rss:LLI)(ss:qI):LLI:=List.zipWith (λr s=>DUR) rss ss
def c1P{ss:qI}(h:C98):LB sdS rss ss=rss.length:=by unfold sdS;rw[List.length_zipWith,h,Nat.min_self]
def c1O{ss:qI}{x:qI}(h:x∈eG):∃r s,xN/\s∈ss/\x=DUR:=by
 rw[C8F];unfold sdS at hi⊢;rw[List.length_zipWith]at hi;rw[List.getElem_zipWith];exact QU _ (E3H b3s) (E3H b8n) rfl
noncomputable def sdC(n:Nat):AO:=D9E none++[uW]
def a1L(n:Nat):GK sdC n=CB:=IN sdC
def c3x{v:qI}{n:Nat}(h:DIS):∃u t,v=u++[t]/\u.length=n:=by
 refine⟨v.take n,v.getD n 0,?_,AJ List.length_take (lq 0x5cd708d33031bb8db2d6 h)⟩;refine List.ext_getElem? λj=>?_;rw[List.getElem?_append,List.length_take,D4I (AKE 909891649188566)];split
 .rw[List.getElem?_take,if_pos (by assumption)]
 .rw[GC j n]
  .rw[DQ];rw[Nat.sub_self,List.getD_eq_getElem?_getD,MX (AKE 909905142117078)];rfl
  .rw[IX List.getElem?_eq_none,BVF (by simp;omega)]
def c0X(ys:qI)(h:0<ys.length):EB5 BKY=ys.dropLast.map V.int:=by
 rw[E8M BPD BPD (by
  rw[AH3];rw[EUV (BH ys.length) ys.length])]
 rw[e,HT.sIx_none,List.drop_zero,Nat.sub_zero,<-List.map_take,List.dropLast_eq_take]
section
variable {P:qG}{w:World}{K:qF}{mg:AZ}{base:Heap}
def c9j{caps:L2.St}{u v:V}:Sub CMG (AJK::gH SK):=(EW (λj x e=>by
 match j,e with
 |0,e=>rw[CM]
 |1,e=>rw[CM]
 |j+2,e=>exact e))
inductive IspSided(vs:AA)(H:Hp)(Q:VK)(E:XK):Prop
 |mk (ra sa:qE) (us:AA) (rss:LLI) (ss:qI) (_:QQ iN D5G) (_:C1H) (_:OI) (_:rV) (_:B6G) (_:C98) (_:DVG) (_:BCW eG):GX IspSided
noncomputable def b3a:Sp:=HS IspSided
def b6D:sN "rows" "sides" "rows" "sides" a7T:={}
def b7N(F:X3 "sided" a7T "rows" "sides")(T:AT):EU5:=by
 rw[BP b6D u I]
 rw[AAA ra sa x0]
 .obtain⟨ra,sa,us,rss,ss,rfl,hra,hI,hul,hrl,hsl,hsa,kk⟩:=h;rw[RX n]
  rw[GF (eM (BMG "row" "side"
 (xB CZ5 CZ5)) (DS a4E 0 (S9 (jaC (Z1 (jv 1)) jaN))))]
  refine xC true true ra sa (LY hra) (LY hsa);refine BF X9 xs us zs (bX ss.map) (E1L n) (eQ (sQ ys EQR)) (ACC Its.nil) (AUC ys ⟨A0L hra,A0L hsa,by rw[YB];unfold sdS;rw[FK List.length_zipWith List.length_take lq 0x346f103b6b388e88ed7]⟩) ?_ ?_
  .rintro i x z ys H1 p hx hz' ⟨s1,hy⟩ hp;obtain⟨r,k,a,g,rfl,m⟩:=hI.mem hx;rw[lO sz l U7 hz'];rw[AD b (hrl r k) t (AVY (o:=FX BS0) hp)];refine A4R p BS0 A0 dH (nS sz) (BD sz) [];generalize AHS p BS0=H2 at t;rw[IR c9j];rw[VD (AAC _ rfl (C1B n) (A4W B)) d t.upd (FX (nS (-sz))) j];refine⟨g,B,_,_,rfl,rfl,BQ1 d m,A0,by rw[AH3];rw[A9E aT 0xbd9ec586179b634a30ae923ce n b],DD C G D v⟩;have c:=d.trans D;rw[IR (s1.trans c)];have e:sdS (rss.take AR) (ss.take AR)=EQR++[r++[-sz]]:=by
    have h1:=IB a;unfold sdS;rw[List.take_add_one,List.take_add_one,a,l,E0X List.zipWith_append List.length_take 0x376d637b38a4fa5af07f10ecf9ad2d7b22236f8957 hsl];rfl
   rw[e];exact EC6 c (BOQ v)
  .rintro ys H1 ⟨s1,hy⟩ p hp;rw[List.length_map,HP,hsl,Nat.min_self,List.take_length,<-hsl,List.take_length]at hy;rw[GJ t s1.upd ARF hp];rw[F49 p d hp (s1.trans d) (hy.same d)]
inductive IspSidedCaps(vs:AA)(H:Hp)(Q:VK)(E:XK):Prop
 |mk (n:Nat) (wi:Int) (_:QS BVR) (_:wi=n) (_:OE) (_:QG n) (_:∀q H',BG->UZ q (gD (FQ sdC n) cV)->GL mZ):GX IspSidedCaps
noncomputable def a3S:Sp:=HS IspSidedCaps
def a6q:CBY a0x:={}
def a6w(F:C0B "sided_caps" a0x)(T:AT)(a:BAT):EMJ:=by
 rw[BP a6q g j]
 rw[SA n wi]
 .obtain⟨n,_,rfl,rfl,h1,h2,kk⟩:=h;rw[RX c]
  rw[GF (a4E (C0Z j.mono) (S9 BNO))];refine mF _ rfl A5J (BS 0xecea926b025ad016865 h2) (A7I p e1);rw[BUE e1];rw[HA (C1B c) p2 b];rw[kQ d H1 (nS 1) b];refine⟨p,p2,_,_,rfl,rfl,pZ d,A0,by rw[oY List.length_replicate];rw[A9E aT 0x3e1f870b5a281cfcc60e866 h2 c],DD k e l i⟩;exact kk k e (BZ1 d l) (by rw[i];rw[C2L sdC])
noncomputable def a4s(t:Int)(qP:LLI):LLI:=GS (qP.filter λv=>CJ (v.getLast?=some t)) List.dropLast
inductive IspEnding(vs:AA)(H:Hp)(Q:VK)(E:XK):Prop
 |mk (p:qE) (us:AA) (qP:LLI) (n:Nat) (t:Int) (_:iU (BD t)) (_:ACX p) (_:C3D) (_:rV) (_:YC) (_:TH qP DIS) (_:BCW (a4s t qP)):GX IspEnding
noncomputable def a9o:Sp:=HS IspEnding
def b4t:sN "some" "last" "some" "last" a4Z:={}
def b4Q(F:X3 "ending" a4Z "some" "last")(T:AT):EU6:=by
 rw[BP b4t v D]
 rw[ADX p us qP n t]
 .obtain⟨p,us,qP,n,t,rfl,hp,hI,hul,hn,hl,kk⟩:=h;rw[RX B]
  rw[GF (mP (C8K "last"
 (A8V "last") (A9B (WA K2 (F4 K EV (Z1 A6)) 1)) (tJ (C9U G3 CC7))))]
  rw[B5S p hp];refine T0 (xs:=us) (E1L B) (uT (BG/\sQ ys ELE/\AW7)) ⟨mG,Its.nil,BO⟩ (OB ys ⟨A0L hp,A89⟩) ?_ ?_
  .rintro i x ys H1 hx ⟨s1,hy,hyl⟩;obtain⟨r,g,j,m,rfl,l⟩:=hI.mem hx;have k:=hl r g;obtain⟨u,z,rfl,G⟩:=c3x (n:=n) k;have a:=HH l;have c:C3W CZL NH=FP z:=c1m (by rw[List.length_map,List.length_append,List.map_append,aB List.getElem?_append_right];simp);have e:a4s t (qP.take AR)=ELE++(if z=t then[u] else[]):=by
    unfold a4s;rw[List.take_add_one,j,List.filter_append,List.map_append];congr 1;rw[GC z t]
    .rw[QH];simp[e]
    .rw[JQ];simp[e]
   rw[e];rw[B4I];refine⟨_,rfl,_,rfl,m,_,_,_,rfl,rfl,D6Q,c,_,rfl,rfl,_,rfl,nY⟩
   .rw[RD e' z t e]
    rw[DF e'];refine⟨_,rfl,_,rfl,_,rfl,m,_,rfl,D6Q,?_,AS C d⟩
    .rw[show CY8 DGB DGB=u.length by
      rw[DGV];rw[EUV (EE BV8) BV8]]
     rw[DGV];rw[MJ (¬(_/\u.length=BV8))]
    rw[c0X _ AL,List.dropLast_concat];rw[IL b H1 (TZ u.map) d];rw[AX D7Y (EC6 b A0) B19]
   .rw[OA e' (¬z=t) e]
    rw[D8M,List.append_nil];rw[AX s1 hy (AJN hyl)]
  .rintro ys H1 ⟨s1,hy,_⟩ p1 hp1;rw[C50];rw[F49 p1 b hp1 D7Y (hy.same b)]
def c5L(n:Nat)(x:Int)(h:ACI A8D):SE:=by
 rw[DTM]
 .exact c0G n x z
 .cases UX;decide
inductive IspBeyond(D:qE)(vs:AA)(H:Hp)(Q:VK)(E:XK):Prop
 |mk (ra sa:qE) (us:AA) (rss:LLI) (n most:Nat) (ss:qI) (wi mi:Int) (_:vs=[iN,D5G,BVR,BD mi]) (_:wi=n) (_:B8R) (_:C1H) (_:OI) (_:B6T) (_:DTN) (_:OE) (_:fA) (_:C7C) (_:C98) (_:Bds ss) (_:DVG) (_:Lim eG A8D most) (_:(∀(q t b pp:qE) (zs ys:AA) (qP:LLI) (H':Hp),BG->ADD [IQ,FT,AY7]->E4I->ASM (a4s 1 qP)->cI b ys->sQ ys (a4s 0 qP)->Tdc eG A8D most qP->wC)) (_:BAL (C7L eG A8D)):AF7 IspBeyond
noncomputable def a9q(D:qE):Sp:=B3K IspBeyond
def sc_beyond:DJ (ATI "sides" "width" "most" "walk") BTH a5a:={}
def b4R{a:qE}(F':IJ "beyond" a5a BTH)(T:AT)(e:EU5)(b:EMJ)(c:EU6)(d:BCK a):EP8 a:=by
 rw[IH F'.okE sc_beyond a1 F]
 .obtain⟨ra,sa,us,rss,n,most,x0,wi,mi,rfl,_⟩:=h;rfl
 .obtain⟨ra,sa,us,rss,n,most,ss,_,_,rfl,rfl,rfl,hRe,hRI,hRl,hR,n1,n8,hmo,hsl,hsb,hsa,hLm,kq,ke⟩:=h;rw[RX Z]
  rw[BL (BU 4 sc_beyond.nd (a1Q d (WD F.mono a8l) rfl (QN (MU e F.mono aF) (B5G F.mono a8m NU) pB))
 (SX S9 (A43 E4V E4V CVY)))]
  rw[GD ⟨_,rfl,_,rfl,ra,sa,us,rss,ss,rfl,hRe,hRI,~~~a8p hRl,λr l=>HG (C6A l) a2O n8,hsl,hsa,DR q1 z1 H1 s1 e1 y⟩ ⟨_,rfl,n,_,rfl,rfl,n1,~~~b8O n8,AJX c2 s2 e2⟩];have I:=s1.trans s2;have Y:SyAt H2 q1 c2 eG (sdC n):=⟨⟨z1,pZ s2,y.same s2,by rw[XI,c1P hsl,<-hRI.1];exact a8p hRl⟩,e2,HG a1L lq 769280509789,AJ a1L (lq 85030407057742693 n8),λr l=>by
   obtain⟨x,sz,hx,V,rfl⟩:=c1O l;rw[HA (CQA (A6N hR).1 a1L) z Z];rw[bK (BFM Z)]
   .rw[A53 (A6N hR).2 z q]
   .rw[AZ0];have:=hsb sz V;rw[AX9 this],c5L n⟩
  refine F26 q1 c2 eG A8D (λq t pp zs j ws Fl W k H3 s3 S ht g R U a3 a2 hW D=>?_) (λH3 s3 N=>ke H3 (I.trans s3) N);have a0:=I.trans s3;have B:Tdc eG A8D most j:=⟨Fl,W,k,hW,D,R,U⟩;have u:=B.fw hLm;rw[a1L]at u;obtain⟨G,C⟩:=u;rw[CV ⟨_,rfl,q,_,0,IQ,rfl,rfl,GR S,rfl,t,zs,j,n,1,rfl,ht,g,EJI,DOD,EES,DR b4 z4 H4 p e4 L⟩];rw[GD ⟨_,rfl,q,_,0,IQ,rfl,rfl,hE p S,rfl,t,zs,j,n,0,rfl,AH p ht,g.same p,EJI,DOD,EES,DR b5 z5 H5 s5 e5 M⟩ (A5T q _ 1 AY7 rfl (hE ((p.trans s5)) S) rfl (CLR 3 0x226d156eeb7523cd Z) (AS p6 O))];rw[AD m (HE H5 (o:=FX [AK b4,AK b5,AY7]) O) J (s5.trans m)];have a4:=p.trans J;exact kq p6 b4 b5 pp z4 z5 j _ (IP a0.trans p J) A0 (BVC J) (L.same J) (rN e5) (M.same m) B
def a8I{n:Nat}{t:Int}{a:LLI}(h:Fw CB a):Fw n (a4s t a):=by
 unfold a4s;rw[HA (LG (A5K VH CY)) v c];rw[GQ u b c];rw[HN h1 h2 (EL u DFI) (SH List.length_dropLast h1) (λx d=>h2 x ((List.dropLast_sublist u).subset d))]
#where
noncomputable def c9a(xs:qI):Prop:=jW (BDU 1000000000000)
noncomputable def P0(ps:qI)(rss:LLI):LLI:=AVA EJ6
def b1q{ps:qI}:LB P0 ps rss=rss.length:=by rw[EY P0 List.length_map]
noncomputable def BsP(rows:LLI):JN CA1
 |none=>CVM
 |B1Z=>(DZA)∈rows/\∀r'∈rows,yK r' DZA
def BsP.one{rows:LLI}:∀{a b:CA1},BsP rows a->BsP rows b->a=b
 |none,none,_,_=>rfl
 |none,B1Z,h,g=>E98 h g XN
 |B1Z,none,h,g=>E98 g h CY
 |AU (n,t),AU (m,u),h,g=>by
  have e:=Q5 DEZ (m::u) (aS _ CY) (EL _ XN);rw[ANG]
  rw[e1,e2]
noncomputable def c9G(H:Hp)(v:V)(rows:LLI):Prop:=(BsP rows none/\v=.non)∨BCT t q (uR q/\DP0/\DN2/\E53 rows)
section
variable {P:qG}{w:World}{K:qF}{mg:AZ}{base:Heap}
inductive spCheapest(vs:AA)(H:Hp)(Q:VK)(y_3:XK):Prop
 |mk (t:qE) (pv:V) (us:AA) (rss:LLI) (ps:qI) (_:QQ IQ pv) (_:B62) (_:OI) (_:DGS) (_:UE pv ps) (_:QG ps.length) (_:AS3 (c9a r)) (_:ASN (c9G H' v (P0 ps rss))):HR spCheapest
def a9x:sN "told" "prices" "told" "prices" a2p:={}
def a9S(F:X3 "cheapest" a2p "told" "prices")(T:AT)(b:EP3):EVG:=by
 rw[BP a9x D B]
 rw[AAA t pv ps]
 .obtain⟨t,_,us,rss,ps,rfl,ht,hI,hl,⟨pa,rfl,hp⟩,hpl,hR,k⟩:=h;have I:=B.u60;rw[RX j]
  refine DX ((A3 (A9 (c3G K I rfl T.b_min (ER (C8K "prices"
 (A8V "prices") A26 (ACK S9 (BVT (B5G B.mono a3w yN))))))))) ?_
  rw[B5S t ht];refine T0 (xs:=us) (BT 0x6cb974c83285dedc36ecace6 hl j) (eQ (PrI K H' ys ELD)) (ACC E2B) (D0G (ATH (A0L ht) YB b1q nN)) ?_ ?_
  .rw[AVJ H1 s1 hy];rw[EC r c p u hI.mem hx];rw[GN C d u];have l:=hR r c;rw[B4I];rw[GD ⟨_,rfl,_,rfl,_,_,ps,r,rfl,DG pa AKP,DG C (HH d),AUI hpl,(λz j=>B16 l z j),BIP g⟩ (fG (DU1 j) L m)];rw[GJ y g.upd (FX [.int (dot ps r),EA]) m];rw[IR (s1.trans y)];have e:P0 ps (rss.take AR)=ELD++[EJ6]:=by
    unfold P0;rw[BQR p]
   rw[e];exact DSV y A0 (BQ1 y d)
  .rintro ys H1 ⟨s1,hy⟩ p1 hp1;rw[C50];rw[IL g H1 ARF hp1];refine⟨p1,ys,_,rfl,UJ,hy.same g,AB5,DR v r J c ex G⟩
   .exact AM k DA2 (A5R e)
   .obtain⟨n,t',q,a,e1,e2,e3,e4⟩:=ex;exact AM k DA2 (DH ⟨n,t',q,a,e2,e3,e4,(show BsP _ (AU (n,t'))from⟨e1 ▸ c,e1 ▸ G⟩)⟩)
def c1V:B8X "prices" "prices" b1o:={}
def c3a(F:AKH "cost" b1o "prices")(T:AT)(a:BBZ):EP3:=by
 rw[BP c1V b c]
 rw[BCB]
 .obtain⟨x,y,xs,ys,rfl,hx,hy,hl,hs,k⟩:=h;rw[GF (ACF c.mono aF)];exact AZY x y xs ys hx hy hl hs k
#where
#where
section
variable {a:LLI}{n:Nat}
section
variable {P:qG}{w:World}{K:qF}{mg:AZ}{base:Heap}
def b3h{x:Int}{H:Hp}{Q:VK}(a:C9C)(q:B4F E5 x):rStrI (nS x) H Q:=by
 obtain⟨n,rfl⟩:QE n (x=n):=⟨x.toNat,AF⟩;rw[FJ n rfl (DF1 (A6H DK2)) q]
def c9i{i:Nat}{σ:L2.St}{H:Hp}{Q:VK}{a:qE}{xs:qI}(hσ:DJ5)(e:DDF)(d:BZR)(hl:C4F)(k:E7J):kT (tBM K "str" BZA (tC (US " "))) (a3R (a6I [none] (c4a K (tVar i)) DD9 V1 (tCB rStrI (CED 0))) a0X):=by
 rw[RX g]
 rw[HC c (NF xs.map V.int 8) List.length_map hl]
 refine⟨rfl,_,hσ,a,rfl,ES (SqT.of e),?_⟩;rw[EF (CD0 nH xs (tO E5 x) (BT 0xb8e24a012d7972923ce g c) e (A7G H1 l f b s1)) H1 p s1 h]
 .rw[yP b f f];exact CD (b3h (ML d x b) aU)
 .have hB:A8Y AZ9 60:=λy j=>DJD b j (d x b)
  have h2:=b0Q d hl;refine⟨bk,p,AZ9,60,rfl,rfl,C72,hB,?_,by show DOM<=_;rw[KZ 0x236351960173c0f2e923ce g h2],k _ (s1.upd h)⟩;rw[DDZ A69]
inductive spShowV(vs:AA)(H:Hp)(Q:VK)(y_3:XK):Prop
 |mk (v:V) (xs:qI) (_:QS v) (_:UE v xs) (_:BZR) (_:C4F) (_:E7J):HR spShowV
def a4R:E89 Z6:={}
def a5m(F:RQ "show_vector" Z6 "one")(T:AT):CCQ:=by
 rw[BP a4R b c]
 rw[SA v xs]
 .obtain⟨_,xs,rfl,⟨a,rfl,ha⟩,hx,hl,k⟩:=h;rw[GF (AIJ (WK (C2J AG0
 C1W) (A70 a4D T.b_str)))]
  exact c9i rfl ha hx hl k
def atc{x:V}{xs:AA}:atI IF 0=some x:=AID
inductive spFill(vs:AA)(H:Hp)(Q:VK)(y_3:XK):Prop
 |mk (x y:Str) (_:QQ TQ A8Z) (_:xJ (DZI (hH ""))):HR spFill
def b4s:sN "text" "empty" "text" "empty" a4Y:={}
def b4P(F:X3 "filled" a4Y "text" "empty")(T:AT):CGF:=by
 rw[BP b4s a b]
 rw[SA x y]
 .rw[T6 x y rfl k];rw[GF (a5M (DS K2 0 A4) JD (jv 0))];refine BY7
  .rw[DF (DDD V.str.inj)]at k;exact CD k
  .rw[AKN D0R]at k;exact CD k
noncomputable abbrev semi:Str:=DK "; "
def a5K:EFC (ADS (ARV 488)) semi 490
 |[],_=>IC
 |dX,h=>by
  rw[ERE 490]
 |rT,h=>by
  rw[AD h1 A5Z a (a5K (ys:=ZT) λz b=>DUX)];rw[a0L,D8,D8,EK3];rw[D5A a];rw[KZ 0x24632b6fb253e28127f504f90df83576d51268e7 h1 a]
noncomputable def vts(qP:LLI):Str:=if qP=[] then D6I else E60 qP.map
def Fw.sz(h:B8Z)(c:fA):LH a (Sz v/\v.length<=8):=λv d=>by
 rw[HN h1 h2 (EL v d) (λx b=>⟨(DOE).1,yU (DOE).2⟩) (A08 0x465794ac2afdbb58766 h1)]
def Fw.len(h:B8Z)(b:fA):A8Y (a.map vt) 488:=λy d=>by
 rw[GQ v c d];rw[QC (h.sz b v c)];exact b0Q h1 h2
def b2M(h:B8Z)(b:fA):NF vts a 441000:=by
 rw[TL vts]
 .decide
 .rw[AWL (a5K (h.len b))];rw[LF CY]
def b0u(n:Nat):1<=rJ:=by
 rw[RV (List.length_pos_iff.mpr (a3b n)) Array.length_toList]
def c5t{xs:qI}(h:1<=xs.length):1<=DOM:=by
 match xs,h with
 |dX,_=>exact b0u _
 |rT,_ =>
  show 1<=A5B (iS::E5 y::r.map E5);rw[a0L,D8,D8];have:=b0u x.toNat;show 1<=BEZ x.toNat+_+_;rw[XF 0x11029f82af063cb4b1166f]
def c0i{x:Str}{r:AB}(h:D9P):UB semi A8E≠BVO:=λz=>by
 rw[ASF Str.length z];cases r with
 |nil =>
  change x.length=0 at this;omega
 |cons y r =>
  rw[a0L,D8,D8]at this;change _+_+_=0 at this;rw[ZO 0x23c284c4ac74bfe4b493e6f h]
inductive spSVs(vs:AA)(H:Hp)(Q:VK)(y_3:XK):Prop
 |mk (t:qE) (us:AA) (qP:LLI) (n:Nat) (_:QS IQ) (_:B62) (_:C3D) (_:Fw n qP) (_:OE) (_:fA) (_:AEB vts qP):HR spSVs
def a4e:VC ["some"] "some" V4:={}
def a4k(F:RQ "show_vectors" V4 "some")(T:AT)(b:CGF)(a:CCQ):EMK:=by
 rw[BP a4e g d]
 rw[pG t us qP n]
 .obtain⟨t,us,qP,n,rfl,ht,hI,hF,n1,n7,k⟩:=h;rw[tM z 500000]
  rw[HC hul DGS HP hF.1]
  rw[GF (kA d.mono (QP (AIJ (WK (wX "one" AG0
 (wF "one")) (C0Z d.mono))) A4))]
  refine⟨rfl,_,rfl,t,rfl,LY ht,?_⟩;rw[EF (TB a7A [] (λr=>CZQ) AF (aK ht) hI rfl (λv r H1 x c m s1 q=>?_)) H1 p s1 l]
  .obtain⟨z1,z2⟩:=hF.sz n7 r c;exact⟨_,rfl,v,r,rfl,m,z1,z2,λH2 u=>q H2 u⟩
  .rw[S1 hB hF.len n7 j a5K hB];rw[B4N y hF.1 j];refine⟨semi,p,qP.map vt,488,rfl,rfl,C72,hB,DJL EK3,AF,_,_,rfl,?_⟩;have:=k _ (s1.upd (o:=BQ (qP.map λr=>CZQ)) l);unfold vts at this;cases qP with
   |nil=>rw[A7O]
   |cons v r =>
    rw[gU B34];have e:¬E60 (GS (v::r))=wd "":=c0i (c5t (AJ (jR hF.2 List.mem_cons_self) n1));rw[AE JQ this]
noncomputable def Ls4:AB:=[DK "least",DK "beyond",DK "cheapest",DK "rows"]
noncomputable def LnF(x:Str)(zs:qI)(n:Nat):Bool:=if AZ3 then CJ (zs.length=n)else if DDO then CJ (zs.length=CB) && EIT else CJ BYZ && (CJ (zs.length=1) && EIT)
inductive spIsL(vs:AA)(H:Hp)(Q:VK)(y_3:XK):Prop
 |mk (x:Str) (l:qE) (zs:qI) (n:Nat) (_:vs=[TQ,GV,BD DO]) (_:xG D9X) (_:A3R C2I):HR spIsL
def a8A(zs:qI)(n:Nat)(z:Int)(h:z=n):AMD (pE (BH (A3M zs.map)) z) (zs.length=n):=by
 rw[FK List.length_map h decide_eq_decide.mpr ⟨λh=>by rw[AHD (V.int.inj h) b9m],λh=>LZ h⟩]
def b1h:DJ B0H B0H a3p:={}
def b1A{p:Tok}{e:qE}(F:IJ "is_line" a3p B0H)(T:AT)(b:ZI "LISTS" e)(d:DZM e)(a:BW mg "GREATEST_MOST" (.int 2000 p)):EOL:=by
 rw[BP b1h o q]
 rw[pG x l zs n]
 .rw[TD x l zs n rfl hl k];refine⟨_,  (A1 (ATV 0
 (FE (WA Y7 XL 2))
 B7)
 (A1 (ATV 0
 (BNV (Y7 XL (AWB 2)) (b3y nW (AZH CP8)))
 B7)
 (FE (a1t (c6Z K EV (ABI CP0 b rfl) CO) (a1t (AHV XL) (a0R (b3y nW (AZH CP8)))))))),?_⟩
  unfold LnF at k;by_cases g:AZ3
  .rw[DF g]at k;rw[DN dN (XM (show V.str x=US "way" by rw[g]))];rw[WL ⟨_,rfl,l,_,rfl,ALJ,_,rfl,rfl,?_⟩];rw[AE (a8A zs n _ rfl) k]
  rw[BA g]at k;rw[DN dN (C2A g)];rw[LD dN];by_cases i:DDO
  .rw[DF i]at k;rw[eH (XM (show V.str x=US "lay" by rw[i])) ⟨_,rfl,l,_,rfl,ALJ,_,rfl,_,_,rfl,rfl,rfl,_,rfl,?_⟩];rw[EWC CB (DO+1) CB]
   .rw[BW4]at k⊢;cases zs with
    |nil=>cases h
    |cons m r=>rw[F7G]
   rw[E9B]
  rw[BA i]at k;rw[C2A i];rw[LD (EQM e (bQ d _) BK)];rw[ETU,a2Y];by_cases j:BYZ
  .rw[decide_eq_true j]at k⊢;rw[WW (E2 (APD l ALJ ?_))];rw[EWC 1 1 1]
   .rw[BW4]at k⊢;cases zs with
    |nil=>cases h
    |cons m r=>rw[F7G]
   rw[E9B]
  .rw[decide_eq_false j]at k⊢;exact CD (C1 k)
inductive spSize(vs:AA)(H:Hp)(Q:VK)(y_3:XK):Prop
 |mk (x:V) (xs:qI) (_:QS x) (_:AOD) (_:B4Z xs.sum):HR spSize
def c1S:E89 b1l:={}
def c2U(F:RQ "size" b1l "one")(T:AT):EB7:=by
 rw[BP c1S b c]
 rw[SA x xs]
 .obtain⟨_,xs,rfl,⟨a,rfl,ha⟩,k⟩:=h;rw[GF (lJ b2l T.b_sum WF)];exact⟨_,rfl,true,a,xs,rfl,GR ha,AP3⟩
#where
#where
section
structure DkAt(C:qE)(H:Hp)(p:qE)(ns:AB)(rss:LLI)(ss:qI)(cs:AO)(ps:qI):Prop where
 ex:∃dx n r s c q us,AWG (dfl n r s c q)/\BES n/\C1G/\OI/\B6T/\CXL s/\ANP/\AFT q ps.map
def DkAt.same{C:qE}{H H':Hp}{p:qE}{ns:AB}{rss:LLI}{ss:qI}{cs:AO}{ps:qI}(h:sY)(s:BG):E6X:=by
 rw[F2Z i a b d ⟨dx,n,r,t,c,q,i,D9C,BX6,HF a,b.same s,d,HF e,BX4,BX3⟩]
def c8E(cs:AO):cs.map ovI=cs.map cV:=List.map_congr_left λc _=>D4Q c
structure Sg5(ns:AB)(rss:LLI)(ss:qI)(cs:AO)(ps:qI):Prop where
 k:BE1 SysOk
 r3:Rs3 ns.length rss
inductive Out where
 |ok (t:Str)|na|tm
noncomputable def Fin(CN CT:qE)(H:Hp)(Q:VK)(E:XK):JN Out
 |.ok t=>ALQ t
 |.na=>BOA CN
 |.tm=>BOA CT
noncomputable def b4F:Out->Str
 |.ok t=>t
 |.na=>wd "no answer"
 |.tm=>wd "too many"
noncomputable def LsO(rss:LLI)(cs:AO)(m:Nat)(f:DT7)(o:Out):Prop:=(BLD m/\o=.tm)∨∃qP t,CCE qP/\f qP t/\o=.ok t
def LsO.one{rss:LLI}{cs:AO}{m:Nat}{f:DT7}{o o':Out}(d:∀a t t',f a t->f a t'->t=t')(h:ETI o)(g:ETI o'):B8Q:=by
 rcases h with⟨h,rfl⟩|⟨a,t,h1,h2,rfl⟩<;>rcases g with⟨g,rfl⟩|⟨b,t',g1,c,rfl⟩
 .rfl
 rw[HQ h g1.not]
 rw[HQ g h1.not]
 .have:=h1.one g1;rw[X1];rw[A20 d h2 c]
noncomputable def rwT(L:sE):Str:=MF (L.map λt=>BPG)
noncomputable def RwO(n m:Nat)(rss:LLI)(o:Out):Prop:=(BRY m/\o=.tm)∨∃L,Chn n m rss L/\o=EAP
def RwO.one{n m:Nat}{rss:LLI}{o o':Out}(h:EK0 o)(g:EK0 o'):B8Q:=by
 rcases h with⟨h,rfl⟩|⟨L,h,rfl⟩<;>rcases g with⟨g,rfl⟩|⟨a,g,rfl⟩
 .rfl
 rw[HQ h g.not]
 rw[HQ g h.not]
 .rw[h.one g]
noncomputable def chT:CA1->Str
 |none=>D6I
 |B1Z=>E5 EB++BVQ ++ vt CZ
noncomputable def fLe(qP:LLI)(t:Str):Prop:=t=vts qP
noncomputable def fBe(qP:LLI)(t:Str):Prop:=t=EIL 1++wd " | " ++ EIL 0
inductive fCh(ps:qI)(qP:LLI)(t:Str):Prop
 |mk (b:_) (_:BsP (P0 ps (a4s 1 qP)) b) (_:t=chT b):fCh ps qP t
noncomputable def Ask(ns:AB)(rss:LLI)(ss:qI)(cs:AO)(ps:qI)(x:Str)(m:Nat)(o:Out):Prop :=
 (DDL/\LsO rss cs m fLe o)∨(CW5/\EX5)∨(DDM/\EX8 fBe)∨(DDN/\EX8 (fCh ps))
noncomputable def c9e(ns:AB)(rss:LLI)(ss:qI)(cs:AO)(x:Str)(m:Nat):Prop :=
 (hH "least"/\m<=60/\CB4)∨(EAY)∨(ERD "beyond")∨(ERD "cheapest")
def fCh.one{ps:qI}{a:LLI}{t t':Str}(h:fCh ps a t)(g:fCh ps a t'):t=t':=by
 rw[PY b h1 h];rw[PY b' g1 g];rw[h1.one g1]
def BsP.cost{ps:qI}{a:LLI}{n:Int}{t:qI}{k:Nat}(h:E53 (P0 ps a))(f:Fw k a)(g:k<=7)(hp:JY ps A3V):(0<=n/\DK2)/\t∈a:=by
 rw[AGK r d CY];rw[ANG]
 subst e2;rw[QC (XC _ d)];have:=BF a6b R 1000000000000 B 901 AG AG ps r (λz b=>by have:=hp z b;rw[AX9 this]) h2;have c:=b2v ps r (λz b=>(hp z b).1) λz b=>(h2 z b).1;have e1:dot ps r=n:=e1;rw[e1]at this c;rw[DU ⟨c,Int.lt_of_le_of_lt AY0 ?_⟩ d];rw[JZ Int.lt_of_le_of_lt (Int.mul_le_mul_of_nonneg_left (show BH r.length<=7 by rw[KZ 0x7b194dba67630dc98766 g h1]) AG)];rw[OP]
section
variable {P:qG}{w:World}{K:qF}{mg:AZ}{base:Heap}{C:qE}
inductive spSRw(C CN CT:qE)(vs:AA)(H:Hp)(Q:VK)(E:XK):Prop
 |mk (p:qE) (ns:AB) (rss:LLI) (ss:qI) (cs:AO) (ps:qI) (m:Nat) (_:iU (BD VA)) (_:sY) (_:sK) (_:m<=40) (_:CHB EX5 CT):ETL spSRw
def a3l:AK4 CVD "most" T1:={}
def a9O{CN u:qE}(I:ALK "say_rows" "Desk.say_rows" T1 "most")(U:YF)(T:AT)(b:EV5 u):EWR u:=by
 rw[IH I.fnE a3l J S]
 rw[xV p ns rss ss cs ps m]
 .obtain⟨p,ns,rss,ss,cs,ps,m,rfl,hD,hG,hm,k⟩:=h;rw[EY1 M z D];rw[AKG l]
  rw[GF (AIJ (WK (wX "stage" (G7 K (a1Q b (IX S.mono) rfl (QN HJ xP KB)))
 (wF "stage")) (AT3 a4D T.b_str AG8)))]
  refine⟨rfl,_,rfl,p,C,dx,_,_,rfl,e1,U.cl,U.n2,rfl,_,rfl,p,C,dx,_,_,rfl,e1,U.cl,U.n1,rfl,n,_,rfl,B4S,_,rfl,r,us,rss,ns.length,m,_,_,rfl,B4A,rfl,M,z,D,hG.k.n1,hG.k.n7,hm,hG.r3,λq' zs L H1 s1 G g F d=>?_,λH1 s1 R=>BB7 (A5R R)⟩;have k:AEB rwT L:=C15 EAP (XO L F);have e:L.length<=7:=by rw[F.len,<-aI];rw[ED 0x62a2df7d45a5 D]
  rw[C47 q' G];rw[EF (BF V0 vs zs as L (caps:=[]) (λt=>tO E5 BIO) (AJL XN 0x23634fcffd91ba9df17d6e l e) XN (aK G) rfl (λi v x H2 Q2 X Y o k2=>?_)) H2 p2 o j]
  .obtain⟨a,ys,qP,rfl,ha,hI,hL⟩:=aS i v X;obtain rfl:x=qP:=D5C Y.symm.trans hL;rw[DN (VO a _ (WN (AH o ha)) ?_) HP];have h1:=ML d x hL;exact b3h (EHQ D5W (by exact b8s h1)) (k2 _ A2W)
  .have hB:A8Y (L.map (λt=>BPG)) 60:=λy Z=>by
    rw[GQ t W Z];have:=d t W;exact a1y (EHQ BIO (by exact b8s this))
   have O:B3B EHA:=C3U hB;rw[List.length_map]at O;refine⟨bk,p2,EHA,60,rfl,rfl,C72,hB,DJL A69,AF,CXP o j⟩
inductive spSCh(C:qE)(vs:AA)(H:Hp)(Q:VK)(y_3:XK):Prop
 |mk (p t:qE) (us:AA) (qP:LLI) (ns:AB) (rss:LLI) (ss:qI) (cs:AO) (ps:qI) (_:iU IQ) (_:sY) (_:sK) (_:B62) (_:C3D) (_:Fw ns.length qP) (_:∀b H',BsP (P0 ps qP) b->BG->GL (ZC chT b)):fX spSCh
def sc_Desk_say_cheapest:AK4 ["self","some","found","price","vector"] "some" L9:={}
def Fw.in12{n:Nat}{a:LLI}(h:B8Z):∀r∈a,c9a r:=λr b x c=>by
 rw[LF ((EL r b).2 x c)]
def a4m(G:ALK "say_cheapest" "Desk.say_cheapest" L9 "some")(U:YF)(T:AT)(b:EVG)(a:CCQ):EVZ:=by
 rw[IH G.fnJ sc_Desk_say_cheapest I B]
 rw[F08 t us qP]
 .obtain⟨p,t,us,qP,ns,rss,ss,cs,ps,rfl,hD,hG,ht,hI,hF,k⟩:=h;obtain⟨dx,n,r,s',c,q,R,e1,e2,S,V,W,X,Y,J⟩:=hD.ex;rw[AKG d]
  rw[AD y hG.k.n7 l hG.k.pl];rw[BL (BU 2 sc_Desk_say_cheapest.nd (B5G B.mono a3x (oJ HJ))
 (A1 (C3 BSR
 AYH
 B7)
 (BU 3 sc_Desk_say_cheapest.nd oS
 (BU 4 sc_Desk_say_cheapest.nd (AZB B.mono oS)
 (SX c0r EM0)))))]
  rw[RT ⟨_,rfl,_,rfl,p,C,dx,_,_,rfl,e1,U.cl,U.n5,rfl,t,mZ,us,qP,ps,rfl,ht,hI,AJ HP hF.1,DG q J,BT 0xd76c38ec76e856e658766 y l,hF.in12,A7I v e⟩];rcases e with⟨e,rfl⟩|⟨m,xs,q1,j,rfl,z,L,e⟩
  .exact BY8 (k none H1 e s1)
  refine DEU;rw[AJ5 M N (e.cost hF y hG.k.pb) D F (hF.sz y xs N)];refine EFS q1 AHF (GR z);rw[CV ⟨_,rfl,q1,_,1,AK j,rfl,rfl,GR z,rfl,AK j,xs,rfl,DG j L,D,F,BIP O⟩];rw[DZ];have g:AR5 m.toNat 60:=a1y (x:=m) M;have o:=b0Q D F;have u:GK wd ": "=2:=by decide
  rw[cY (k _ H2 e (s1.trans O)) (show chT (some (m,xs))=Str.empty++E3 m.toNat++BVQ ++ vt xs by rw[Z2];rfl)];exact CD (DH ⟨m.toNat,LZ (jS (EE m.toNat) m),DF1 (A6H (m.toNat<CPX)),AJL Z2 0x6c602133597d1d8311f17d6e d g,BVQ,rfl,KG Z2 D8 (lq 0x5f443b6ac0807247db8a68cea0e7f11f17d6f d g u),_,rfl,CW (IZ rfl (BT 0x6c6029db6472804735f17d6e d o) F19 F19 this)⟩)
#where
#where
section
def ans_iff{rss:LLI}{v:qI}:AR8=true↔ATX (dot r v=0):=by
 rw[DBD Ans];rw[AY (EPW of_decide_eq_true) (EPW decide_eq_true)]
def b0K(rss:LLI)(n:Nat):AV5 Ans rss n=true:=ans_iff.mpr λr _=>b0y r n
def b3d(n:Nat):Sm (List.replicate n 0):=λz a=>SG (xL a)
section
variable {P:qG}{w:World}{K:qF}{mg:AZ}{base:Heap}{C:qE}
inductive spWay(vs:AA)(H:Hp)(Q:VK)(y_3:XK):Prop
 |mk (a:qE) (z:V) (us:AA) (rss:LLI) (n:Nat) (_:wO z) (_:sF) (_:OI) (_:UE z jZ) (_:QG us.length) (_:B6G) (_:OE) (_:fA) (_:BR1 []):HR spWay
def sc_way:DJ (ATI "one" "at" "places" "j") ADP b6F:={}
def c6D(F:B31 "way" b6F)(T:AT)(b:BB1)(c:CC2):ELH:=by
 rw[BP sc_way v j]
 rw[AAA a z n]
 .obtain⟨a,_,us,rss,n,rfl,ha,hI,⟨za,rfl,hz⟩,hl,hRl,n1,n7,k⟩:=h;have y:=j.u60;rw[tM B 10000]
  rw[BL (A1 (AOF (A8 b (uL j.mono 174586636) rfl aF)
 JV
 B7)
 (BU 2 sc_way.nd (iJ c j.mono b1I (ER XL))
 (eE 3 sc_way.nd jaN
 (A1 (b0l (c0c K y PM JD)
 (A05
 (A05
 JV)))
 DOP))))]
  rw[DN ⟨_,rfl,_,rfl,a,AK za,us,rss,_,rfl,ha,hI,DG za hz,AUI hl,hRl,b3d n,AFH⟩ b0K];rw[GD (DG true oQ) (BTO za (HH hz) (EBM a8u n1) (EBM b8L n7) (AJX D q e))];rw[List.length_map,List.length_replicate,Int.toNat_natCast]at e;rw[B2R q q];rw[DZ];rw[fC pl d];rw[GJ r q.upd ABW d];rw[IU t H2 pl [] pl []];have g:=rQ e.same AK1 [] d;rw[AJA pl [] u r t g];rw[DZ];rw[GN C l g];rw[DV (λ_ σ H'=>σ=[ZL,EZ za,D85,EZ pl,none]/\H'=u) (DG 0 rfl) ?_];rintro m σ H' ⟨rfl,rfl⟩;refine EUT 1 AG (EqV.ints (k:=true) (sqt l) (sqt (AH r hz))) B55;rw[FU,A6K];rw[LD (IZ rfl pl _ rfl (A24 (FD t) (λp x=>k p _ (r.upd x) A0)))]
inductive spSWay(C:qE)(vs:AA)(H:Hp)(Q:VK)(y_3:XK):Prop
 |mk (p:qE) (z:V) (ns:AB) (rss:LLI) (ss:qI) (cs:AO) (ps:qI) (_:iU z) (_:sY) (_:sK) (_:UE z AWJ) (_:BPT "-"):fX spSWay
def a4j:AK4 (YZ "one") "one" V9:={}
def b1w{Z:Tok}(I:ALK "say_way" "Desk.say_way" V9 "one")(U:YF)(T:AT)(a:BW mg "GREATEST_WAY" (.int 300 Z))(b:BB1)(e:EB7)(g:ELH)(d:CGF):EPD:=by
 rw[IH I.fnJ a4j L m]
 rw[CHI z]
 .rw[F1F z hz];obtain⟨dx,n,r,s',c,q,G,e1,e2,u,B,D,_⟩:=hD.ex;have F:=hG.k.n7;have hR:iY rss (GT t.length):=λt M=>HG (DGC M) a2O F
  rw[AKG S]
  rw[BL (A1 (AIN (WV (A8 b (uL m.mono 175201292) rfl BR7)) (a0p (MU e m.mono KB) (AZH (BD 300)))
 JV
 B7)
 (FE (MU d m.mono (QP (AIJ (WK (ZQ "j" "self" gO (G7 K (iJ g m.mono a5v BR7))
 (CWR "j")) (A66 B5U 0))) A4))))]
  rw[DN ⟨_,rfl,p,C,dx,_,_,rfl,e1,U.cl,U.n2,rfl,_,rfl,r,z,G,rss,_,rfl,u,B,hz,~~~a8p D,hR,b3d _,λH1 s1=>pR⟩ b0K];rw[WL (VO z _ (hz.same s1) (λH2 j=>B8P))];rw[a9C,vC decide_eq_false];rw[B2R j j];rw[LD ⟨rfl,_,rfl,p,C,dx,_,_,rfl,pZ j,U.cl,U.n2,rfl,_,rfl,r,z,G,rss,ns.length,rfl,AH j u,B.same j,hz.same j,BS 0xb208e3331b5a5 D,hR,hG.k.n1,F,λva H3 X l=>RB va (LY l) ?_⟩];rw[EF (BF V0 vs [] as CVH (caps:=[UU]) (GA V.non) CAD rfl DF7 rfl (λi v x J Q4 O _ _ _=>ADZ O)) J W Y o];exact⟨bk,W,[],8,rfl,rfl,UJ,(λy R=>nomatch R),CAD,CAD,_,_,rfl,k _ ((j.trans (X.trans Y)).upd o)⟩
#where
#where
section
noncomputable def AskA(ns:AB)(rss:LLI)(ss:qI)(cs:AO)(ps:qI)(x:Str)(zs:qI)(o:Out):Prop :=
 D22 BAF (AZ3/\zs=AWJ/\o=E6Q)
noncomputable def c9d(ns:AB)(rss:LLI)(ss:qI)(cs:AO)(x:Str)(zs:qI):Prop :=
 DXX ECX AWJ
section
variable {P:qG}{w:World}{K:qF}{mg:AZ}{base:Heap}{C:qE}
inductive spSBy(C CN CT:qE)(vs:AA)(H:Hp)(Q:VK)(E:XK):Prop
 |mk (p l:qE) (x:Str) (zs:qI) (ns:AB) (rss:LLI) (ss:qI) (cs:AO) (ps:qI) (_:vs=[EU,TQ,GV]) (_:sY) (_:sK) (_:xG CV6) (_:ECY) (_:CHB AOR CT):ETL spSBy
def sc_Desk_say_by:DJ ["self","word","numbers","found"] BSB a0d:={}
def c5K{H:Hp}{r c:qE}{us:AA}{ns:AB}{rss:LLI}{ss:qI}{cs:AO}{ps:qI}(hG:sK)(b:C1G)(d:OI)(e:B6T)(f:ANP):CTC r c :=
 ⟨⟨us,b,d,~~~a8p e⟩,f,IC,by have:=hG.k.cl;rw[LF hG.k.n7],λt a=>⟨A6D hG.k.cl (DGC a),λz h=>B16 (rZ hG.r3 a) z h⟩,λx g=>(hG.k.cb x g).1⟩
def b4K{CN R:qE}(FM:cN "say_by" "Desk.say_by" a0d BSB)(U:YF)(T:AT)(j:TR)(a:EMK)(y:BCK R)(u:EP8 R)(e:EWR R)(g:EPD)(d:EVZ):EWS R:=by
 rw[IH FM.fnE sc_Desk_say_by a4 D]
 rw[F08 l x zs]
 .obtain⟨p,l,x,zs,ns,rss,ss,cs,ps,rfl,hD,hG,L,hA,k⟩:=h;rw[A4H 900000]
  rw[EY1 e3 e4 e5];rw[AD n1 hG.k.n1 O hG.k.n7];have a1:=hG.k.cl;rw[BL (A1 (ANC
 (SX (a0g g j (B4W 178276924) EV) NU)
 B7)
 (A1 (ANC
 JV
 B7)
 (A1 (ANC
 (FE (AZB D.mono (uG (a1Q y (B4W 178277708) rfl (A43 HJ HJ oS)))))
 B7)
 (A1 (ANC
 (SX (c3O e j B28 EV) (ER oS))
 B7)
 (BU 3 sc_Desk_say_by.nd (a1Q u (B4W 178278492) rfl (uZ HJ HJ xP oS))
 (A1 (ANC
 (FE (B5 (AD0 DW4) DW4))
 B7)
 (SX (a0g d j (B4W 178275356) EV) (ER CVX))))))))]
  rcases hA with⟨m,rfl,hA⟩|⟨rfl,rfl⟩
  rotate_left
  .exact BY8 ⟨_,rfl,p,dx,_,rfl,e1,rfl,_,rfl,p,GV,ns,rss,ss,cs,ps,rfl,hD,hG,DG l L,C15 E6Q B61⟩
  have L:bU l [DT VA]:=L;have k:CHB BAF R:=λo h=>k o (.inl (DG m h));rcases hA with⟨rfl,M,J⟩|⟨rfl,M⟩|⟨rfl,M,J⟩|⟨rfl,M,J⟩
  .rw[GD (AGE B3F) ⟨_,rfl,p,C,dx,_,_,rfl,e1,U.cl,U.n2,rfl,_,rfl,p,C,dx,_,_,rfl,e1,U.cl,U.n4,rfl,_,rfl,l,_,_,_,rfl,rfl,B26,atc,r,c,rss,cs,m,_,rfl,rfl,c5K hG e3 e4 e5 e7,M,λZ t pp zs v ws F W k' H1 s1 Y ht hI a2 a3 a6 a5 hW X=>?_,λH1 s1 N=>BB7 (AJV C3E)⟩];have I:CCE v:=⟨F,W,k',hW,X,a2,a3⟩;have z:=I.fw J;rw[a1]at z;refine⟨Z,_,0,IQ,rfl,rfl,BW9,rfl,t,zs,v,ns.length,rfl,ht,hI,z,n1,O,BQM⟩;exact k (.ok (vts v)) (AJV ETF) H2 DGK
  .refine vF (AGE B3F);exact⟨_,rfl,p,dx,_,rfl,e1,rfl,_,rfl,l,_,_,_,rfl,rfl,B26,atc,p,ns,rss,ss,cs,ps,m,rfl,hD,hG,M,λo N=>k o (A94 N)⟩
  all_goals
   rw[GD (AGE (AGE ?_)) ⟨_,rfl,p,C,dx,_,_,rfl,e1,U.cl,U.n2,rfl,_,rfl,p,C,dx,_,_,rfl,e1,U.cl,U.n3,rfl,_,rfl,p,C,dx,_,_,rfl,e1,U.cl,U.n1,rfl,n,_,rfl,B4S,_,rfl,l,_,_,_,rfl,rfl,B26,atc,r,s',us,rss,ns.length,m,ss,_,_,rfl,B4A,rfl,e3,e4,e5,hG.r3,n1,O,M,hG.k.sl,hG.k.sb,e6,J,λZ t b pp zs ys v H1 s1 Y ht hI hb a0 I=>?_,A52 H1 N⟩]
  rotate_left
  .exact BB7 (DH (A94 C3E))
  rotate_left
  .exact BB7 (E2I C3E)
  .rw[EQF];rw[AD B (EJP 1) S (EJP 0)];rw[CV B3F];refine⟨_,rfl,Z,_,0,IQ,rfl,rfl,BW9,rfl,t,zs,_,ns.length,rfl,ht,hI,B,n1,O,BQM⟩;rw[AD l1 (b2M B O) l0 (b2M S O)];have l3:C7Z=3:=by decide
   refine⟨_,_,rfl,rfl,by show _+C7Z<=_;exact lq 0xab054c2e0e9d56ca5d1c48771175f7a8e5221d10a2af hz l1 l3,_,rfl,Z,_,1,FT,rfl,rfl,hE G Y,rfl,b,ys,_,ns.length,rfl,BVB G,a0.same G,S,n1,O,λH3 s3=>EAV ?_ ?_⟩
   .rw[D8];show _+C7Z+_<=_;exact lq 0x488403fd65cbf8da565e6a3ea64ff6f091dd37cc83d8a364e5221d10a2b0 hz l1 l0 l3
   .exact k AJG (DH (A94 ETF)) H3 (BZ1 G s3)
  .rw[EQF];have B:=a8I (t:=1) z;rw[CV DEU];refine⟨_,rfl,p,dx,_,rfl,HH e1,rfl,_,rfl,Z,_,0,IQ,rfl,rfl,BW9,rfl,p,t,zs,_,ns,rss,ss,cs,ps,rfl,hD.same s1,hG,ht,hI,B,AJX bb hB G⟩;exact k AJG (E2I (DH ⟨v,_,I,XO bb hB,rfl⟩)) H2 DGK
def c3Z(zs:qI):HX (inV .non (zs.map V.int)):=by
 rw[EY inV List.any_eq_false];intro v a;rw[dZ z AJQ];intro h;cases h
def c3Y{os:AO}(h:AA2):inV .non (os.map ovI)=true:=by
 unfold inV;exact List.any_eq_true.mpr ⟨.non,AOJ none h,rfl⟩
def c4g(l:AO):EK (l.map ovI).all L8:=by
 rw[B1A];intro v a;rw[dZ o AJQ];cases o<;>rfl
structure RdS(ws:AB)(os:AO):Prop where
 len:ws.length=os.length
 at_:∀(i:Nat) (w:Str) (o:EM),CP ws w->CP os o->E81
noncomputable def Said(ns:AB)(rss:LLI)(ss:qI)(cs:AO)(ps:qI)(x:Str)(os:AO)(a:A85):Prop:=(AA2/\BXN)∨B0L (((BHZ=false/\BXN)∨(BV9/\∃o,AOR/\EJT)))
structure LinP(ns:AB)(rss:LLI)(ss:qI)(cs:AO)(x:Str)(ws:AB)(os:AO):Prop where
 wl:ZF BKR (QG y.length/\32∉y.cps.toList)
 n9:DGQ
 rd:EI6
 ok:AA2∨B0L ((CV1∨(BV9/\ECY)))
noncomputable def Fs(CL:qE)(H:Hp)(Q:VK)(E:XK):JN A85
 |AU t=>ALQ t
 |none=>DP3
inductive spSay(K:qF)(C CL:qE)(vs:AA)(H:Hp)(Q:VK)(E:XK):Prop
 |mk (p:qE) (v:V) (ns:AB) (rss:LLI) (ss:qI) (cs:AO) (ps:qI) (_:iU v) (_:sY) (_:sK) (_:((∃(x:Str) (ws:AB) (os:AO),DK5/\EJQ/\∀a,DY7->Fs CL H Q E a)∨(∃t,CYN/\D1D/\DP3))):spSay K C CL vs H Q E
def sc_Desk_say:DJ ["self","line","words","numbers"] jY a2s:={}
def c6E{tT:Tok}{CN L CL:qE}(FM:cN "say" "Desk.say" a2s jY)(U:YF)(T:AT)(m:TR)(z:DRU)(d:BCN)(j:EOL)(b:EWS L)(hN:ClsN K CN L)(e:DCA CN)(g:DC8 L)(OL:EYO "NoLine" CL):EV9 CL:=by
 rw[IH FM.fnE sc_Desk_say a6 hr]
 rw[CHI v]
 .obtain⟨p,v,ns,rss,ss,cs,ps,rfl,hD,hG,O⟩:=h;rw[AKG a5]
  obtain⟨dx,n',r,s',c,q,us,e1,e2,_⟩:=hD.ex;rw[BL (A1 (AOF (ACD a2d (oJ (BTB (.ty "str") T.b_str c1i)))
 DYD
 B7)
 (BU 2 sc_Desk_say.nd (BS1 JD)
 (AIB (ASZ 3 sc_Desk_say.nd (N:=["word"]) (src:=[none]) (F8 K (X0 K PM (G2 A6) G3))
 DGZ) (eJ d (lY (AZG z)))
 (A1 (mI (O4 (b2j K G0 WU CO) (K7 (Q8 (WV (eJ j (jaC (ABK PM) (qS 3 xP)))))))
 DYD
 B7)
 (A3 (c7b (c3F hN (c3B b m BKO EV (QP (ABK PM) (AVH pB))) rfl e rfl g DAA DAA)))))))]
  rcases O with⟨x,l,os,rfl,G,k⟩|⟨t,hT,hk,k⟩
  rotate_left
  .exact A5T v _ t false hT hk _ rfl (E2 ⟨AJ0,k _ mG⟩)
  rw[AD a4 G.n9 Z G.rd.len];have X:B3B oF:=M6 (c:=32) (B:=100) λy hy=>A8I G.wl hy;rw[List.length_cons]at X;have a3:CA3 (MF oF) oF:=aB a2g λa ha=>(G.wl a ha).2;rw[GD (A5T _ _ _ true XX rfl _ rfl oQ) (F4B bk I a0)];rw[a3]at *;rw[ZZ AZ8 a0];rw[IS S H I AZ8 I AZ8];rw[xT (SF I AZ8) S];rw[CV ⟨_,rfl,1,rfl,I,_,rfl,FD S,λp2 a1=>DMZ p2⟩];rw[AY2 a1T];rw[IL s2 H1 A6S a1];rw[IS f2 H1 p2 A6S p2 A6S];generalize BGR A6S=H2 at s2 f2;rw[EF (CBM (YY l.map) os (λo=>ovI o) (LG (lq 0x236354650b644989f17d6e a5 a4)) (LG Z) (AL6 f2) rfl (λi v o M Q3 O Y s3 k3=>?_)) M u s3 a2]
  .rw[rK O y hy O];exact VO y o (G.rd.at_ i y o hy Y) k3
  rw[GJ n s3.upd AI7 a2];rw[IS F M u AI7 u AI7];rw[AGU (upd M u AI7)];rw[yB M u AI7 H4 n F];rw[AD n (s2.trans n) g1 (AH n S)];have n:=s1.trans n;rw[DZ];rw[DN (ZY u _ rfl (PX F) rfl (c4g _) _ rfl ?_) ETU];rcases G.ok with h|⟨zs,rfl,W⟩
  .rw[AE (c3Y h) (E2 (E2 ⟨AJ0,E9S (A5R h)⟩))]
  rw[pM F (BW H4 u D9X) F List.map_map]
  rw[D4Z ((FQ zs.map some ovI)=zs.map V.int),c3Z];rw[LD ⟨_,rfl,I,_,_,TQ,rfl,rfl,D6X,atc,_,rfl,_,rfl,p,C,dx,_,_,rfl,pZ n,U.cl,U.n1,rfl,n',_,rfl,WN (rO n),x,u,zs,ns.length,C05,F,?_⟩];rcases W with J|⟨J,W⟩
  .rw[J];exact CD (E2 ⟨AJ0,E9S (DH (DG zs (A5R J)))⟩)
  rw[J];rw[WW oQ];have s6:=n;rw[VD ⟨_,rfl,p,dx,_,rfl,pZ s6,rfl,_,rfl,I,_,_,TQ,rfl,rfl,D6X,atc,_,rfl,u,_,rfl,C8E F⟩ R s6.upd CV6 hq];refine⟨p,q,x,zs,ns,rss,ss,cs,ps,rfl,hD.same R,hG,A0,W,AS o ho⟩;have k:AEB b4F o:=C15 (BV b4F o) (DG zs (A5P J o ho rfl));cases o with
  |ok t=>exact AKY (k H' (R.trans s'))
  |na=>exact AKY (DG CN (AJV EO8))
  |tm=>exact AKY (DG L (AFZ EO8))
inductive spKInit(C CN:qE)(vs:AA)(H:Hp)(Q:VK)(E:XK):Prop
 |mk (p dx:qE) (L M:DW) (d:Dr) (_:iU (ZC ptW nR)) (_:C4Y) (_:DAF) (_:C8W) (_:C1L M) (_:C8J) (_:kS) (_:DHO) (_:DXY) (_:(∀(H':Hp),B3V->A38 DkAt d.names d.rows d.sides d.capsL d.pricesL->C7M->A2Y)) (_:(D38 dd dd BG (AU dd))):ERN spKInit
def sc_Desk___init__:AK4 (ACT "text" "system") "text" T3:={}
def b7R{CN:qE}(N:ALK "__init__" "Desk.__init__" T3 "text")(U:YF)(e:F29):DTS 11 BXT (spKInit C CN):=by
 rw[IH N.fnN sc_Desk___init__ O S]
 rw[ADX p dx L M d]
 .obtain⟨p,dx,L,M,d,rfl,hp,h0,hw,h9,y,h7,h2,hRf,k,k2⟩:=h;rw[AKG T]
  rw[BL (BU 2 sc_Desk___init__.nd (b3E e (IX S.mono) rfl KB)
 (B77
 (B77
 (B77
 (B77
 (B30 oS))))))]
  rw[RT ⟨_,rfl,L,M,d,rfl,h0,hw,h9,y,h7,hRf,DP v H1 m y s1,λX R dd H1 m hd s1=>k2 X R dd H1 m hd s1⟩];obtain⟨a,n,r,t,c,q,W,rfl,e1,e2,D,l,F,G,I⟩:=y.ex;have j:=AKP;have ne:∀{b:qE}{xs:AA},C7R b xs->ZS:=λh z=>by rw[B6V z j]
  have st:∀{H2:Hp}{o:HO},(BA6 DBZ)->BA6 (L1 H2 p o b u):=λh b u B g=>JM g (h b u B g)
  have k0:BA6 CN9:=RK h _ h;have na:=ne e1;rw[COV e1 j U.n1 AG k1 (D0P n) k0];rw[BCC k1 U.n2 1 k2 (tY BH4) k1];rw[BCC k2 U.n3 2 k3 (BH7 "sides" IQ BH4) k2];rw[BCC k3 U.n4 3 J (tY CTT) k3];rw[BCC J U.n5 4 k5 (BK0 "prices" q CTT) J];refine k _ m ⟨dx,n,r,t,c,q,W,A0,AM k5 e2 (ne e2),AM k5 D (ne D),⟨l.1,λi v h=>let ⟨x,h1,b,h2,h3⟩:=l.2 i v h;⟨x,h1,b,h2,AM k5 h3 (ne h3)⟩⟩,B20 l.1,AM k5 F (ne F),PU c8E (AM k5 G (ne G)),AM k5 I (ne I)⟩ (JL B g (AM k5 (HH B) g))
#where
#where
section
def a2e:eN "ValueError" "ValueError":=KK
structure Kl(K:qF)(C NL NT NY NA TM:qE)(b1 b2:Bool):Prop where
 z:B3U
 l:BLY NL b1
 t:BLY NT b2
 y:C6X NY
 a:C6X NA
 m:C6X TM
 v:CBL EA
section
variable {P:qG}{w:World}{K:qF}{mg:AZ}{base:Heap}{C:qE}
def c3A:BLB A6M "bool" false:=APL
inductive spCl(NL NT:qE)(vs:AA)(H:Hp)(Q:VK)(y_3:XK):Prop
 |mk (p:qE) (_:fD) (_:((WS (a5W p NL)/\DQ2)∨(∃dd,EKG NT/\BPT "text"))):spCl NL NT vs H Q y_3
def sc__law_class:VC ["_law_caught","_law_told"] "_law_caught" a0E:={}
def b7W{l m I G J:qE}(F:RQ "_law_class" a0E "_law_caught")(T:AT)(c:ZI "NoLine" l)(d:DC9 m)(g:ZI "NoLay" I)(a:DCA G)(b:DC8 J)(q:Kl K l l m I G J true false)(KT:Kl K m l m I G J false true):CAV (spCl l m):=by
 rw[BP sc__law_class S U]
 rw[BBO p]
 .rw[NJ C]
  have M:=U.u60;obtain⟨p,rfl,⟨e,k⟩|⟨dd,e,k⟩⟩:=h
  .rw[BL (ECW (AMX GV c) (AMX AUG d) (AMX AE4 g)
 (E7G (AMX (AK G) a) (AMX (AK J) b)
 (A1 (EWX J1
 AYH
 B7)
 EJ5)))]
   rw[ES4 ⟨_,rfl,p,l,_,true,rfl,e,q.z,fM q.l,_,rfl,p,l,_,false,rfl,e,q.z,fM q.t,_,rfl,p,l,_,false,rfl,e,q.z,fM q.y,PH 3,E11⟩ AXJ AXJ AXJ DPA];rw[F4S DPA ⟨_,rfl,_,rfl,p,l,_,false,rfl,e,q.z,fM q.a,_,rfl,p,l,_,false,rfl,e,q.z,fM q.m,AL3,F31⟩ AIR AIR AIR AIR AIR];rw[F7T ⟨_,rfl,p,l,_,true,rfl,e,q.z,CW (CD q.v),true,rfl,oQ⟩ 0 "line"]
   .cases C;rfl
   .exact DH2 O
  .rw[BL (ECW (AMY GV c) (AMY AUG d) (AMY AE4 g)
 (E7G (AMY (AK G) a) (AMY (AK J) b)
 (A1 (EWX J2
 AYH
 B7)
 EJ5)))]
   rw[ES4 ⟨_,rfl,p,m,_,_,false,rfl,e,KT.z,fM KT.l,_,rfl,p,m,_,_,true,rfl,e,KT.z,fM KT.t,_,rfl,p,m,_,_,false,rfl,e,KT.z,fM KT.y,PH 3,E11⟩ AXK AXK AXK DPB];rw[F4S DPB ⟨_,rfl,_,rfl,p,m,_,_,false,rfl,e,KT.z,fM KT.a,_,rfl,p,m,_,_,false,rfl,e,KT.z,fM KT.m,AL3,F31⟩ AIS AIS AIS AIS AIS];rw[F7T ⟨_,rfl,p,m,_,_,true,rfl,e,KT.z,CW (CD KT.v),true,rfl,oQ⟩ 1 "text"]
   .cases C;rfl
   .obtain rfl:j=0:=AF
    cases C;rfl
noncomputable def c7V(K:qF)(H:Hp)(v:V)(ns:AB)(rss:LLI)(ss:qI)(cs:AO):Prop :=
 (∃x ws os,DK5/\EJQ/\(AA2∨DNN))∨E6F
def Said.no{ns:AB}{rss:LLI}{ss:qI}{cs:AO}{ps:qI}{x:Str}{os:AO}{a:A85}(h:DY7)(g:AA2∨DNN):BXN:=by
 have no:∀zs:qI,none∉AZJ:=λzs c=>by
  rw[EHL DBA]
 rcases h with⟨_,rfl⟩|⟨zs,e,⟨_,rfl⟩|⟨b,o,_,_⟩⟩
 .rfl
 .rfl
 .rcases g with g|⟨zs',e',g⟩
  .rw[FF e g (mL g no _)]
  .rw[e]at e';rw[CBD ((D29).mp e')];rw[AW b g g]
inductive spSd(K:qF)(C:qE)(vs:AA)(H:Hp)(Q:VK)(y_3:XK):Prop
 |mk (p:qE) (v:V) (ns:AB) (rss:LLI) (ss:qI) (cs:AO) (ps:qI) (_:iU v) (_:sY) (_:sK) (_:ERG) (_:DQ2):spSd K C vs H Q y_3
def sc__law_said:DJ ["_law_desk","_law_line","_law_caught","e"] ["_law_desk","_law_line"] a1e:={}
def c2V{n B o:qE}(F:X3 "_law_said" a1e "_law_desk" "_law_line")(g:TR)(l:EV9 n)(d:BZ9 o)(e:BLW o)(y:DJP n o)(b:CAV (spCl n B)):ETC (spSd K C):=by
 rw[BP sc__law_said D z]
 rw[CHI v]
 .rw[F1F v hB];obtain⟨dx,O,r,s',c,q,R,e1,_⟩:=hD.ex;rw[BL (BU 2 sc__law_said.nd G0
 (A1 (c0f K (j:=3) (c0a l g (IX z.mono) EV KB) rfl d e sc__law_said.nd rfl rfl (E38 2 sc__law_said.nd 3))
 (FE (kA z.mono NU))))]
  refine F7E p dx e1 p v hD ?_;rcases hB with⟨x,N,os,rfl,G,L⟩|⟨t,I,M⟩
  .rw[AHB (AH5 x N os G (AS a J))];obtain rfl:=J.no L;exact AKY EWB
  rw[FN ⟨t,I,M,AKY EWB⟩]
inductive spMd(vs:AA)(H:Hp)(Q:VK)(y_3:XK):Prop
 |mk (L:DW) (wb:AB) (R:DW) (d:Dr) (_:DBP DDY) (_:CSH DDY) (_:C1L BR4) (_:C8J) (_:kS) (_:DHO) (_:CY7) (_:B4Z BLQ):HR spMd
def sc__law_made:VC ["_law_text","_law_caught","e"] "_law_text" a1g:={}
def c2Y{M g m fI:qE}(F:RQ "_law_made" a1g "_law_text")(T:AT)(l:wR MakeOkN "Desk" C 11 BXT (spKInit C g))(b:BZ9 m)(c:BLW m)(N:DJP g m)(u:MkX K g m fI)(D:mD dH "line")(a:CAV (spCl M g)):ETV:=by
 rw[BP sc__law_made O I]
 rw[pG L wb R d]
 .obtain⟨L,wb,R,d,rfl,hW,h9,hS,h7,h6,hR,k⟩:=h;rw[BL (BU 1 sc__law_made.nd G0
 (A1 (c3E K (j:=2) (b9Z l (IX I.mono) rfl WF) rfl b c sc__law_made.nd rfl rfl (E38 1 sc__law_made.nd 2))
 (A1 (wZ (Y8 (ACF I.mono KB) A4) (WV (ACD a2d (QP DFY (BTB (.ty "bool") T.b_bool c4p))))
 A8F
 B7)
 (FE DFY))))]
  rw[WW (B8V S n q)];rw[BCR r H q.symm S]
  have U:KO BC6:=gZ qV n r;refine⟨x,dx,L,BR4,d,rfl,A0,AL,hW,h9,hS,h7,h6,(λ_ _ e=>by rw[CM];exact hR),(CZM),λ_ _ dd H1 _ hd s1=>RB g N (pN G)⟩;rw[AD s1 (U.trans s1) J (s1.upd (o:=AGV) G)];rw[IS e2 H1 p AGV p AGV];have y:=K5 (o:=AGV) hd G;rw[A7T (AEF AGV) J e2 y];rw[qX];rw[CV (A51 _ p (DH (DX e2 (λV t=>BQZ))))];rw[AD B (rO t) z (AHA y)];refine F7H ?_;exact⟨_,_,_,false,rfl,VQ,c3A,false,rfl,C1 (F7H (k _ (J.trans t)))⟩
#where
#where
universe K52
namespace L2
open PySem PySem.Spec PyProof.Rows
open Builtin Builtin.Str
section
variable {X:Cx}{o e:Expr}{to te:TE}{qN qM pos p2:Pos}
inductive rUp(x:V)(vs:AA)(H:Hp)(Q:VK):Prop
 |mk (y:_) (_:rC y) (_:BWL) (_:OS tooLong (GK Txt.upper y)) (_:B4F Txt.upper y):A0K rUp
def b8e:MtR X "str.upper" rUp:=by
 rw[fE d c b];rw[RC y rfl rfl a q];rw[RH];cases b;exact call_gives PySem.F.slot_str_upper BJ5 PySem.F.entry_str_upper (PySem.F.args_str_upper_1 _) (gives_str_upper y t a) ⟨fit_le a,ZC Txt.upper y,H,UA,OZ,q⟩
def c0j(K:qF)(d:YK)(c:AQ:=by rfl)(a:aD "upper":=by rfl)(b:OM:=by rfl) :
  CI (AEN "upper" []) (EEL to):=⟨c2I K PySem.F.plainAttrs_str PySem.F.slot_str_upper PySem.F.type_str_upper b8e d.h c a b⟩
#where
universe L2
namespace K52
open PySem PySem.Spec PyProof.Rows L2
section
variable {H:Hp}{K:qF}{a b:qE}{i n:Nat}{ta:TA}{y:Str}{ys:AB}
noncomputable def toS(l:RU):Str:=⟨l.toArray⟩
noncomputable def spl:RU->BY9
 |[]=>[[]]
 |B5D=>if c=32 then[]::AHW else match AHW with
  |[]=>[[c]]
  |w::ws=>(c::w)::ws
def a7F:∀l,GY AHW
 |[]=>AG
 |B5D=>by
  rw[TL spl]
  .exact zU
  .split<;>exact zU
def a9j:∀l,D5E (A4A (FQ spl l) toS)=l
 |[]=>rfl
 |B5D=>by
  have a:=a9j l;rw[TL spl]
  .rename_i hc;subst hc;cases e:AHW with
   |nil=>exact mL e a7F l
   |cons w ws =>
    rw[e]at a;rw[List.map_cons,List.map_cons,W7];rw[List.map_cons]at a;rw[a];rfl
  .split
   rw[C61]
   .rename_i w ws e;rw[e]at a;cases ws with
    |nil =>
     have a:w=l:=a;subst a;rfl
    |cons w2 ws =>
     rw[List.map_cons,List.map_cons,W7]at a⊢;rw[<-a];rfl
def b2X:EAG (oX w (c∈l/\c≠32))
 |[],w,hw,c,a=>by
  rw[AW DSA a a]
 |d::l,w,hw,c,a=>by
  have b:=b2X l;rw[pK spl hw hw]
  .rw[BSP]
   .cases a
   .rw[AY (JC (DX5).1) (DX5).2]
  .rename_i hd;split at hw
   rw[C61]
   .rw[EQ4]
    .rw[A1N]
     .rw[AY BOO hd]
     rw[EE6 (b v EJH c a)]
    rw[EE6 (b w DHY c a)]
def a9i:EAG (w.length<=l.length)
 |[],w,hw=>BPL DSA
 |B5D,w,hw=>by
  have a:=a9i l;rw[D4V];rw[pK spl hw hw]
  .rw[BSP]
   .exact Nat.zero_le _
   .rw[A53 a w hw]
  .split at hw
   rw[C61]
   .rw[EQ4]
    .have:=a v EJH;rw[BO8]
    .rw[A53 a w DHY]
noncomputable def rdB(l:RU):qD (qD Int) :=
 BHB (c3g l) none (AJ7 (l=[49]) 1 (AJ7 (l=[48]) 0 (AJ7 (l=[53]) 5 (AJ7 (l=ESL) 2001 (if l=DS9 then BHE 1000000000000
 else B7N EWQ none)))))
noncomputable def b1r:BY9->qD AO
 |[]=>AU []
 |w::r=>match rdB w,b1r r with
  |AHE,D67=>AU (o::os)
  |_,_=>none
noncomputable def bdS(n:Nat)(y:Str):Bool:=(cP y.cps.toList.all c BJ6) && CJ (QG y.cps.toList.length) && match DYS with
 |[]=>false
 |BWS=>CJ DGO && match C92 with
  |none=>false
  |D67=>E01
inductive BadT(n:Nat)(y:Str):Prop
 |mk (x ws os:_) (_:y=CVZ) (_:(CQ z BKR (QG z.length/\32∉z.cps.toList))) (_:DGQ) (_:EI6) (_:(AA2∨B0L (HX C2I))):AWE
def a7B(l:RU):GK toS l=l.length:=by
 show l.toArray.size=_;simp
def c8v{l:RU}{o:EM}(h:W0 rdB l)(h1:C1N l)(h2:QG l.length):RdW (toS l) o:=by
 rw[VN rdB];rw[aZ (EK c3g l)]
 .rw[XA YA];rw[iP (EW (CW ⟨?_,B20 a7B,a⟩))];exact(b0O (w:=toS l) h1 (SG a7B)).1
 rw[B3X XZ b [49]]
 rw[AP9 B2B b 1]
 rw[B3X B2A d [48]]
 rw[AP9 AKJ d 0]
 rw[BWV]at h;rw[GC l [53]]
 rw[AP9 QH e 5]
 rw[B3X JQ f ESL]
 rw[AP9 BX7 f 2001]
 rw[B3X (BA f) g DS9]
 rw[AP9 (DF g) g 1000000000000]
 rw[BA g]at h;by_cases i:EWQ
 .rw[XA (DF i)];rcases i with rfl|rfl|rfl
  rw[CGE 1000000000001]
  rw[CGE 10000000000000]
  rw[CGE 20000000000000]
 rw[XA (BA i)]
def b6N:∀{a:BY9}{os:AO},OX b1r os->CQ w a EQG->RdS (a.map toS) os
 |[],os,h,_=>by
  cases h;rw[AY rfl (λi w o e _=>A5H)]
 |w::r,os,h,g=>by
  rw[VN b1r];cases e1:rdB w with
  |none=>rw[XA e1]
  |some o =>
   cases e2:b1r r with
   |none=>rw[B6V e1 e2]
   |some os' =>
    rw[B6V e1 e2];have f:=b6N e2 λw hw=>g w BKS;obtain⟨g1,j⟩:=g w List.mem_cons_self;rw[DU (nM ((·+1)) f.len) (DP i k o' b d)];cases i with
    |zero=>rw[pJ b d];exact c8v e1 g1 j
    |succ i=>exact f.at_ i k o' b d
def b0L:∀{os:AO},OS os.any Option.isNone->os=FQ os.filterMap id some
 |[],_=>rfl
 |none::r,h=>TJ
 |BVI::r,h=>by
  have:=b0L (os:=r) h;show _=BVI::(r.filterMap id).map some;rw[<-this]
def Z3(h:CJV):AWE:=by
 rw[VN bdS];rw[DHS Bool.and_eq_true];obtain⟨⟨h1,h2⟩,a⟩:=h;have h1:C1N y.cps.toList:=λc f=>BU4 (List.all_eq_true.mp h1 c f);rw[S1 h2 of_decide_eq_true h2 g b2X y.cps.toList];rw[S1 j a9i y.cps.toList i a9j y.cps.toList];cases e:DYS with
 |nil=>rw[SO a a]
 |cons x rest =>
  rw[e]at a g j i;have a:hQ (CJ DGO) (B9L C92 false os E01):=a;rw[DFF];rw[A7Q d a];cases e2:C92 with
  |none=>rw[AW e2 d d]
  |some os =>
   rw[e2]at d;have d:qZ BRK D1I:=d;have hw:∀w∈BWS,EQG:=λw hw=>⟨λc f=>h1 c (g w hw c f).1,A5K (j w hw) h2⟩;refine⟨CPA,rest.map toS,os,(Str.ext' (Array.toList_inj.mp i)).symm,AFR m,BKX of_decide_eq_true a,b6N e2 λw b=>hw w vJ,?_⟩
   .rw[GQ w b (B1F z (GS BWS toS) m)];rw[AY (A6D a7B (hw w b).2) (λq=>(g w b 32 q).2 rfl)]
   .cases e3:BRK with
    |true =>
     rw[ET o l k List.any_eq_true.mp e3];cases o with
     |none=>rw[MA l]
     |some z=>cases k
    |false =>
     rw[e3]at d;rw[iP (DX (b0L e3) ?_)];simpa using d
noncomputable def TX1(x o o1:Str):AB:=[(MR ""),CJF,(MR "say"),(MR "1"),(MR "of a"),(MR "least1"),x,(QK " "),(DU0 " "),(QK "  1"),(QK " 1 ")]
noncomputable def TX2(x o o1:Str):AB:=[QK " 1 1",QK " 01",QK " -1",QK " x",QK " 2001",QK " 1000000000000"]
noncomputable def TX3(x o o1:Str):AB:=[QK " 20000000000000",((PySem.Txt.upper x)++MR " 1"),QK "s 1",QK " +1",QK " 1.0"]
noncomputable def TX4(x o o1:Str):AB:=[MR "way",MR "way ",C4W " 1",(C4W " "),(RI " way"),(RI "way "),(RI "Way")]
noncomputable def TX5(x o o1:Str):AB:=[APV "way" o1,RI "ways",MR "lay",MR "lay ",RI "lay",CJG]
noncomputable def TX6(x o o1:Str):AB:=[C4X " 1",RI "lay 2001",RI "lay x",RI "lay -1",RI "lay 01"]
noncomputable def TX7(x o o1:Str):AB:=[RI "Lay 5",RI "lay  5",QK " 1\n",DU0 "\n",QK "\n1",QK " 1\n1"]
noncomputable def TX8(x o o1:Str):AB:=[C4W "\n",RI "way\n",C4X "\n",RI "lay 5\n"]
noncomputable def TX9(x o o1:Str):AB:=[C4X " ",CJH o1]
noncomputable def E8(n:Nat):Str:=BEK a0e " 1" n
noncomputable def N7:RU:=[1,2,3,4,5,6,7]
noncomputable def W8:AB:=[DK "01",DK "-1",DK "x",DK "1.",DK "1000000000001",DK "10000000000000",D8J,DK "a"]
noncomputable def nbs(w:Str)(n i:Nat):AB:=ABT i++[w]++ABT (LT-i)
def tx1:lD TX1:=BK
def tx2:lD TX2:=BK
def tx3:lD TX3:=BK
def tx4:lD TX4:=BK
def tx5:lD TX5:=BK
def tx6:lD TX6:=BK
def tx7:lD TX7:=BK
def tx8:lD TX8:=BK
def tx9:lD TX9:=BK
def c9h:ACQ (∀w∈W8,∀i∈B10 7,JP->EOF (D9N ELP)=true/\EOF (YT "lay" (YT "5" ELP))=true):=BK
def b8d(h1:OE)(h2:fA):DKK:=by
 have:∀m,m<8->AG1->m∈N7:=AG
 exact this n AF h1
inductive NS(a b:qE)(H:Hp):BZB
 |non:AEL .non
 |bl (x:Bool):AEL BWA
 |int (i:Int):AEL NQ
 |lst {p:qE}{xs:AA}(q:A73) (e:B52):C2Z
 |tup {p:qE}{xs:AA}(q:A73) (e:B39 p):C2Z
 |dK {p:qE}{qL:KM}(q:A73) (e:BRE):C2Z
def NS.mono{H':Hp}{v:V}(h:C2Y)(k:EVV):NS a b H' v:=by
 cases h with
 |non=>exact .non
 |bl x=>exact .bl x
 |int i=>exact .int i
 |lst q e=>rw[C7P .lst]
 |tup q e=>rw[C7P .tup]
 |dK q e=>rw[C7P .dK]
def NS.ty{v:V}(h:C2Y):E6F:=by
 cases h with
 |non=>exact FZ .non
 |bl x=>exact FZ BWA
 |int i=>exact FZ NQ
 |lst q e=>exact FZ (BQ e)
 |tup q e=>exact FZ (.tup e)
 |dK q e=>exact FZ (.dK e)
noncomputable def BadR(n:Nat)(a b:qE)(H:Hp)(v:V):Prop:=(∃y,AV2 y/\AWE)∨C2Y
def BadR.mono{n:Nat}{a b:qE}{H H':Hp}{v:V}(h:C71)(k:EVV):DNG:=h.imp id λh=>h.mono k
def BadR.v{v:V}{ns:AB}{rss:LLI}{ss:qI}{cs:AO}(h:AV4 ns.length H v):ERG:=by
 rcases h with⟨y,rfl,x,e,os,rfl,h1,h2,d,c⟩|h
 rw[GE (AH5 x e os ⟨h1,h2,d,c.imp id λq=>q.imp λzs q=>⟨EB,CW CZ⟩⟩ c)]
 rw[FN h.ty]
noncomputable def ETb(σ:L2.St)(te:TE)(y:Str)(i:Nat):Prop:=y.length<=50*i/\GP H Hp Q VK (xJ y) (ZG te Q)
noncomputable def EAt(σ:L2.St)(ta:TA)(ys:AB):Prop:=GP H Hp Q vS (AAZ ys.map V.str) (ZG ta Q)
section
variable {σ:L2.St}
def B8{s:Str}(h:s.length<=50:=by rw[OP]):ETb σ (tC (.str s)) s 1:=(AY4 h q)
def C7{x:Str}(h:ATO C1P)(a:D4N 50):ETb σ wE x 1:=AY4 a (DX h q)
def C0{ta tb:TE}{x:Str}{j:Nat}(h:ETb σ ta x i)(g:ETb σ tb y j)(hl:AF8<=20:=by decide):ETb σ (tS rAddStr) (x++y) AF8:=by
 rw[AD h1 CY g1 XN];rw[RX a]
 rw[AY (SG D8) (EM5 aS (EAV AF q))]
def a1B:EAt σ a0X []:=BH1 q
def B6{te:TE}(h:ETb σ te y i)(g:CEK):EAt σ (a3R te ta) MN:=EM5 g q
def c1y{Q:VK}(h:CEK)(hl:B2Q)(d:C83)(P:MO)(k:EPG BG (UZ p (HW ys.map))):kT b4i ta:=by
 rw[RX e]
 exact E9H (λp c=>k p _ (AZ2 H c) c A0)
structure Bl(n:Nat)(a b:qE)(H:Hp)(p:qE)(m:Nat):Prop where
 P:MO
 ex:∃vs,WG p vs/\vs.length<=m/\BXD/\LH vs C71
 q:A73
def b3X(c:C83):LH AYT C71:=λv d=>by
 rw[GQ y e d];rw[MA (DG y (c y e))]
def a0v{m:Nat}{d:qE}{Q:VK}(B:tF H d m)(h0:ATO BWI)(h:CEK)(l:C83)(hl:GT (m+ys.length))(k:BJP (tF H' p (m+ys.length))):tOp rCat wE (b4i ta) σ H Q:=by
 rw[RX u]
 obtain⟨vs,j,t,h1,s⟩:=B.ex;refine DX h0 (E9H (pN r));rw[A93 ys.map r];rw[VD ⟨d,p,_,_,rfl,rfl,HH j,A0,jG,AS q g⟩ f s1.upd (BQ (vs++AYT)) g];refine k q _ f ⟨B.P.same f,QU A0 (DJM List.length_map) B4D (dE c),E6 (B.P.same s1) g⟩;rw[CA (List.mem_append.mp c)]
 .exact BM6 s z _ (ATL f)
 .exact b3X l v z
def a0w{te:TE}{g:TG}{u:TS}{D:Ends}(h:ZA te x (ECI (u D))):EYL CBT:=h
#where
section
variable {P:qG}{w:World}{mg:AZ}{base:Heap}{C:qE}
inductive spBad(vs:AA)(H:Hp)(Q:VK)(y_3:XK):Prop
 |mk (a b:qE) (n:Nat) (_:wO (BD DO)) (_:MO) (_:OE) (_:fA) (_:EDH v DNG v):HR spBad
noncomputable abbrev IvB(a:qE)(b:qE)(n:Nat)(x:Str)(pl:qE)(H:Hp)(i:Nat)(σ:L2.St)(H':Hp):Prop:=∃(p:qE) (o5 o6 o7:eU),σ=[ZL,FP DO,C1P,AU (ZC E8 n),UU,o5,o6,o7]/\tF H' p E69/\NV/\UZ pl BNQ
def sc__law_bad:DJ ["_law_pot_here","_law_width","_law_word","_law_ones","_law_some","_law_number","_law_at","_law_numbers"] ["_law_pot_here","_law_width"] a2r:={}
def c5u:JY Ls4 (NF PySem.Txt.upper x 50/\x.length<=50):=BK
def c6C:ACQ (NF E8 n 50/\GK E8 LT<=50):=BK
def c6H(F:C0I "_law_bad" a2r "_law_width")(T:AT)(J:AAK)(C:BCO):EVH:=by
 rw[BP sc__law_bad c6 hr]
 rw[AAG a b n]
 .obtain⟨a,b,n,rfl,hP,n1,n7,k⟩:=h;rw[A74]
  have U:=b8d n1 n7;obtain⟨L,b2⟩:=c6C n U;rw[BL (BU 2 sc__law_bad.nd (eJ C (BXF B01))
 (BU 3 sc__law_bad.nd (WA a5L A4 1)
 (eE 4 sc__law_bad.nd (A9X (A9X (A9X (A81 DWO))))
 (B7J (QN dA dA (BS7 dA dA))
 (AFI (C8 (jaC dA (BS7 (AD0 (tL c0j 2)) dA)))
 (AFI (BLU (QN A4 A9H (uZ A9H RG RG RG)))
 (B7J (QN DY5 RG (BIA RG A4))
 (AFI (C8 (jaC A9H (uZ RG RG RG RG)))
 (B7J (QN RG RG DWO)
 (B7J (uZ A9H RG A9H RG)
 (AFI (C8 (jaC A9H (QN DY5 G0 (QN a0h A6 (jaC (C8 (ER dA)) (jaC (S9 (qS 2 A6)) (ER a8D)))))))
 (A1 (jN (F8 K (C8 (A9X (A9X B01)))) 5 sc__law_bad.nd
 (BU 6 sc__law_bad.nd (eJ J aF)
 (BU 7 sc__law_bad.nd (X4 (X4 (DPV (jv 6)) (C8 B24)) (DPV (WA a3Z CYK 6)))
 (A3 (lK 4 sc__law_bad.nd (DS X4 4 (C8 (QP (EA8 A3L) (EA8 (QP A4 A4))))))))))
 (FE (eJ C (GI 0 A88)))))))))))))))]
  refine fG (PH 4) p1 a3;rw[A93 Ls4.map a3];refine⟨a,b,p1,_,rfl,hP.same s1,A0,E6 hP a3,cG (0<4),ACZ 4,DP r2 H2 b1 P2 Y⟩;rw[GQ x X (B1F r2 CVB b1)];obtain⟨ul,I⟩:=c5u x X;have c5:OS PySem.Builtin.Str.tooLong E24:=decide_eq_false (A6H (¬(sizeLine<E24)));have l:=s1.off.trans Y;clear s1 Y b1 a3;rw[CV ⟨_,rfl,BF0,n,rfl,rfl,AG,AF,?_⟩];rw[DZ];refine a0w (BF c1y n n a a (b:=b) (ys:=BDG TX1) (B6 B8 (gY B8 B8 (gY B8 B8 (gY B8 BDY (sO QL EK8 QL QL))))) (ACZ 11) (CKZ tx1) P2 (DP p O u f3 e3));have B:tF O p 11:=⟨P2.same u,QU e3 (DKH (11<=11)) (DKH (0<11)) (b3X λy G=>CKH tx1),E6 P2 f3⟩;have l:=l.trans u.off;clear u f3 e3 P2;rw[A1T TX2 (gY QL QL (sO QL QL QL QL)) tx2 11 6];rw[A1T TX3 (B6 QL (sO (AQ3 (show ETb _ (EEL (tVar 2)) (PySem.Txt.upper x) 1 from(AY4 ul (A1D rfl x rfl c5 q)))) QL QL QL)) tx3 17 5];rw[A1T TX4 (B6 B8 (gY B8 ALF (sO ALF RO RO RO))) tx4 22 7];rw[A1T TX5 (gY (C0 B8 F6G) RO (sO B8 B8 RO B8)) tx5 29 6];rw[A1T TX6 (B6 ALF (sO RO RO RO RO)) tx6 35 5];rw[A1T TX7 (gY RO RO (sO QL EK8 QL QL)) tx7 40 6];rw[A1T TX8 (sO ALF RO ALF RO) tx8 46 4];rw[DZ];replace B:tF O p 50:=B;rw[GM a0w];rw[APB B.ex];have P3:=B.P;rw[qX];rw[GD (eC (C0 RO B8).2 (C0 B8 F6G).2 ?_) (AH ((C0 BDY B8 (hl:=AG))).2 (A6F A0D R a4))];rw[IL sa O CWC a4];rw[VD (fG AL3 S a2) sb sa.upd CPC a2];refine AS W a0;rw[GJ sd sb.upd nO a0];rw[HA (PH 8) pe a9];rw[A6Y se _ BFL a9];refine⟨_,pe,vs,_,rfl,rfl,AH ((sd.trans se)) e0,A0,PH (_+8),AS pf a5⟩;rw[AD sf (se.upd (o:=BQ CPZ) a5) ka (EVE (HE _ (o:=FX BG8) a2).upd O R CWC R)];rw[AD kb (EVE (HE _) COK S CPC S) kd (AH sf (BKA (upd CSW W nO W) A0))];rw[AD sH (sd.trans sf) qf (E6 (P3.same (sd.trans se)) a5)];have B9:tF CHU pf 100:=by
   rw[DV (P3.same sH) (QU A0 (CWW (QG (_+8))) B4D DF3) qf];rw[AHM hv]
   .exact CDS z sH
   .rw[nK z];rcases z with rfl|rfl|rfl|rfl|rfl|rfl|rfl|rfl
    rw[F34 (.head _)]
    rw[F34 BAI]
    rw[FN .non]
    .exact bQ .bl _
    .exact bQ .int _
    rw[FN (.lst (E6 P3 a4) ka)]
    rw[FN (.tup (E6 (P3.same sa) a2) kb)]
    rw[FN (.dK (E6 (P3.same sb) a0) kd)]
  have l:=l.trans sH.off;rw[AGU CHU];generalize CHU=H9 at B9 l;clear B e0 N M D P3 sa sb sd se sf sH ka kb kd a4 a2 a0 a9 a5
  try rw[DZ]
  rw[DU (PH 8) (λpl a6=>DMZ pl)];rw[IL sl H9 BNQ a6];have ql:QX pl:=E6 B9.P a6;have B0:tF (upd H9 pl BNQ) pf (100+2*0):=by
   rw[APB B9.ex];rw[AX (B9.P.same sl) ⟨vs,AH sl e0,N,M,λv hv=>CDS hv sl⟩ B9.q]
  refine VM O5 pl (YY W8.map) (IvB a b n x pl H) (mQ pf none none none B0 (l.trans sl.off) A0) (OB σ ?_) ?_ ?_
  .obtain⟨_,_,_,_,_,_,_,e⟩:=h;exact SqL.of e
  .clear B9 B0 l sl a6;rintro i v σ H1 hv ⟨p,o5,o6,o7,rfl,B,l,el⟩;rw[rK hv t a1 hv];have c9:i<8:=IB a1;have a1:=List.mem_of_getElem? a1;rw[CV ⟨_,rfl,_,rfl,a,b,DO,rfl,B.P,AF,yU (show DO<=7 by omega),DR r H2 c7 c8 P2 Y⟩];obtain⟨d,rfl⟩:QE g (r=g):=⟨r.toNat,AF⟩;rw[rP ha (d<n)]
   obtain⟨tw,tl⟩:=c9h n U t a1 d (IX List.mem_range.mpr) ha;have B2:tF H2 p E69:=by
    rw[APB B.ex];rw[AX P2 ⟨vs,AM Y B.q e0,N,M,λv hv=>BM6 D hv q EC3⟩ B.q]
   rw[AD l (l.trans Y) el (AM Y ql el)];clear B Y P2;rw[DZ];rw[DU A0D (λq1 b3=>A5T q1 _ _ rfl A0 AF AF (by rw[BUB];rw[MJ (1*_<=_)]) (λq2 b4=>fG A0D q3 b5))];have fr:∀m:Nat,hV m AXZ=GS (ABT m) V.str:=λm=>by
    induction m with
    |zero=>rfl
    |succ m ih=>rw[B91 ih]
   rw[Int.toNat_natCast,fr]at *;rw[AD u1 (HE H2 (o:=BQ AXZ) b3) u2 (u1.upd (o:=uX BFC) b4)];rw[IL u3 _ (ABP BF8) b5];rw[VD ⟨q2,q3,_,_,rfl,rfl,AH u3 A0,A0,CWS List.length_replicate aT,AS q4 b6⟩ u4 (A1X u2.trans u3) (BQ AIW) b6];rw[IU e4 F2K q4 AIW q4 AIW];generalize FB F2K q4 AIW=H4 at u4 e4⊢;clear u1 u2 u3;rw[DU A0D (λq5 b7=>⟨_,rfl,_,_,rfl,rfl,_,rfl,_,_,rfl,rfl,q5,_,_,rfl,rfl,A0,AF,AF,?_,AS q6 b8⟩)]
   .rw[jS E9V BHT];rw[MJ (1*_<=_)]
   rw[jS E9V BHT,fr]at *;rw[GJ u6 (BQL (HE H4) AXZ b7) (uX BL9) b8];rw[VD ⟨q4,q6,_,_,rfl,rfl,BVC u6,A0,B19,AS q7 b9⟩ u7 (A1X u4.trans u6) B0U b9];rw[show(AIW++YY (GS BL9))=cD nbs t n d V.str by unfold nbs;rw[List.map_append,List.map_append];rfl]at *;rw[IS e7 F0G q7 B0U q7 B0U];rw[AY6 F0G q7 B0U H7 u7 e7];clear u4 u6 e4;have Z:iQ nbs t n d=n:=by rw[A6E nbs];omega
   have hB:∀(r:AB),CQ y r (ARV 60)->A8Y (vA r) 60:=λr hr y G=>by
    rw[B1T w8 (A8Y W8 60)]
    rw[B1T w1 (NF wd "1" 60)]
    unfold nbs at G;rw[CA (List.mem_append.mp G)]
    rw[JR hr y]
    .rw[AMT]
     .rw[AMT]
      .rw[AE C2V w1]
      rw[A8M (w8 t a1)]
     .rw[AE C2V w1]
   rw[DZ];rw[APB B2.ex];rw[AD a7 (hB A3S BK) a8 (hB A3Y BK)];have j1:B3B DEH:=C3U a7;have j2:B3B DEI:=C3U a8;rw[List.length_append,Z]at j1 j2;have l1:UG (A3S:AB)=1:=rfl;have l2:UG (A3Y:AB)=2:=rfl;rw[l1]at j1;rw[l2]at j2;refine oR rfl A0D (AS q8 c0);rw[IL u8 H7 (A2T A3S) c0];rw[VD (F5D q8 u8 (1+_) q9 c1) u9 u8.upd (uX (vA A3S)) c1];rw[VD ⟨bk,q9,DEH,60,rfl,rfl,DNI,a7,ES6 l1,AF,rfl,AL3,AS qa c2⟩ ua u9.upd (A2T A3Y) c2];rw[VD (F5D qa ua (2+_) qb c3) ub ua.upd (uX (vA A3Y)) c3];rw[VD ⟨bk,qb,DEI,60,rfl,rfl,DNI,a8,ES6 l2,AF,AL3,AS qc c4⟩ uc (A1X u7.trans ub) (BQ CSR) c4];rw[VD ⟨p,qc,vs,_,rfl,rfl,AH uc e0,A0,PH (_+2),AS qd b0⟩ ud uc.upd (BQ (vs++CSR)) b0];refine mQ qd _ _ _ ⟨B2.P.same ud,QU A0 (by rw[wI];rw[MJ (_+2<=_)]) B4D DF3,E6 (B2.P.same uc) b0⟩ (l.trans ud.off) (AH ud el);rw[AHM hv]
   .exact CDS z ud
   .rw[A96 z z]
    rw[BON tw]
    rw[BON tl]
  .rintro σ H1 ⟨p,o5,o6,o7,rfl,B,l,el⟩;rw[APB B.ex];rw[A4E (xH W8.map) 8 rfl]at N;exact⟨_,rfl,_,rfl,a,b,p,vs,rfl,B.P,e0,B.q,M,AF,λr H2 hr P2 Y=>k r H2 ((D r hr).mono λp o q e=>EC3) P2 (l.trans Y)⟩
#where
#where
section
variable {C:qE}{K:qF}{P:qG}{base:Heap}{cs:AO}{mg:AZ}{ns:AB}{ps ss:qI}{rss:LLI}{w:World}{x:Str}
def DkAt.pot{C:qE}{H H':Hp}{p a b:qE}{ns:AB}{rss:LLI}{ss:qI}{cs:AO}{ps:qI}(h:sY)(hp:A73)(P:MO)(o:NV):E6X:=by
 rw[F2Z k d i j ⟨dx,n,r,t,c,q,k,AM o hp e1,BA0 e2 e2,BA0 d d,Its.pot i P o,j,AM o (L6 P e) e,BA0 f f,BA0 g g⟩]
def Ask.one{ns:AB}{rss:LLI}{ss:qI}{cs:AO}{ps:qI}{x:Str}{m:Nat}{o o':Out}(h:BAF)(g:mK Ask ps x m o'):B8Q:=by
 have d:∀{y z:Str},(x=y)->(x=z)->dF (y=z)->False:=λe1 e2 n=>by rw[<-e1,<-e2]at n;simp at n
 rcases h with⟨e,h⟩|⟨e,h⟩|⟨e,h⟩|⟨e,h⟩<;>rcases g with⟨e',g⟩|⟨e',g⟩|⟨e',g⟩|⟨e',g⟩
 rw[EH0]
 rw[YN]
 rw[YN]
 rw[YN]
 rw[YN]
 .exact h.one g
 rw[YN]
 rw[YN]
 rw[YN]
 rw[YN]
 rw[EH0]
 rw[YN]
 rw[YN]
 rw[YN]
 rw[YN]
 rw[D3B (p.one q)]
def Ask.ls{m:Nat}{o:Out}(h:BAF):BYZ:=by
 rcases h with⟨rfl,_⟩|⟨rfl,_⟩|⟨rfl,_⟩|⟨rfl,_⟩
 .exact .head _
 .exact BV5 (BV5 BAI)
 .exact BAI
 .exact BV5 BAI
noncomputable def WdM(x:Str)(m:Nat):Prop:=(DDL/\m<=60)∨(EAY)∨((DDM∨DDN)/\m<=60)
def WdM.p{m:Nat}(h:DKR):ECX:=by
 rcases h with⟨rfl,h⟩|⟨rfl,h⟩|⟨rfl|rfl,h⟩
 rw[GE CAK]
 .exact A94 h
 rw[FN (AQG CAK)]
 rw[FN (A6V CAK)]
def RdS.zs{zs:qI}(h:∀z∈zs,ED3):RdS (zs.map E5) AZJ:=by
 rw[DU BM2 (DP i w o hw a)];rw[List.getElem?_map]at hw a;rw[ARI z b hw];rw[AW b a a];rw[QC (ML h z b)];rw[MA (jA z rfl h1 h2)]
def Said.yes{zs:qI}{a:A85}(h:D2Y AZJ)(g:BV9):∃o,EJT/\AOR:=by
 rcases h with⟨h,_⟩|⟨zs',e,⟨c,_⟩|⟨_,o,b,rfl⟩⟩
 .rw[EHL D75]
 .rw[CBD EC5];rw[AW c g g]
 .rw[CBD EC5];rw[PZ o b]
def AskA.one{ns:AB}{rss:LLI}{ss:qI}{cs:AO}{ps:qI}{x:Str}{zs:qI}{o o':Out}(h:AOR)(g:mK AskA ps x zs o'):B8Q:=by
 rw[B1T hw (wd "way"∉Ls4)]
 rcases h with⟨m,e,h⟩|⟨e,_,rfl⟩<;>rcases g with⟨a,e',g⟩|⟨e',_,rfl⟩
 .rw[e]at e';injection e' with e1
  obtain rfl:m=a:=AF
  exact h.one g
 rw[HQ (e' ▸ h.ls) hw]
 rw[HQ (e ▸ g.ls) hw]
 .rfl
def MakeOkN.no{k:Nat}{ps:AB}{sp:Sp}(O:EXN):EPA EDI:=by
 rw[AOT h1 h2 c b];refine⟨f,fd,h1,h2,c,F56 m (DXH a m vs Q)⟩;cases r with
 |error e =>
  obtain⟨_,_,_,_,_,_,_,_,_,_,_,_,_,_,_,z⟩:=h;exact z.elim
 |ok fl=>cases fl<;>exact h
def MethOkE.no{m:Str}{k:Nat}{ps:AB}{sp:Sp}(O:CFA k):CR7 m EDI:=by
 obtain⟨f,fd,h2,c,b⟩:=O.ex;refine⟨f,fd,h2,c,F56 n (DXH a n vs Q)⟩;cases r with
 |error e =>
  obtain⟨_,_,_,_,_,_,_,_,_,_,_,_,_,z⟩:=h;exact z.elim
 |ok fl=>cases fl<;>exact h
structure Gd(n:Nat)(y x:Str)(zs:qI):Prop where
 e:y=MF (x::BPN)
 w:(QG x.length/\C60)/\zs.length<=20/\CQ z zs ED3/\C2I=true
 k:DXX DKR jZ
def Gd.p{ns:AB}{rss:LLI}{ss:qI}{cs:AO}{y x:Str}{zs:qI}(h:EOW):CW1 x BPN (zs.map some):=by
 obtain⟨⟨f,g⟩,i,b,j⟩:=h.w;refine⟨AFR a,LG i,RdS.zs b,DH (DG zs (DH (GZ j)))⟩
 .rw[A1N]
  .rw[AY f g]
  .rw[PY u hu AJQ];rw[HN c d (b u hu) (Nat.le_trans (a1y ⟨c,Int.lt_of_le_of_lt d BK⟩) AG) (vC c4h)]
 .rcases h.k with⟨m,e,k⟩|k
  rw[GE ⟨m,e,k.p⟩]
  rw[FN k]
noncomputable def Lt(n:Nat):AB:=[DK "least 60",DK "beyond 60",DK "rows 30",DK "cheapest 60",BA9]
def c0C:ACQ ((BA9=MF (YT "way" (cB n 0 map E5))/\BMC "way" jZ/\FO BA9<=50)/\E0S (DK "least 60" ++ D8K)/\E0S (BA9++D8K)):=BK
def c4c:ACQ (C8O "least"/\C8O "beyond"/\BMC "rows" [30]/\C8O "cheapest"):=BK
def c9q:(BAO "least 60" "least" 60/\BAO "beyond 60" "beyond" 60)/\BAO "rows 30" "rows" 30/\BAO "cheapest 60" "cheapest" 60:=BK
def b8k:JY (D9N Ls4) (QG x.length/\C60):=BK
def c1G(z:Int)(h:z=60∨z=30):∀u∈[z],BPS u u:=λu a=>by rw[A6O];rw[C5Z]
def c8N{n:Nat}(b:DKK):ZF (Lt n) (∃x zs,Gd n y x zs):=λy c=>by
 obtain⟨⟨g1,i⟩,j,k⟩:=c9q;obtain⟨e,f,g,h⟩:=c4c n b;obtain⟨⟨o,p,_⟩,_⟩:=c0C n b;have a:∀m∈N7,m<=20:=by decide
 have d:n<=20:=a n b;unfold Lt at c;rw[BCU c c]
 rw[BCA g1 HK e 60 (AJV AG)]
 rw[BCA i HK f 60 (A6V (BIJ HK))]
 rw[BCA j A80 g 30 (A94 AG)]
 rw[BCA k HK h 60 (A6V (BIJ A80))]
 .exact QU _ o ⟨CNG,AJ List.length_replicate d,λz l=>B15 (xL l),p⟩ DJW
structure Sa1(ns:AB)(rss:LLI)(ss:qI)(cs:AO)(ps:qI)(y:Str)(v:V):Prop where
 ex:∃x zs o,EOW/\AOR/\v=E3R
structure St6(C:qE)(H:Hp)(a b d l r:qE)(v:V)(ns:AB)(rss:LLI)(ss:qI)(cs:AO)(ps:qI)(vs:AA):Prop where
 P:MO
 S:SysAt H v ns rss ss cs ps
 D:BF4 (DkAt C H d ns)
 q:QX d
 L:xG AGT
 ql:QX l
 R:WG r vs
 qr:QX r
section
variable {H H':Hp}{a b d l r:qE}{v:V}{vs:AA}
def St6.same(h:EWG)(s:BG):CFP:=⟨h.P.same s,h.S.same s,h.D.same s,h.q,HF h.L,h.ql,HF h.R,h.qr⟩
def St6.pot(h:EWG)(P:VE)(o:NV):CFP:=⟨P,h.S.pot h.P o,h.D.pot h.q h.P o,h.q,AM o h.ql h.L,h.ql,AM o h.qr h.R,h.qr⟩
#where
def c7W:Wl XH:=DXA
def c9f:Wl B7B:=D0I (by unfold wBad;decide)
def c9g:Wl CG7:=DXA
def b3j{L:DW}(h:sB)(a:AB):ptW (L++[a])=ptW L++lf++DAC bk:=by
 unfold ptW lnW;rw[AE List.map_append (S8 DUD zU)]
def c2e{L:DW}(h:sB)(b:AB):ptW (b::L)=BOP++lf++ptW L:=by
 unfold ptW lnW;exact S8 (a:=[BOP]) zU DUD
noncomputable abbrev IvT(C a0 a b d l r:qE)(v:V)(ns:AB)(rss:LLI)(ss:qI)(cs:AO)(ps:qI)(vs:AA)(σ:L2.St)(H':Hp):Prop:=∃(o7 o8:eU),σ=[EZ a0,ZL,SK,ADA EEC,BWI,B2G,EZ r,o7,o8,none]/\CFP
def sc_law:DDU ["_law_script","_law_pot_here","_law_system","_law_text","_law_desk","_law_lines","_law_said_here","_law_turn","_law_k","_law_many"] a4X:={}
def c6G{S CN CL:qE}{f:qE}{fd:FuncData}(F':Fun K "law" "law" a4X f fd)(T:AT)(F:Cls K S)(I:EN7)(C:AAK)(B:EOV)(t:EOU)(U:wR MakeOk "Desk" S 11 BXT (BRW (spKInit S CN vs H Q)))(q:wR MethOk S "say" 12 jY (BRW (spSay K S CL vs H Q)))(G:EVH)(p:ETC (spSd K S))(c:ETV) :
  EQC (ACJ base CX0 14 f):=by
 refine F'.okJ sc_law (DP vs H Q E h) (F3Q c4 D ?_)
 rw[SA a ns]
 .obtain⟨a0,cs,rfl,hS,hl,kk⟩:=h;rw[C26]
  rw[BL (BU 1 sc_law.nd (yJ I WF)
 (BU 2 sc_law.nd (yJ B KB)
 (BU 3 sc_law.nd (yJ t NU)
 (AO9 4 sc_law.nd (c0q U B28 rfl pB)
 (eE 5 sc_law.nd (jaC A4 (BIA A4 (D2Q DGJ)))
 (AIB (AIU 6 sc_law.nd "_law_line" "_law_desk" BIQ (AW2 5)
 (A3T "_law_line" "_law_desk")) (a0g q F B28 JD WF)
 (A1 (jN (AOQ A6) 7 sc_law.nd
 (A1 (C3 (Y8 (yJ p (qS 4 (yJ G (oJ DGJ)))) A4)
 VW
 B7)
 (BU 8 sc_law.nd (yJ C (oJ (AB8 B24)))
 (A3 (C3 (Y8 (a0g q F B28 AVW (ER (E68 yF))) (E68 (jv 6)))
 VW
 B7)))))
 (A1 (wZ (Y8 DX9 A4) (Y8 DX9 A4)
 VW
 B7)
 (BU 9 sc_law.nd (BET DRO)
 (A1 (wZ EQ5 EQ5
 VW
 B7)
 (BNV (AHV (BOR A3L)) (AHV (BOR (ER RG))))))))))))))]
  refine A1D a0 cs hS AF (λa b H1 _ _ P1 _=>?_);rw[CV (VO a b P1 (λv ns rss ss cs ps H2 hv R h3 P2 _=>?_))];rw[DZ];have hG:sK:=⟨R,λr D=>⟨(R.rw r D).1,h3 r D⟩⟩;rw[AD n1 R.n1 n7 R.n7];have hn:=b8d n1 n7;rw[RT ⟨_,rfl,v,ns,rss,ss,cs,ps,rfl,hv,R,AS Z s3⟩];obtain⟨d,hd,d1,d2,d3,d4,d5⟩:=c5C R;rw[WQ hw c9 a6J R];have O:GY yS:=by unfold V2;exact zU
  rw[WW (B8V hx b1 b3)];rw[BCR b4 Z b3.symm hx]
  have s0:Same Z (upd (D0T Z) x (.ins S dx [])):=gZ (HE Z) b1 b4;refine⟨x,dx,yS,[],d,by show[V.ref x,bV EEC]=[V.ref x,tO ptW (yS++[])];rw[List.append_nil],A0,A5M O,A5M hw,SG List.append_nil,hd,BQN,CZH,(DN3),λH4 _ a1 kp=>rX,(gA z lN)⟩;rw[d1,d2,d3,d4,d5]at a1;have s4:Same Z H4:=EGM;have qx:QX x:=E6 (P2.same s3) hx;rw[S1 s4 s3.trans s4 hv hv.same s4];have P4:=P2.same s4;clear s0 s3 s4 kp b4 hx b1 b3 P1 P2 h3;rw[DZ];obtain⟨⟨_,_,c3⟩,b7,b8⟩:=c0C ns.length hn;obtain⟨sv,sn,sr,st,d0,sp',d6,rfl,e1,e2,_⟩:=hv.ex;have zl:BWR "way"=3:=by rw[OP]
  have rl:FO (CNV ns.length)<=50:=by rw[D8]at c3;omega
  refine⟨_,rfl,sv,_,0,AK sn,rfl,rfl,D7N,rfl,sn,_,rfl,B4S,DK " 0",ns.length,rfl,B4A,AG,AF,_,_,rfl,rfl,SG zl,PH 5,DT2⟩;rw[IL s5 H4 AGT hl];rw[IS e5 H4 l AGT l AGT];have ql:=E6 P4 hl;rw[AGU EJC];rw[S1 a6 hv.same s5 X a1.same s5];have P5:=P4.same s5;generalize EJC=H5 at s5 e5 a6 X P5;clear s5 hl P4 hv a1 e1 e2;rw[CV (ZP l (hJ e5))];refine R1 (xs:=(Lt ns.length).map V.str) (by rw[AH3];show CC 5;omega) (uT (AJM H5/\ADJ i/\∀(j:Nat) (y:Str) (u:V),JH ((Lt ns.length)) y->JH ys u->mK Sa1 ps y u)) (DG A2W (λj y u _ z=>A2I)) (OB ys ⟨B5O e5,BPL YB⟩) ?_ ?_
  .rintro i u ys H6 hu ⟨s6,hyl,hy⟩;rw[rK hu y b5 hu];obtain⟨x',zs,J⟩:=D5P c8N hn y b5;have b0:=X.same s6;obtain⟨c0,_,_,_,_,_,_,o6,_⟩:=b0.ex;rw[B4I];refine F7E x c0 o6 x A8Z b0 (F0T (LZ J.e));rw[aQ o hA a3.yes (pI J.w)];refine λH7 Y=>⟨s6.trans Y,ALC hyl,DP j y2 u2 e2 e3⟩;rw[CA (Nat.lt_or_ge j ys.length)]
   .rw[FF (List.getElem?_append_left z) e3 (hy j y2 u2 e2 e3)]
   .rw[List.getElem?_append_right z]at e3;have hj:DSD=0:=by
     cases e4:DSD with
     |zero=>rfl
     |succ m=>rw[AW e4 e3 e3]
    rw[AW hj e3 e3];obtain rfl:j=i:=AF
    rw[B08 b5];rw[ID x' zs o J hA rfl]
  rintro rs H6 ⟨s6,a5,c2⟩ r a4;rw[A8C Y s6.upd rs a4];rw[IU e7 H6 r rs r rs];have qr:=E6 (P5.same s6) a4;generalize FB H6 r rs=H7 at Y e7⊢;have S7:EVR (St6 S H7 a b):=⟨P5.same Y,a6.same Y,X.same Y,qx,AH Y e5,ql,e7,qr⟩;clear s6 Y a4 e5 e7 P5 a6 X;rw[List.length_map]at a5;have a5:rs.length=5:=a5;rw[CV ⟨20,rfl,AG,AG,?_⟩];rw[CF6 (n:=20) (GA (EVR (IvT S a0 a b))) (oB none none S7)]
  .clear S7;rintro i σ H1 _ ⟨o7,o8,rfl,W⟩;rw[DZ];obtain⟨_,b6,_,_,_,_,_,z1,e1,e2,_⟩:=W.S.ex;cases z1;refine⟨_,rfl,_,rfl,_,rfl,sv,_,0,AK b6,rfl,rfl,D7N,rfl,b6,_,rfl,B4S,a,b,ns.length,C05,W.P,n1,n7,DP u H2 hB P2 f2⟩;have S2:=W.pot P2 f2;clear W f2 P2 e1 e2;refine⟨x,u,ns,rss,ss,cs,ps,rfl,S2.D,hG,hB.v,EBL⟩;have S3:=S2.same s3;clear S2 s3;refine⟨_,rfl,_,rfl,l,_,rfl,PX S3.L,a,b,5,rfl,S3.P,AG,BK,DR r4 H4 c5 c6 P4 f4⟩;obtain⟨k,rfl⟩:QE g (r4=g):=⟨r4.toNat,AF⟩;have S4:=S3.pot P4 f4;clear S3 f4 P4;have hk:k<GK Lt ns.length:=by rw[MJ (k<5)]
   rw[rP b2 (k<rs.length)]
   obtain⟨x',zs,o,J,hA,ev⟩:=(A7U (c2 k _ _ (MX hk)) b2).ex;obtain⟨b9,_,_,_,_,_,_,o4,_⟩:=S4.D.ex;rw[CV ⟨_,rfl,x,b9,_,rfl,o4,rfl,_,rfl,_,rfl,l,_,_,_,rfl,rfl,FD S4.L,E0W hk,x,_,ns,rss,ss,cs,ps,rfl,S4.D,hG,F0T (B14 J.e)⟩];rw[aQ o' c1 a3.yes (pI J.w)];refine AS H5 s5;have S5:=S4.same s5;refine F5F r E3R (FD S5.R) (PU ev (A7U K4 b2));rw[FK (c1.one hA) A6K C1 (KS _ rfl S5)]
  .clear S7;rintro σ H1 ⟨o7,o8,rfl,W⟩;have a8:∀{y:Str}{H':Hp},bdS ns.length y=true->c7V K H' A8Z ns rss ss cs:=λh=>(show AV4 ns.length _ _ from CW (CD (Z3 h))).v;refine F84 0 W.L (8+1) W.D b7 (λH2 s2=>BQZ);have S2:=W.same s2;clear W s2;refine F84 4 S2.L aT S2.D b8 EBL;clear S2 s3;have c8:=a7Y hw AF;rw[DN (F4B lf p4 c7) (a6S O hw)];refine⟨p4,_,rfl,PX A0,?_⟩;generalize upd Z p4 (HW (A22 lnW BOU ps))=H4;rw[oY (B4M (FO (lnW (BOU ps))) (FO yS))];rw[DZ];have a2:∀(L:DW) (wb:AB),CQ M L (Wl M)->Wl wb->∀M∈L++wb::[],Wl M:=λL wb h1 h2 M a7=>by
    rw[AHM a7]
    rw[JR h1 M]
    rw[A8M h2]
   have rf:∀M,M=XH∨M=B7B->RfW d M:=λM h=>A5P (BIR R.nm) (BIR n1) BQN h;have a9:∀m:Nat,EK decide (pE (ATQ m) (VA+1)):=λm=>decide_eq_true (by rw[jS (ATQ m) (VA+1)]);rw[DN (F73 aT XH c7W HK (λH5 s5=>F07)) a9];rw[LD (F73 (_+9) B7B c9f A80 (λH6 s6=>F07))];rw[a9];rw[GM C1];rw[GD ⟨[],XH,[],dr0,BK,a2 [] _ RE c7W,AG,.nil,AG,AG,ET7,λH7 Y=>BJL AUS⟩ ⟨_,rfl,_,_,rfl,rfl,PH (10+_),[],CG7,yS,dr0,SH List.nil_append (c2e O),?_,AFM List.nil_append List.length_cons,.nil,AG,AG,ET7,λH8 s8=>EW (kk _)⟩];intro M a7;rcases AD8 (B1F M (CG7::yS) a7)with rfl|z
   .exact c9g
   rw[JR hw M]
#where
universe K52
namespace L2
open PySem PySem.Spec PyProof.Rows
open PySem.W
variable {K:qF}{h:Heap}{mg:AZ}{x qn m:Str}{st:Stmt}{C:qE}
structure FG(K:qF)(x:Str)(st:Stmt):Prop where
 ex:F6O (CGC/\EDW/\DR8/\B5F)
structure MG(K:qF)(C:qE)(m qn:Str)(st:Stmt):Prop where
 ex:F6O (E6A/\DET/\EDX/\DR9/\B5F)
def FG.fa(g:BC x st)(X:TN)(G:AZE){ps:AB}
  (f:BN2 e d (EGV EA7 e d):=by intro _ _ _ _ _ _ _ b;first | (rw[B1E (c6T b)];rfl) | (rw[B1G (c6S b)];rfl) | rw[E02 (c6R b)] | (obtain⟨_,_,_,_,rfl⟩:=c8Q b;rfl) | (obtain⟨_,_,_,_,_,rfl⟩:=c9m b;rfl)):AAJ:=let ⟨_,_,_,_,_,_,_,_,_,_,a,l,c,k⟩:=g.ex;c8X X G a l c k f
def MG.ma(g:MG K C m qn st){ps:AB}
  (f:EY6:=by intro _ _ _ _ _ _ _ e;first | (rw[B1E (c6T e)];rfl) | (rw[B1G (c6S e)];rfl) | rw[E02 (c6R e)]):DNO:=let ⟨_,_,_,_,_,_,_,_,_,_,a,i,l,c,k⟩:=g.ex;c8M a i l c k f
universe L2
namespace K52
open PySem PySem.Spec PyProof.Rows L2
open PySem.W
noncomputable def nI(K:qF)(x:Str)(f:qE):Prop:=CGC
def all_mk{l:PySem.W.OpenLaw}{w:World}{K:qF}{h:Heap}{mg:AZ}{fa:qE}(X:TN)(G:AZE)(y1:ZI "law" fa)
 (g1:BC "free" b1n)
 (g2:BC "within" a4T)
 (g3:BC "row_sum" a3m)
 (g4:BC "sums" b1k)
 (g5:BC "is_answer" a1c)
 (g6:BC "pull_of" a3n)
 (g7:BC "falls" a7V)
 (g8:BC "below" a7W)
 (g9:BC "plus" b1m)
 (s6:BC "times" a7R)
 (s7:BC "size" b1l)
 (s8:BC "nought" a4W)
 (s9:BC "unit" b1j)
 (t0:BC "least_of" a2o)
 (t1:BC "above_any" a1d)
 (t2:BC "first_steps" a0a)
 (t3:BC "raised" a4U)
 (t4:BC "steps" a7S)
 (t5:BC "is_barred" a1b)
 (t6:BC "next_level" a0A)
 (t7:BC "least" a7U)
 (t8:BC "together" a2j)
 (t9:BC "narrowed" a2n)
 (u0:BC "by_rows" a3q)
 (u5:BC "cost" b1o)
 (u6:BC "cheapest" a2p)
 (u7:BC "is_name" a3o)
 (u8:BC "is_written" a0B)
 (u9:BC "read_figures" V6)
 (v0:BC "read_number" Z9)
 (v1:BC "parted" a4V)
 (v2:BC "read_term" a1a)
 (v3:BC "read_terms" a0z)
 (v4:BC "read_sum" a2m)
 (v5:BC "take_number" Z5)
 (v6:BC "take_all" a2k)
 (v7:BC "read_system" Z8)
 (v8:BC "show_vector" Z6)
 (v9:BC "show_term" a0Z)
 (w0:BC "show_terms" a0y)
 (w1:BC "show_row" a2l)
 (w2:BC "show_numbers" V5)
 (w3:BC "show_system" Z7)
 (w4:BC "sided" a7T)
 (w5:BC "sided_caps" a0x)
 (w6:BC "ending" a4Z)
 (w7:BC "beyond" a5a)
 (w8:BC "way" b6F)
 (w9:BC "is_line" a3p)
 (x0:BC "filled" a4Y)
 (x1:BC "show_vectors" V4)
 (x2:BC "_law_pot" a2q)
 (x3:BC "_law_next" a1f)
 (x4:BC "_law_of" a3r)
 (x5:BC "_law_names" a0D)
 (x6:BC "_law_small" a0C)
 (x7:BC "_law_bad" a2r)
 (x8:BC "_law_class" a0E)
 (x9:BC "_law_said" a1e)
 (y0:BC "_law_made" a1g)
 (a66:bA "law" f66) (y3:FnL K f66 "law" "law" a4X o66 d66 s66 v66 x66 p66 n66 c66 t66) (r1:BL0 c66 "law") (y2:U3 keepIn (AK f66))
  (z1:LN "ValueError") (z2:LN "abs") (z3:LN "all") (z4:LN "any") (z5:LN "bool") (z6:LN "enumerate") (z7:LN "int") (z8:LN "isinstance") (z9:LN "len") (D3:LN "list") (D4:LN "max") (F0:LN "min") (F1:LN "range") (F2:LN "set") (H0:LN "sorted") (H1:LN "str") (H2:LN "sum") (H3:LN "tuple") (H4:LN "zip")
  {j:qE}(e8:bA "TooMany" j) {i:qE}(c9:bA "NoAnswer" i) {c:qE}(i5:bA "NoLine" c) {a5:qE}(n3:bA "NoLay" a5) {g:qE}(c8:bA "LayError" g) {a:qE}(i6:bA "NoText" a) {b:qE}(i4:bA "Finder" b) {d:qE}(n1:bA "Draft" d) {f:qE}(o7:bA "Desk" f) {m4:Tok}(e9:AOI "FIGURES" (A9F "0123456789" m4)) {m5:Tok}(f0:AOI "LETTERS" (A9F "abcdefghijklmnopqrstuvwxyz" m5)) {r0:Tok}(p7:AOI "TOP" (CNF r0)) {O:Tok}(C:AOI "GREATEST_MOST" (.int 2000 O)) {a2:Tok}(J:AOI "GREATEST_WAY" (.int 300 a2)) (q1:C3I g) (q2:DWJ) (q3:C3I a) (q4:DK6 a) (q5:A5A AV "__class__" "object.__class__") (q6:ED4) (q7:DPL) (s1:DPM) (r2:BQ5 c g) (r3:C3I c) (r4:DK6 c) (r5:A5A MH "__class__" "object.__class__") (r6:A5A MH "__getattribute__" "BaseException.__getattribute__") (r7:mD MH "__getattr__") (z0:ATZ AV MH) (B0:BF7 AV AV true) (B2:C5F a5) (B9:C5F i) (D1:C5F j) (D2:CBL AV) (y4:BF7 MH MH true) (y5:ATZ MH AV) (y6:C5G a5) (y7:C5G i) (y8:C5G j) (y9:CBL MH) {h5 h7:Str}{A:qE}{f3 m e7:AI}{f7 f1:Bool}{h8:AB}{d3:bB}{f6:EN}{f9 g0 h0 h1 h3:LS}(R:C13 j (ABD h5 h7 j A f3 m f7 h8 e7 f1 d3 f6) f9 g0 h0 h1 h3) (i1:C84 m) (h6:BXX A) (f8:BZO A) (f2:uU m.contains) {e4 e5:Str}{r:qE}{d2 n c1:AI}{d5 d0:Bool}{e6:AB}{b5:bB}{d4:EN}{d6 d7 d8 d9 e0:LS}(e1:C13 i (ABD e4 e5 i r d2 n d5 e6 c1 d0 b5 d4) d6 d7 d8 d9 e0) (q0:C84 n) (p9:BXX r) (p8:BZO r) (d1:uU n.contains) {l3 l8:Str}{I:qE}{i9 B h9:AI}{j5 i7:Bool}{m1:AB}{f4:bB}{j1:EN}{j8 k0 k2 k4 k6:LS}(l0:C13 c (ABD l3 l8 c I i9 B j5 m1 h9 i7 f4 j1) j8 k0 k2 k4 k6) (m6:C84 B) (l5:BXX I) (j7:BZO I) (q8:uU B.contains) (q9:HX (II (ARR j m) i)) {a4:qE}{oL:Obj}{nL:Nat}{u1 u2 u3 u4:Tok}(n2:bA "LISTS" a4) (n6:A3D a4 oL) (cl_LISTS:(oL.cls,oL.data)=(C1C,Data.seq #[A9F "least" u1,A9F "beyond" u2,A9F "cheapest" u3,A9F "rows" u4] nL)) (l6:C44 b) (j4:BXU b) (l7:BXV b) (m0:CBO FT) (l2:BXW b) (k8:AW6 FT) (b4:A90 "rows") (b2:A90 "caps") (a0:A90 "begun") (b3:A90 "here") (a1:A90 "found") (N:A90 "walked") (n8:C44 d) (n4:BXU d) (n9:BXV d) (o0:CBO iI) (n7:BXW d) (n5:AW6 iI) (b0:ALA "names") (c0:ALA "rows") (b1:ALA "sides") (b9:ALA "caps") (Z:ALA "prices") (p3:C44 f) (o8:BXU f) (p4:BXV f) (p5:CBO cF) (p1:BXW f) (o9:AGD) (b7:AL9 "names") (e3:AL9 "rows") (b8:AL9 "sides") (e2:AL9 "caps") (a9:AL9 "prices") {l4 l9:Str}{n0:qE}{j0 i0:AI}{i8:Bool}{m2:AB}{f5:bB}{j2:EN}{j9 k1 k3 k5 k7:LS}(l1:OX K.lookup (excClassObj l4 l9 a n0 j0 DZB true m2 i0 i8 f5 j2 j9 k1 k3 k5 k7 "ValueError.__new__")) (m7:CPS bmV DZB) (k9:AW6 AV) (m3:A5A AV "__setattr__" "object.__setattr__") (m8:DWJ) (j3:ED4) (j6:DPL) (c6:DWV g) (c4:DXP dH) (c7:EFK dH) (p2:DPM) (m_Finder___init__:A0I "__init__" "Finder.__init__" O1) (p0:A0I "step" "Finder.step" a6t) (o:A0I "step_within" "Finder.step_within" K6) (o2:A0I "level" "Finder.level" a5b) (a8:A0I "told" "Finder.told" a0b) (Y:A0I "paper" "Finder.paper" V7) (W:A0I "ended" "Finder.ended" V8) (D:ALN "__init__" "Draft.__init__" O9) (b6:ALN "take" "Draft.take" a0F) (x:ALN "take_names" "Draft.take_names" M8) (E:ALN "take_sum" "Draft.take_sum" O8) (a7:ALN "whole" "Draft.whole" a0c) (L:A0H "__init__" "Desk.__init__" T3) (h4:A0H "say" "Desk.say" a2s) (a6:A0H "say_by" "Desk.say_by" a0d) (M:A0H "say_rows" "Desk.say_rows" T1) (t:A0H "say_cheapest" "Desk.say_cheapest" L9) (U:A0H "say_way" "Desk.say_way" V9) (o1:A0H "say_lay" "Desk.say_lay" a5c) (k:MG K a "__init__" "NoText.__init__" O0) :
  ∃fd:FuncData,(BTG v [v] "_law_script" v)/\BT8 C21 (EQC (D1S K base CX0 14 fa)):=by
 have e:=y1.symm.trans (AQQ a66);rw[CM];have T:AT:=⟨LL z1,LL z2,LL z3,LL z4,LL z5,LL z6,LL z7,LL z8,LL z9,LL D3,LL D4,LL F0,LL F1,LL F2,LL H0,LL H1,LL H2,LL H3,LL H4⟩;rw[DV (fnOf "law" "law" (R6 a4X) (F9 a4X) (A2 a4X) .none v66 x66 p66 n66 c66 t66) (λs v=>.of_eq rfl) (FH base XB GB)];rw[A1C z e8 Q c9];rw[A1C c2 i5 o5 n3];rw[A1C q c8 c3 i6];rw[A1C m9 i4 o3 n1];rw[A1C p6 o7 i2 e9];rw[A1C i3 f0 c5 p7];rw[A1C F C S J];have a3:Cls K b:=⟨l6,j4,l7,m0⟩;have u:Cls K d:=⟨n8,n4,n9,o0⟩;have p:Cls K f:=⟨p3,o8,p4,p5⟩;obtain⟨s5,_,_,_,_,_,_,_,_,_,r8,r9,_,_,s0⟩:=k.ex;have y:MkX K a g s5:=⟨⟨_,_,_,_,_,_,_,_,_,_,_,_,_,_,l1⟩,m7,⟨r8,r9,s0⟩,k9,m3,m8,j3,j6⟩;rw[AD FL (a5Q (st:=a4X) y3 r1 y2) RS (tD b1x g3.fa)];rw[AD SU (c2T (KU g4.fa) T RS) IA (AO5 a8h g5.fa SU)];rw[AD FA (OK b7T g7.fa (lA b1y g6.fa) SU) BE (tD b7X g8.fa)];rw[AD ST (OK b7L t4.fa FA (b4L (t3.fa X G))) NX (OK a6z t6.fa ST (AO5 a8g t5.fa BE))];have FS:=C91 a5q t2.fa T (lA c2R s9.fa) (lA b4J g2.fa);have UF:FiTx K b:=⟨a3,b4,b2,a0,b3,a1,N⟩;rw[AD MI ((AXS b7S (mg:=mg) m_Finder___init__.ma UF).make m9 l2 k8) MS (b7K o.ma UF T NX FS IA)];rw[AD ME (CCH b7U W.ma) MT (CCH c2S a8.ma)];rw[AD MP (CCH b7O Y.ma) LE (OK b7Q t7.fa UF a3 MI MS ME MT MP (b7A XB z R i1 h6 f8))];rw[AD OL (b7A XB c2 l0 m6 l5 j7) o4 (AQQ n2)];have o6:DZM a4:=λH=>DH ⟨oL,_,nL,n6,BP4 cl_LISTS,DES cl_LISTS,(by show CC 4;rw[BD6]),.cons (NM u1) (.cons (NM u2) (.cons (NM u3) (.cons (NM u4) .nil)))⟩;have RF:=AO5 a4n u9.fa (AXS a6A (KU u8.fa) T i2);have UD:DrTx K d:=⟨u,b0,c0,b1,b9,Z⟩;rw[AD RN (a5p (KU v0.fa) T RF) RM (OK a9P v4.fa c5 (OK a6y v3.fa (OK a8f v2.fa c5 RN) (lA b4M v1.fa)))];rw[AD s2 ((AXS b7V (mg:=mg) D.ma UD).make o3 n7 n5) s3 (b7J b6.ma UD T u (OK a5l v5.fa c5 RN) (a6v x.ma UD T (AO5 b1z u7.fa i3)) (a9L E.ma UD T RM))];rw[AD s4 (CTO b4O k.ma y s1 q c6 c4 c7) RY (OK a5o v7.fa UD u s2 (OK a9M v6.fa u s3 y s4 c3) (b7H a7.ma UD T))];rw[AD SS (OK a5n w3.fa (CGB a9N w1.fa a6x w0.fa (tD a8e v9.fa)) (lA a4l w2.fa)) NP (tD c2X x3.fa)];rw[AD OF (c8J (KU x4.fa) T NP) SM (b7M (KU x6.fa) T NP OF (OK b7P x5.fa NP OF))];rw[AD NO (C91 b4N s8.fa) PL (tD c2W g9.fa)];rw[AD TI (tD b7I s6.fa) TG (a9K (KU t8.fa) T NO TI PL)];rw[AD FR (CKG c2Z (mg:=mg) (KU g1.fa)) LO (CGB a9R t0.fa a6B t1.fa BE)];rw[AD NR (OK a9Q t9.fa RS FR TG LO LE) BR (b1B (KU u0.fa) T FR FS NR)];rw[AD BY (b4R (KU w7.fa) T (lA b7N w4.fa) (AO5 a6w w5.fa FR) (lA b4Q w6.fa) LE) CH (CGB a9S u6.fa c3a u5.fa RS)];rw[AD SV (tD a5m v8.fa) FI (tD b4P x0.fa)];rw[AD VS (OK a4k x1.fa FI SV) WY (OK c6D w8.fa IA NO)];have UK:DrTx K f:=⟨p,b7,e3,b8,e2,a9⟩;rw[AD SW (b1w U.ma UK T S IA (lA c2U s7.fa) WY FI) SR (a9O (CN:=i) M.ma UK T BR)];rw[AD SC (a4m t.ma UK T CH SV) SB (b4K a6.ma UK T p VS LE BY SR SW SC)];have CN:ClsN K i j:=⟨c4k e1 d1,_,_,_,_,_,_,_,_,_,_,_,_,_,_,_,_,_,R,f2,q9⟩;rw[AD SY (c6E h4.ma UK T p c5 RN (b1A (KU w9.fa) T o4 o6 F) SB CN Q z OL) KI ((b7R (mg:=mg) L.ma UK RY).make p6 p1 o9)];have CK:=C91 b7W x8.fa T c2 c3 o5 Q z ⟨⟨a1U r3,r4,r5,r6,r7⟩,y4,y5,y6,y7,y8,y9⟩ ⟨⟨a1U q3,q4,q5,q6,q7⟩,z0,B0,B2,B9,D1,D2⟩;exact c6G FL T p (lA c6F x2.fa) NP SM SS (MakeOkN.no KI) (MethOkE.no SY) (OK c6H x7.fa NP OF) (c2V (KU x9.fa) p SY q (a1U q1) (a1U r2) CK) (OK c2Y y0.fa KI q (a1U q1) (a1U q2) y s1 CK)
universe K52
#where
structure PySem.W.Fast where(tw17484569122712746269 tw4577012312423699058 tw17854807581155405836 tw9772911347653416375 tw13000479296121966054 tw2045298301691566688 tw15213258453917208064 tw15524809445463172925 tw14521170552236705789 tw3974781190881629864 tw321449901801000005 tw6613471679373754109 tw17779032155805652478 tw16278348361744459723 tw14116694390148783457 tw14868366715144794380 tw1989023019167600536 tw1180554582854253674 tw2252180051192388042 tw10751153615433245683 tw14689026808686776539 tw13074390967433570654 tw566591071781607475 tw15154882302714406407 tw1269022363527736228 tw1742869097674980837 tw7406484284319352228 tw8141513735528646260 tw12535707205325993273 tw15480310083784027877 tw9886495202257762716 tw13649327801926228477 tw10538729700557272584 tw15906912540582312566 tw13190102061616142627 tw7096945287434179526 tw13704150051454768151 tw12475835222942316386 tw16425707967179354706 tw4420320660007075856 tw15113936806201721922 tw6765645340294969033 tw1641718347864322020 tw4020655936868127994 tw5174052279532850955 tw12782344955270179199 tw556684273930412821 tw5453707633597744643 tw1851427823043535497 tw6740630993945711546 tw12780225638290250881 tw9934606230510695217 tw7271828183055187098 tw722297037099880672 tw11377742455607967722 tw6457413787440629974 tw7579507387584981829 tw2409916126301420168 tw12817192352808391899 tw17741575953046497335 tw7912660697190983865 tw8437130658745967779 tw4076483834406328160 tw15784023114807031820 tw17704881558126112345 tw18224053803064607016 tw11852392454851674790 tw455664537808594001 tw16934462909598019242 tw2750730620089230759 tw997430816100704287 tw2405632807596012075 tw927333565849597843 tw12231248370079534066 tw15589202578086517015 tw3363354404693560600 tw1835885681349775907 tw7701243019687121560 tw16534102766619784400 tw17568388547549367934 tw6125561561438495801 tw11913241277953973100 tw2857109992663639684 tw14618624315154266282 tw18132869869171132741 tw7260278891534348738 tw11142521608362153267 tw8749132398638807507 tw4090962310698256575 tw13527960170341342117 tw17322219539537487440 tw7375301453921005360 tw10900464636287710694 tw18153266947710573213 tw429206389337191259 tw18191023037116002723 tw7731392824197901610 tw7318799579109477767 tw13178068070323304535 tw9714872084120595752 tw16818548618944891902 tw11092918423222042384 tw7809726231965060140 tw17063694350180653526 tw2691041152553906943 tw1849476156590408520 tw1161529482347611781 tw7535653495548010966 tw14699673327887567428 tw14782115077668482510 tw13139807282531775335 tw1970238905792612376 tw316693111829876641 tw7840951131094775028 tw7760334928435505572 tw16190884805374220686 tw6857895120973119771 tw14093963568708785570 tw6314149348275199143 tw10714003131414085442 tw17364902131858874095 tw10303498773100757650 tw14227527181609257647 tw10313857080155950272 tw17341861435219327665 tw4878784856279536491 tw14228440552606494174 tw6582542876673959232 tw3700649642038710555 tw3261548973547695265 tw3849835613198208834 tw10042812655579962274 tw15530389359645674805 tw15191551536512654013 tw15053722287983170321 tw10196795703886089043 tw1555302071480095594 tw11508214645662566098 tw9490904354479975441 tw2233904313086660712 tw4860587431199856529 tw5277543641802817195 tw8604519971030268087 tw4370107016682356245 tw3097300354358464394 tw5208562524816099185 tw14402222943315561912 tw3554261766261824821 tw10168839755106354840 tw16625640239378399444 tw12313877497727044673 tw11975644699659046656 tw6890315257972135318 tw9991251661656634309 tw2777930992200492047 tw2265110410805719975 tw9931793125226693976 tw6384744709982531227 tw6316098298721742490 tw16705038548429720412 tw5681691646119595036 tw15650430084166172298 tw15483873444794985386 tw12651421819244218868 tw16449497271023068873 tw16848901956309594738 tw18089318927492488167 tw7873424262091411895 tw11807419827497850966 tw6551171832186297393 tw3687578713977998590 tw12321901864661738051 tw3366207300808336528 tw10873709253486707576 tw14126473010679638148 tw840746209650467290 tw9749901284539231506 tw17181210194832531280 tw3780930385477547061 tw6328250346604249656 tw18090882704189905912 tw16122134049356478592 tw9254737992071791815 tw11721400416956744215 tw7398166542585962858 tw13943559275483663229 tw379969646316199094 tw13133768406800735399 tw6627484567384863243 tw1026786639188239382 tw11806911756841076928 tw17551663689441316219 tw17331048969255922336 tw6808328260691759303 tw7077909021738856882 tw8025591741380088274 tw14517214042877634987 tw14511129973241040822 tw4128384639031769881 tw15693065582539311943 tw12528237700849758971 tw16177385825230611896 tw7079011153268268621 tw1123263250312871169 tw14907525402174850417 tw10052864299532121038 tw6435982880048655276 tw3166786097597996003 tw17390990044456960519 tw2418907282957285802 tw11691331680005157321 tw4163827286648677677 tw9625799379659341593 tw2900930048336802334 tw6913939668377221940 tw892444595347212351 tw17313613123671827719 tw17084149821809902130 tw12648342226394283059 tw5643493702887369411 tw14496039882276852547 tw3103690058931247840 tw15987947410445752769 tw4276941218956519323 tw14908184527148793724 tw2168033936446112722 tw9432039254446637328 tw11084620412246307704 tw18136721598553834885 tw602009692270498580 tw7957141547711309711 tw9982920508207940606 tw17465267021189997250 tw13448361237936685763 tw16682806044817724279 tw14458420786853411536 tw8885078094035061969 tw9056020001897197679 tw16843159900818185703 tw15345734424316204505 tw5291489187510189414 tw13621399819573639083 tw17686489604085035079 tw11438272904043060508 tw11334814521057072882 tw12550928959677260788 tw2424610362087332362 tw5055849686197159765 tw18074737270089994320 tw15063295342225820446 tw17884454805210747486 tw6217742264350763143 tw5492262021819864726 tw12389990789326519056 tw4874694151524834331 tw14910910899890166442 tw18121413353477683677 tw8000278991432782263 tw7246650797126507330 tw13196659319020396210 tw10772903055121666620 tw432928632549295808 tw9629668194107591892 tw13517292603072952911 tw3325675223143552289 tw9812666346396735065 tw10574242786967936704 tw17137700368036246125 tw12575757899738210812 tw3353186979740588989 tw13801887046824218831 tw765175169403289276 tw10857637078775275369 tw15449014915411186048 tw11075462246018266511 tw14885427306421951266 tw788224820202337438 tw14448554825792374225 tw4476093653843962435 tw17201580999953797037 tw428973224256285925 tw3207867669014903650 tw16291049835121324208 tw4627297517231129818 tw13439407893533975576 tw10173890156431705265 tw53317143425360544 tw9614234879848734809 tw6130025293980521958 tw6196069010772144588 tw10301950585281894323 tw16319604305179298350 tw3723335514208147356 tw5699786895234512357 tw9321610176642126349 tw17699843787115632386 tw10457287687603827967 tw9695000227773441244 tw12986022420278970647 tw9726047992597257935 tw4998980881731628162 tw1905366779874888239 tw10634258925793365014 tw12567965578345446787 tw3445347287129037286 tw1847131488272785412 tw16155160017941100006 tw11967658715505977422 tw11080872654380650892 tw5679486337183245646 tw13216517135640988869 tw9427023337203653420 tw4805357237005599881 tw16952416766779761616 tw14850065796729208071 tw4113355785985110901 tw4179139235014072643 tw15567017776218298180 tw13068935168070440369 tw8940211033200413231 tw1121296333455956748 tw6104727385059195379 tw5137785993025659360 tw2352876919536219408 tw11520277614239082294 tw16665760913515950040 tw1134713438605427300 tw12605010008253334407 tw4270031590690242047 tw15903226679260433765 tw12557436296703479006 tw16548214150765486364 tw7842187612658527566 tw16613445286104300986 tw13011831832735019032 tw10548299564181685828 tw12994963515390070254 tw3046818734286076770 tw18329745974070198142 tw2387190275079234061 tw12972309829204065074 tw3052481241630110998 tw15156733964155561422 tw16900939950001837489 tw17355747957001871396 tw17235318559189788651 tw13514385201894296372 tw18158387533938556029 tw17861776293857396697 tw15260395457928287496 tw7263985685507940027 tw13411779887410497893 tw9741532616289503781 tw13404096507303833460 tw12997624868789355977 tw146324923270303869 tw5904065266424892764 tw11275326547067513463 tw2727485514355993471 tw17559498298363265884 tw12166385596542464853 tw4711239318732575370 tw11945470492357986314 tw7436799089969800077 tw3554255272480121879 tw2827086692512224630 tw3258832055693629892 tw14049681578379917415 tw15829950101663108258 tw1435093254175749925 tw2062860468243588053 tw18114736640358295826 tw7553091212915309384 tw7083662449145564443 tw15988037699147420346 tw18055005139790482351 tw13397306286532557398 tw4142521457931555565 tw15067149776157532827 tw14656968260988752430 tw5401555970823957082 tw3138790301754235899 tw9706533241276933227 tw3678129904828907379 tw961593814199793186 tw8977972955785657046 tw2022448260098819586 tw3781817035787881897 tw9309726277218534306 tw6975893048461586752 tw4752512574919528623 tw4685052269869389345 tw12132637657656064699 tw3103607851024253593 tw11361675148114392994 tw7559399785108292219 tw1060173494054678660 tw12870485248872564642 tw4913186465718329771 tw8435265060681569575 tw10078955028474393824 tw10870204453737951275 tw11401914452024810028 tw5908849007348640411 tw466120295578774707 tw13147331932161086226 tw795564405267691384 tw10983644758332308053 tw9064310384070510 tw11005095311030080754 tw17261856065648353710 tw15444314771874437234 tw12392841100590039144 tw17339290484777078737 tw8046884433933692486 tw8538144621250614488 tw17244310252198950588 tw15532875253375029453 tw4169255501350546335 tw8646874035083238290 tw17183386264574568991 tw825076745674443523 tw12817785218696515521 tw15878373612873699964 tw13706571808998950228 tw13952750166016822266 tw7092978368432183606 tw9950104394255422028 tw14834328850498301358 tw10245432229185977983 tw13004788709859561541 tw18348595429222278465 tw8136248163628030686 tw5883392405802121345 tw10874490195702747102 tw10198992749181444787 tw14011495020318457378 tw5783509273939235295 tw7369547958600203777 tw3305588146220349172 tw7947112541848094950 tw536131140250928833 tw462656180405195934 tw14692691712169711192 tw6270397257860442245 tw4486552790368691520 tw2725728136681411503 tw18048523262587658177 tw6733399093539408607 tw16255033051345296911 tw9547923268886736319 tw14045737025227304016 tw10806054599939989215 tw7783203005798340353 tw18309195782455644536 tw710551138562627663 tw14200553497018095925 tw11513704278897865518 tw2276295264484138631 tw9390069584813090377 tw11850814364967721670 tw9745086969013183058 tw11210696077030081774 tw6762805277067884524 tw5982568672636108709 tw9780846336198442644 tw9143705534698511524 tw9225470882567997981 tw7234264915621664480 tw14028674342633253697 tw7193576386402360067 tw413477162575446060 tw14490413204601911348 tw17616302638137991485 tw15837745641776254250 tw15934169957079353527 tw11526624072982770124 tw731459685948179577 tw9915280548997767478 tw13099710649153167087 tw4824273212404069745 tw8762852267641774380 tw5605329121956214540 tw12489287867014895120 tw7881400924238404568 tw13215722537875439273 tw17059231194545516112 tw1489635112657164262 tw17068064440921633415 tw8960548806980584716 tw3841314107166757949 tw10046262623534959665 tw3764706991267470261 tw14168352211972167071 tw4590525857010334462 tw4137882461852135666 tw128851229444839322 tw9360351198167030170 tw15887388521232511831 tw8788754882605784707 tw13977831115583220806 tw16856370518562833614 tw16806776645290494614 tw5462702472340643081 tw2687702115201293141 tw2135444336488756448 tw8426318145298397983 tw2721138401015650937 tw9709195583160195313 tw11202176053873636342 tw13763643207586136210 tw13699440424998678511 tw16220080813444446649 tw5962649634240711996 tw10802740466302667326 tw7159406087771679296 tw17216994978684108144 tw7333069089402442746 tw16180642965462259846 tw15472213509929678378 tw2226858472355023995 tw9357916387125675841 tw13153587250390283153 tw16395765673777106701 tw18352640564723554265 tw15629082943172318636 tw3686300424110160447 tw4260333094268910087 tw15125748765263693861 tw10055109978901673458 tw17771369345828992981 tw11072374715548617065 tw8911111210309303397 tw15652161382551548738 tw8973299570661978882 tw14124237663557936688 tw7086577574908544114 tw17813067277895396643 tw15830610955725551945 tw11281549456334023326 tw12292016516012212531 tw15848835138751597031 tw14679599978525915823 tw17588442751869272684 tw9813359123508985790 tw9693034510408537985 tw9073036557402808294 tw4587369482217792218 tw588802596685247682 tw11046575108859697241 tw5696711148441776468 tw9271539458176601901 tw4561049826182255742 tw6945904564215451317 tw7165418244069954390 tw1862419261488644773 tw4642482749895249860 tw10357631377970402471 tw6613229692542846959 tw11011068941671680108 tw15760429089535856135 tw10048024171431505051 tw5806467967247940078 tw9020152365115041237 tw14099589324934217273 tw12609488481377367427 tw4292103676116782855 tw1727902021335703729 tw15832035079128793309 tw11142071579920485797 tw1591851760061208857 tw4456695139148564409 tw3036448212868212827 tw9145572153980469015 tw12915104397757985754 tw7765689736269522263 tw6313575184707616395 tw16579160287522131556 tw15474549585551451689 tw9716348709664211300 tw3621225602476877266 tw10673258328186291110 tw9601304380669117202 tw11854649392046499583 tw15746154021071309612 tw1243969734194736938 tw10090129126025958685 tw11934469326393879895 tw6275696363410692924 tw6074280974554433773 tw17976301910169466094 tw9142672370578476127 tw10935951953139794982 tw8890607464240124775 tw10814060145820566730 tw11908693234541076962 tw8263837962690482573 tw3257881489461760594 tw8010071742273296886 tw13765654173956327838 tw5193108075046609058 tw14354980576025353419 tw17892911768456791878 tw960174928997337406 tw52044982476400886 tw17889385985210633862 tw3389378363711974235 tw15275675453566773636 tw15449793456827679099:True)
end
open PySem PySem.W PyProof.Rows
set_option maxRecDepth 100000 in
set_option maxHeartbeats 0 in
theorem PySem.Challenge.cw_leastlays_k52_desk_lines_refused_holds : PySem.Challenge.rw_leastlays_k52_desk_lines_refused.Holds := by
 w_on;o_law;k_head;(case hw=>w_witness2)
 k_fill
 refine L2.law_walk (l:=PySem.Challenge.rw_leastlays_k52_desk_lines_refused) 14 rfl rfl ⟨rfl,by decide,by decide⟩ (λw h Y=>PySem.W.kIn_of Y) ?F
 case F =>
  intro w mg fa h KX G hmg
  refine' K52.all_mk KX G hmg ?g1 ?g2 ?g3 ?g4 ?g5 ?g6 ?g7 ?g8 ?g9 ?g11 ?g12 ?g13 ?g14 ?g15 ?g16 ?g17 ?g18 ?g19 ?g20 ?g21 ?g22 ?g23 ?g26 ?g27 ?g28 ?g29 ?g30 ?g31 ?g32 ?g33 ?g34 ?g35 ?g36 ?g37 ?g38 ?g39 ?g40 ?g41 ?g42 ?g43 ?g44 ?g45 ?g46 ?g47 ?g48 ?g49 ?g50 ?g52 ?g53 ?g54 ?g55 ?g57 ?g58 ?g59 ?g60 ?g61 ?g62 ?g63 ?g64 ?g65 ?a66 ?l66 ?c_66 ?k66 ?z1 ?z2 ?z3 ?z4 ?z5 ?z6 ?z7 ?z8 ?z9 ?z10 ?z11 ?z12 ?z13 ?z14 ?z15 ?z16 ?z17 ?z18 ?z19 ?aD_TooMany ?aD_NoAnswer ?aD_NoLine ?aD_NoLay ?aD_LayError ?aD_NoText ?aD_Finder ?aD_Draft ?aD_Desk ?aS_FIGURES ?aS_LETTERS ?aS_TOP ?aS_GREATEST_MOST ?aS_GREATEST_WAY ?q1 ?q2 ?q3 ?q4 ?q5 ?q6 ?q7 ?q11 ?r2 ?r3 ?r4 ?r5 ?r6 ?r7 ?wt1 ?wt2 ?wt3 ?wt4 ?wt5 ?wt6 ?wl1 ?wl2 ?wl3 ?wl4 ?wl5 ?wl6 ?lx_TooMany ?tx_TooMany ?ok_TooMany ?in_TooMany ?be_TooMany ?lx_NoAnswer ?tx_NoAnswer ?ok_NoAnswer ?in_NoAnswer ?be_NoAnswer ?lx_NoLine ?tx_NoLine ?ok_NoLine ?in_NoLine ?be_NoLine ?no_TN ?aD_LISTS ?lk_LISTS ?cl_LISTS ?pg_Finder ?hd_Finder ?po_Finder ?sa_Finder ?mk_Finder ?kc_Finder ?n_Finder_rows ?n_Finder_caps ?n_Finder_begun ?n_Finder_here ?n_Finder_found ?n_Finder_walked ?pg_Draft ?hd_Draft ?po_Draft ?sa_Draft ?mk_Draft ?kc_Draft ?n_Draft_names ?n_Draft_rows ?n_Draft_sides ?n_Draft_caps ?n_Draft_prices ?pg_Desk ?hd_Desk ?po_Desk ?sa_Desk ?mk_Desk ?kc_Desk ?n_Desk_names ?n_Desk_rows ?n_Desk_sides ?n_Desk_caps ?n_Desk_prices ?ly_NoText ?ty_NoText ?ky_NoText ?sy_NoText ?xy_NoText ?gy_NoText ?hy_NoText ?RD_LayError ?FC_LayError ?SP_LayError ?n_NoText_line ?m_Finder___init__ ?m_Finder_step ?m_Finder_step_within ?m_Finder_level ?m_Finder_told ?m_Finder_paper ?m_Finder_ended ?m_Draft___init__ ?m_Draft_take ?m_Draft_take_names ?m_Draft_take_sum ?m_Draft_whole ?m_Desk___init__ ?m_Desk_say ?m_Desk_say_by ?m_Desk_say_rows ?m_Desk_say_cheapest ?m_Desk_say_way ?m_Desk_say_lay ?m_NoText___init__
  (case a66|l66|c_66|k66|z1|z2|z3|z4|z5|z6|z7|z8|z9|z10|z11|z12|z13|z14|z15|z16|z17|z18|z19|aD_TooMany|aD_NoAnswer|aD_NoLine|aD_NoLay|aD_LayError|aD_NoText|aD_Finder|aD_Draft|aD_Desk|aS_FIGURES|aS_LETTERS|aS_TOP|aS_GREATEST_MOST|aS_GREATEST_WAY|pg_Finder|hd_Finder|po_Finder|sa_Finder|mk_Finder|kc_Finder|n_Finder_rows|n_Finder_caps|n_Finder_begun|n_Finder_here|n_Finder_found|n_Finder_walked|pg_Draft|hd_Draft|po_Draft|sa_Draft|mk_Draft|kc_Draft|n_Draft_names|n_Draft_rows|n_Draft_sides|n_Draft_caps|n_Draft_prices|pg_Desk|hd_Desk|po_Desk|sa_Desk|mk_Desk|kc_Desk|n_Desk_names|n_Desk_rows|n_Desk_sides|n_Desk_caps|n_Desk_prices|ly_NoText|ky_NoText|sy_NoText|gy_NoText|hy_NoText|RD_LayError|FC_LayError|SP_LayError|n_NoText_line=>(try unfold L2.FnL);(try unfold K52.nI);k_is)
  (case g1|g2|g3|g4|g5|g6|g7|g8|g9|g11|g12|g13|g14|g15|g16|g17|g18|g19|g20|g21|g22|g23|g26|g27|g28|g29|g30|g31|g32|g33|g34|g35|g36|g37|g38|g39|g40|g41|g42|g43|g44|g45|g46|g47|g48|g49|g50|g52|g53|g54|g55|g57|g58|g59|g60|g61|g62|g63|g64|g65=>exact⟨⟨_,_,_,_,_,_,_,_,_,_,by k_is,by(try unfold L2.FnL);(try unfold K52.nI);k_is,by k_is,by k_is⟩⟩)
  (case m_Finder___init__|m_Finder_step|m_Finder_step_within|m_Finder_level|m_Finder_told|m_Finder_paper|m_Finder_ended|m_Draft___init__|m_Draft_take|m_Draft_take_names|m_Draft_take_sum|m_Draft_whole|m_Desk___init__|m_Desk_say|m_Desk_say_by|m_Desk_say_rows|m_Desk_say_cheapest|m_Desk_say_way|m_Desk_say_lay|m_NoText___init__=>exact⟨⟨_,_,_,_,_,_,_,_,_,_,by k_is,by k_is,by(try unfold L2.FnL);(try unfold K52.nI);k_is,by k_is,by k_is⟩⟩)
  (case q1|q2|q3|q4|q5|q6|q7|q11|r2|r3|r4|r5|r6|r7|wt1|wt2|wt3|wt4|wt5|wt6|wl1|wl2|wl3|wl4|wl5|wl6|lx_TooMany|tx_TooMany|ok_TooMany|in_TooMany|be_TooMany|lx_NoAnswer|tx_NoAnswer|ok_NoAnswer|in_NoAnswer|be_NoAnswer|lx_NoLine|tx_NoLine|ok_NoLine|in_NoLine|be_NoLine|ty_NoText|xy_NoText|no_TN|aD_LISTS|lk_LISTS=>first|k_is|kernel_rfl|rfl)
  (case cl_LISTS=>first|exact rfl | (with_unfolding_all exact rfl) | (refine Prod.ext ?_ ?_<;>rfl))
#print axioms PySem.Challenge.cw_leastlays_k52_desk_lines_refused_holds
