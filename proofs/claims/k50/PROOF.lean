import PyProof.Rows.All
import Wide.All
import OpenK.AllK
import Wide.FinOn
import Lean
import PyProof.EqAt
import PyProof.EqKinds
import PyProof.TupleCall
import PyProof.ZipIter
import PyProof.ExcArgsOwn
import PyProof.ExcAttrAll.ValueError
import KE.KSortTup
import PySem.SetTable
import PyProof.SetNew
import PyProof.TupleKey
import PyProof.DictRoadsH
import PyProof.DictKinds
import PyProof.IsRules
import PyProof.Rows.SetFrom
import PyProof.WalksMore
import KE.KDictSum
import PyProof.Rows.CallKwBuiltin
import PyProof.MinMaxWalk
import KE.KDictOf
import PyProof.AttrMissHeap
import PyProof.AutoSeq1
import PyProof.TupleOfSeq
import PyProof.ListRange
import KE.KRevIter
import PyProof.MeetsStr
import PyProof.MeetsStr2
import PyProof.StrLawsJoin
import PyProof.StrLawsChain
import PyProof.Rows.StrItems
import KE.KIntText
import PyProof.Rows.ReprOcc
import PyProof.StrWalks
import PyProof.CallType
import PyProof.StrOps
import PyProof.StrLawsIn
import PyProof.StrBlock2
import PyProof.FString2
import PyProof.SetKind
import PySem.Challenge.RW_leastlays_k50_desk_finds
set_option compiler.extract_closed false
set_option bootstrap.genMatcherCode false
set_option genSizeOf false
set_option Elab.async false
set_option linter.all false
set_option maxRecDepth 2000000
set_option maxHeartbeats 4000000
def zX(r:Lean.Name->Array Lean.Syntax->Option (Lean.Syntax×Nat))(s:Lean.Syntax):Lean.Syntax:=s.rewriteBottomUp fun s=>match s with
 |.ident _ _ n _=>match r n .empty with|some (x,_)=>x|_=>s
 |.node _ q c=>if q==`Lean.Parser.Term.app then
   let n:Array Lean.Syntax->Lean.Syntax:=.node .none `null
   let a:=c[1]!.getArgs
   let (h,k):=match c[0]! with|.ident _ _ i _=>(match r i a with|some (_,0)=>(c[0]!,0)|some x=>x|_=>(c[0]!,0))|h=>(h,0)
   let a:=a.extract k a.size
   if a.isEmpty then h else if h.isOfKind q then h.setArg 1 (n (h[1].getArgs++a)) else(s.setArg 0 h).setArg 1 (n a)
  else if q==`Lean.Parser.Tactic.tacticSeq1Indented then s.setArg 0 (.node .none `null (c[0]!.getArgs.flatMap fun e=>if e.isOfKind `Lean.Parser.Tactic.rwSeq then let b:=e[2][1][0][1];if b.isOfKind `Lean.Parser.Term.byTactic then b[1][0][0].getArgs else .singleton e else .singleton e))
  else if q==`Lean.Parser.Term.paren && (c[1]!.isOfKind `Lean.Parser.Term.typeAscription || c[1]!.isOfKind `Lean.Parser.Term.anonymousCtor) then c[1]! else s
 |_=>s
def zR(T:Lean.NameMap Nat)(m:Lean.NameMap (Lean.Syntax×Nat))(s:Lean.Syntax):Lean.Syntax:=s|>zX fun n a=>match m.find? n with
 |some (b,0)=>some (b,0)
 |some (b,k)=>if a.size<k then none else some (zX (fun n _=>(T.find? n).bind fun i=>a[i]?.map fun x=>(if x.isOfKind `Lean.Parser.Term.paren then x[1] else x,0)) b,k)
 |_=>none
def zY(T:Lean.NameMap Nat)(K:List Lean.Name)(b:Array Lean.Syntax):Lean.NameMap (Lean.Syntax×Nat):=Id.run do
 let C:=Lean.NameSet.ofList (K.take b.size)
 let mut m:Lean.NameMap (Lean.Syntax×Nat):={}
 let mut w:List (Lean.Name×Lean.Syntax×Nat×List Lean.Name):=[]
 for (n,x) in K.zip (b.toList.map fun x=>if x.isOfKind `Lean.Parser.Term.paren then x[1] else x) do
  let mut k:=0
  let mut u:=[]
  for s in x.topDown do if s.isIdent then
   if T.contains s.getId then k:=k+1
   if C.contains s.getId then u:=s.getId::u
  w:=(n,x,k,u)::w
 for _ in [0:99] do
  let (y,z):=w.partition fun(_,_,_,u)=>u.all m.contains
  let o:=m
  for (n,x,k,_) in y do m:=m.insert n (zR T o x,k)
  w:=z
 return m
def zK(k:List Lean.Name):List Lean.Name:=
 let B:="0123456789ABCDEFGHIJKLMNOPQRSTUVWXYZ".toList
 let w:="ABCDEFGHIJKLMNOPQRSTUVWXYZabcdefghijklmnopqrstuvwxyz".toList.flatMap fun a=>B.map fun b=>[a,b]
 let q:=Lean.NameSet.ofList k
 ((w++w.flatMap fun a=>B.map fun b=>a++[b]).map fun c=>Lean.Name.mkSimple (.ofList c)).filter fun n=>!q.contains n
local macro_rules|`(mutual $c* end)=>do
 let d:=c[0]!.raw[1][1]
 unless c[0]!.raw.isOfKind `Lean.Parser.Command.check do Lean.Macro.throwUnsupported
 let k:=d[0].getArgs.toList.map (·.getId)
 let T:Lean.NameMap Nat:=(k.zip (List.range 9)).foldl (fun m(n,i)=>m.insert n i) {}
 let m:=zY T (zK k) d[3][1].getSepArgs
 let mut o:Array Lean.Syntax:=.empty
 for x in c.extract 1 c.size do
  let i:Lean.Ident:=⟨x.raw[1][0]⟩
  if x.raw.isOfKind `Lean.Parser.Command.where then o:=o.push (<-`(command|end)) else if x.raw.isOfKind `Lean.Parser.Command.universe then o:=o.push (<-`(command|end $i:ident)) else o:=o.push ((zR T m x).rewriteBottomUp (·.setInfo .none))
 return Lean.mkNullNode o
mutual
#check λz0 zA zB zC zD zE zF zG zH A0 A1 A2 A3 A4 A5 A6 A7 A8 A9 AP B0 B1 B2 B3 B4 B5 B6 B7 B8 B9 BE BR BY C0 C1 C2 C3 C4 C5 C6 C7 C8 C9 CE CH CN CR CT CX D0 D1 D3 D5 D6 D7 D8 D9 DH DU E0 E1 E2 E3 E4 E5 E6 E7 E8 E9 EP F3 F4 F5 F6 F7 F8 F9 FA FG FI FL FM FO FR FS G0 G1 G2 G3 G4 G5 G6 G7 G8 G9 GB H0 H1 H2 H3 H4 H5 H6 H7 H8 H9 HB HC HD HE HO HT I0 I1 I2 I3 I4 I5 I6 I7 I8 I9 IA IK IT J0 J1 J2 J3 J4 J5 J6 J7 J8 J9 JA JB JE JF JG JI JO JS JT JW JX K0 K1 K2 K3 K4 K5 K6 K7 K8 K9 KE KI KT KV KX L0 L2 L3 L4 L5 L6 L7 L8 L9 LA LB LE LO M0 M1 M2 M3 M4 M5 M6 M7 M8 M9 ME MG MH MI MJ MP MS MT N0 N1 N2 N3 N4 N5 N6 N7 N8 N9 NC NN NO NP NR NX O0 O1 O2 O3 O4 O5 O6 O7 O8 O9 OF OL P0 P1 P2 P3 P4 P5 P6 P7 P8 P9 PA PB PC PE PG PI PL PO PS PT PW Q0 Q1 Q2 Q3 Q4 Q5 Q6 Q7 Q8 Q9 R0 R1 R2 R3 R4 R5 R6 R7 R8 R9 RF RI RL RM RN RR RS RY S0 S1 S2 S3 S4 S5 S6 S7 S8 S9 SA SB SC SD SM SP SR SS ST SU SV SY T0 T1 T2 T3 T4 T5 T7 T8 T9 TA TE TF TG TI TK TO TP TS TT TX U0 U1 U2 U4 U5 U6 U7 U8 U9 UD UF UK V0 V1 V2 V3 V4 V5 V6 V7 V8 V9 VE VK VS VV W3 W4 W5 W6 W7 W8 W9 X0 X1 X2 X4 X5 X6 X7 X8 X9 XB XK XP Y0 Y1 Y2 Y3 Y4 Y5 Y6 Y7 Y8 Y9 Z0 Z1 Z2 Z3 Z4 Z5 Z6 Z7 Z8 Z9 a0 a1 a2 a3 a4 a5 a6 a7 a8 a9 b0 b1 b2 b3 b4 b5 b6 b7 b8 b9 c0 c1 c2 c3 c4 c5 c6 c7 c8 c9 cV d0 d1 d2 d3 d4 d5 d6 d7 d8 d9 dA dB dK dT e0 e1 e2 e3 e4 e5 e6 e7 e8 e9 eA eK eL eP f0 f1 f2 f3 f4 f5 f6 f7 f8 f9 fB fI g0 g1 g2 g3 g4 g5 g6 g7 g8 g9 gI gS gV h0 h1 h2 h3 h4 h5 h6 h7 h8 h9 hA hB hC hD hE hF hG hI hK hL hM hN hO hP hR hS hT hU hW i0 i1 i2 i3 i4 i5 i6 i7 i8 i9 j0 j1 j2 j3 j4 j5 j6 j7 j8 j9 k0 k1 k2 k3 k4 k5 k6 k7 k8 k9 kV l0 l1 l2 l3 l4 l5 l6 l7 l8 l9 m0 m1 m2 m3 m4 m5 m6 m7 m8 m9 mA mN n0 n1 n2 n3 n4 n5 n6 n7 n8 n9 nI nL o0 o1 o2 o3 o4 o5 o6 o7 o8 o9 oI oL p0 p1 p2 p3 p4 p5 p6 p7 p8 p9 pA q0 q1 q2 q3 q4 q5 q6 q7 q9 qA qB qC qD qE qF qG qH qI qJ qK qL qM qN qO qP qQ qR r0 r1 r2 r3 r4 r5 r7 rI rU s0 s1 s2 s3 s4 s5 s6 s7 s8 s9 sC sD sE sX sY t0 t1 t2 t3 t4 t6 tA tB tC tT u1 u2 u3 u4 v8 w0 w1 w2 w3 w4 w7 w8 wL wS x0 x1 x2 x3 x4 x7 y1 y2 y5 z1 z2 z3 z4 z5 z6 z7 z8 z9 CX0 CXE CXT=>[qA V,@lq z0,qA Str,(by rw[z0];exact zA),(by have z0:=zA;have zB:=zC),(by omega),(by rw[AD z0 zA]),z0 _ _ zA,(by decide),(by simp),z0 _ _ zA zB,gG s,.ref z0,qA qB,i+1,some z0,TZ Keyed,BA2 Int,X.K=K,~~~lq z0 zA zB,Tx mg,z0=true,(by rw[z0]at zA;cases zB),(by exact⟨z0,zA⟩),(by refine wpAny_bind z0),(by exact⟨z0,zA,zB⟩),(by rw[z0];exact zA zB),if_neg z0,top z0,FG K z0 zA,(z0:Int),~~~lq z0 zA,z0 (zA:=zB) (zC:=zD) zE zF,Str->U3,λz0 zA=>?_,(by simpa using z0),(by by_cases z0:zA=zB),qA Expr,Nat.le_refl _,LF H',.int z0,z0 _ _,λz0 zA zB zC=>?_,some (z0 zA),(by rw[HZ F.okJ z0 zA zB zC]),(by rw[lV z0 z]),(by obtain⟨z0,zA,zB⟩:=zC zD),z0<=sizeLine,ANE a,IP z0 i zA,AM a,(by refine FP ((z0)) ?_),k+1,(by rw[lZ]),WC LD=AND A9E,decide z0,(by subst e),qA α,(by rw[z0,zA];exact zB),if_pos z0,(by cases e),A1 (A9C B2 z0 zA zB),n+1,JE X z0 zA,p.1,tI Int,TZ qB,CU b tb,z0 zA=some zB,z0 (jv zA) zB,FnScope z0 zA (A2 zB),q.2,TW qE Obj,.lst z0,h.1,λ_=>z0,jaC z0 jaN,V.int z0,PE X z0 zA,FP rfl z0,(by exact lq z0 zA zB),BA5 O.α,(by exact lq z0 zA),(by refine z0;rw[zA]),.inr z0,(by rw[EM];refine z0),(by obtain⟨z0,zA,zB,zC⟩:=zD zE),λz0 zA zB=>?_,λz0 zA zB zC zD zE=>?_,AW X.calm,λz0 zA zB zC zD=>?_,((∀z0∈zA,zB)),z0 zA=true,BU .int z0,BG (PN z0),(by exact⟨z0,zA,zB,zC,zD⟩),EY H z0,q.1,LI KK z0 Q,(by exact⟨z0,zA,zB,zC⟩),D4 jaC z0 zA,λ_ z0=>zA,qA qE,if_pos rfl,z0->zA->Prop,.inl z0,(by dsimp only[B0]),x.1,jv 0,⟨rfl,z0⟩,(by have z0:zA:=by rw[AD zB zC]),BA6 Str,A9K LD,SqL.of z0,(by exact absurd z0 zA),⟨z0,rfl,zA⟩,(by refine z0 (BT zA zB zC zD)),z0 zA=none,PM z0 zA .lst zB,AM b,Nat.zero_le _,(by rw[z0,zA];exact zB zC),BU .ref z0,NW thn z0 zA zB zC,h.2,BG n,qD Int,(by rw[AX z0 e e]),(by .exact absurd z0 zA),A9V x,wpAny z0 zA zB zC zD zE,⟨_,z0,zA⟩,(z0).map,(by refine⟨z0,zA⟩),SqT.of z0,(by rw[ZC]),∀x∈z0,zA,AH s z0,(by refine⟨z0,zA,zB⟩),AM p,(by refine⟨z0,zA,zB,zC⟩),∀(z0:zA) (zB:zC),zD->zE,(by rw[BM e z0 zA]),hI.1,(by rw[CD (GS z0)]),gM X.A.units 60,⟨z0,zA zB⟩,{s with heap:=z0},⟨z0,zA,zB,rfl,zC⟩,z0  vs H Q E,(by have z0:=zA;rw[zB]at zC),s.heap.objs.size+1,(by rw[FT z0 (BK zA zB)]),(by unfold z0;rw[zA]),WB z0 o,D2 z0 x zA,(Same.refl z0).upd,A3 (A9 z0),⟨_,z0,zA,zB⟩,IP z0 j zA,(by obtain⟨z0,rfl,zA⟩:=zB),p.2,AK z0 _ zA,tP c,(by exact⟨z0,zA,zB,zC,zD,zE⟩),tO z0 Q st,(by .exact .inl z0),(by .exact .inr z0),BA8 (GK z0),_::_,D2 H z0 zA,z0<=1000,FunAt K mg z0 zA zB,(z0 zA).map,(by rw[MK t z0]),(z0).length,AM l,⟨z0,?_⟩,(by rw[FT z0 ?_]),(by exact False.elim z0),A9G pos A9E,(by have z0:=zA (o:=zB) zC),z0 mask zA zB,(z0 zA).length,(by refine z0 zA (DW vs H Q E h) (λzB f A zC s H vs Q E zD h=>?_)),b≠z0,⟨z0,rfl⟩,λb z0 e=>zA,z0≠[],(by simp[z0]),(by rw[CM z0 zA zB]),AG (A4 z0) zA,AM t,(z0 zA).trans zB,qA Env,qD qE,(by refine z0;refine zA),x::xs,z0[zA]?=some zB,⟨_,z0,zA,zB,zC,zD⟩,z0 (.ref zA) zB,(z0 zA zB).length,(by rw[BB z0 zA zB]),(by rw[mD z0 zA List.mem_map.mp zB]),LH x a,if_neg e,qA Stmt,QZ Int,JQ x,z0 vs H Q y_3,BAF st,BAC κ D (ltK kf),lS σ z0 zA,z0 zA=false,.tup z0,cL z0 V.str,(by rw[<-z0];exact zA),Gl X z0,(by refine z0 ?_),AH s1 z0,Heap.get?_push_size _ rfl,⟨z0,[]⟩,(by refine z0 zA ?_),(by rw[z0,zA]),upd z0 zA zB zC=some zD,nb-1,2 ^ k,FN _ z0 zA _ _ s,[a],z0 λzA zB=>?_,A1A κ,B9Z prog,BA0 base z0 zA zB zC,kx kf z0 zA,List.mem_cons_of_mem _ z0,Str.ofString z0,~~~lq z0,lU .done z0,A8 z0 (NY zA) rfl zB,GH _ SqT.of z0,arrOf st,EC b,(by rw[ZG z0 100000]),A1A Key,A9G qM A9E,.type z0,e::es,Same H z0,z0 qK zA σ zB,z0=.ref zA,FN z0 A zA zB E s,(by refine wpS_bind z0),(if_neg (by rw[z0])),Its H z0 zA,c.2.1,FP z0 rfl,c.1,LF H1,i<n,(by rw[z0];simp),(by rw[FY z0 zA ?_]),(by obtain⟨z0,zA,rfl⟩:=zB),(by obtain⟨z0,zA⟩:zB:=⟨zC,zD⟩),(by kernel_rfl),out.push x,na-1,qA Keyed,(by have z0:zA:=by simpa using zB),RelV y u,EY mg z0,PySem.W.mg_none_of X G z0,CEU mainGlobals z0,(by obtain⟨z0,rfl⟩:=zA),Vals z0 zA,EK z0 qC,λz0=>?_,(by rw[HW z0 (GR zA) zB zC]),z0=none,(by have:=z0;rw[WD zA]),ZA 1,PM z0 zA .tup zB,((if z0 then zA else zB)),BG 0,EY X.mg z0,(by rw[lY Q h]),.inl rfl,x.2,out.push y,(List.getElem?_eq_some_iff.mp z0).1,∀v∈z0,zA,(by obtain⟨h1,h2⟩:=z0),(by intro qK s σ H x y v u Q I z0 zA h),gR (cR z0 zA zB),⟨z0,zA,rfl⟩,j+1,if_pos e,qA ANL,(by .exact z),HK xs.length,A3 D6,y::ys,AA4 u,z0 zA λzB zC zD=>?_,(z0 (by omega)),Q (.ref z0) zA,(by refine wpAny_bind (z0 zA)),Heap.get?_push_of_some _ z0,z0 X G,CB z0 x,(by rw[OA z0 ?_]),List.getElem?_eq_getElem z0,ib+1,⟨z0,rfl,zA,zB⟩,~~~z0 a,AM C,λi z0 e=>zA,Good st st',if AW z0 then zA else zB,(by obtain⟨z0,zA,zB⟩:=zC;rw[BA zD zE zF]),AG List.length_map z0,(by rw[AZ ?_]),ia+1,mG z0.1,(by obtain⟨z0,e⟩:=zA),ZA 2,HX pos h n,z0->Prop,A1A Str,mE ZH,(by have:=z0;rw[UN zA zB]),tI Nat,MQ A.handled,A9M us,z0 (OC zA) T zB zC,upd z0 zA (zB zC),(z0:Nat),A9D _ ((z0)),c.2.2,z0=false,z0 (.ref zA),AW ((z0)),(by rw[lX _ z0 _]),D2 z0 a zA,(by rw[z0];omega),vs=[z0,zA],vs=[z0],λb z0 zA e=>zB,z0 b o e,(by have:=z0;omega),(by rw[z0,zA];rfl),(by obtain⟨z0,zA,zB,zC,zD⟩:=h),HY z0 zA<=zB,(by refine B5 z0),EH z tK,a.1,BG m,Q (.int z0) H,(by rw[DN z0 this]),(z0 zA).mp,(by refine E2 z0),(by rw[BA z0 rfl zA]),.str x,(by rw[MR z0 zA];rw[UI]),λi z0 H' _ h=>zA,A9Q X.A,Nms ns,(by .obtain⟨z0,zA,rfl,_⟩:=h;rfl),PotAt H a b,cK eval z0,Nat->z0,YZ z0 .tup zA,∀y∈z0,zA,ZF C8 0,EZ H z0 zA,EC p,ZD St,IC _,λi z0 H'=>zA,(by rw[DR its z0 zA zB zC zD]),BG i,GI h',λz=>tK,(by refine wpAny_pure z0),⟨z0,H1,zA,zB,zC⟩,BG 1,(by rw[AY _ z0]),AQ v,(by rw[JP z0 zA]),(z0 (by simp)),(by have z0:zA=zB:=by simpa using zC),A3 (A9 (z0 zA)),z0 λo e=>zA,(by obtain⟨z0,q⟩:=zA),z0 (caps:=zA) zB zC zD,(by obtain⟨z0,zA,zB,zC⟩:=h),(by obtain⟨z0,H1,zA,zB,zC⟩:=zD),List.mem_singleton.mp z,HL z0 zA [zB],CEY a,[x],BQ i,DX v z0 zA,(by rw[GV u z0 zA];cases zB),(by rw[AE h1 z0 h2 zA]),~~~lq z0 zA zB zC,(by exact wpAny_pure z0),AK z0 (BL zA) zB,WK bk z0,(by have z0:KB zA zB zC zD zE:=A0),A9M vs,u6 H h,WG qO.endLine qM.line,(by repeat (any_goals (first|assumption|wp_step))),Two D kf a b,(by first|exact .inl rfl|exact .inr rfl|assumption),qA (z0×zA),z0 P w K mg,Array z0,qD qB,model X.prog X.w,gH z0 V.int,cL z0 V.int,Q z0 H',(by show z0;exact zA zB),LG z0 s H _ I h,(by exact this),(by refine gJ z0 zA),PP (BA4 0 z0),z0 b o zA e,(by rw[DL z0 zA this]),jaC z0 (jaC zA zB),DD [],GP h'.get?,(Value.none,Value.none),⟨z0,zA,rfl,zB,zC⟩,OpR X (compareOp z0) zA,GT rfl z0 zA,⟨o,z0,zA⟩,DD zs,(by by_cases z0:i<zA),z0 zA zB=some zC,DA z0 [zA] zB,⟨_,rfl,z0,zA,zB,zC,zD,zE,zF,zG,zH⟩,λ_ _ z0 zA=>zB,BAK _ (EU z0),(z0).length,AH fin z0,lT .inl z0,A9H qE,LG z0 s H,z0 σ H1 λzA H2=>zB,(by rw[z0];rfl),z0∉ZH,(by obtain⟨z0,zA,zB,zC,zD,zE,zF⟩:=h),s2.heap.objs.size+1,(I0 z0 zA (by rw[u0])),(by refine z0;rw[EM]),lT .inr z0,(by rw[ZG z0 1000]),(by rw[lY D h]),(by cases h),⟨z0,H2,zA,zB,zC⟩,(by exact lq z0),ZD Bool,Cls K C,DJ a ta,JT X (BAE z0) (O0 (A1E zA)),WY V9 z0 c.h d.h,D2 z0 b zA,cK starEach z0,(by rw[z0]at this),.int z0 zA,pos t.mask z0 zA,AW ((z0==zA)),0<=x,z0::caps,KL z0 zA [zB] zC,Str.join z0 zA,ZA 0,hsh prog w r,EG 1 z0,gO z0 gP (PP zA),qA Key,ZI z0 _,(by rcases z0 with rfl|zA),lo+n,DX x z0 zA,z0 σ H zA,HJ a z0,z0 (~~~zA zB),(by rw[z0,zA]at zB;cases zC),⟨z0 zA zB zC⟩,OB e,(by rw[z0]),DG A6,A1F Str.ofString z0,~~~z0 zA hi,AM c,AH s2 z0,z0 zA σ H,(by rintro rfl),c.2,z0 zA (List.mem_of_getElem? zB),gQ z0 zA flatten,(by rw[PZ z0]),(z0 zA).mpr,λi hi=>z0,List.mem_append_left _ z0,OG hi,tU SqL.of z0,(z0 zA).mp zB,HL z0 zA [zB,zC],UC xs.map,(by rcases z0 with q|q),(by have z0:zA:=by rw[JP zB zC]),PY h.get? z0,(by rw[mS z0 zA zB (DD zC) zD zE]),g.1,.str _,DG B1,h.2.1,(by rw[LJ z0];dsimp only),(LK (by decide)),A9H Int,BI z0 K K a zA (xs:=zB) zC,(by by_cases c:z0),(by obtain⟨u,z0,zA⟩:=zB),∃z0:Nat,zA,.int _,if_neg a,if_pos a,a.size-1,A1A WP,HK n,(by rw[ZG z0 3000]),x∈xs,(by cases a;exact z0 (A1K AJ)),uC l,PA X LD t,z0 x y H Q,Array (qD qB),(by .exact(d e e' FV).elim),H z0=BU zA zB,EG z0 jaN,z0 K rfl zA zB,(by decide +kernel),EK z0 Hp,(by rw[z0];decide),z0 K (jv zA),(by have z0:BZ (PN zA):=by rw[BA3]),[a,b],A1B z0 _ zA,leK kf z0 zA,AW (z0 K zA),I.tok _,z0 (Nat.le_refl _),upd H z0 zA,(z0).toNat,GP s.heap.get?,IT H z0 zA,YZ z0 .lst zA,(none,z0,zA),z0 (leK kf),[e],∀b∈z0,zA,AQ 0,jv 1,FN UA X.A z0 zA X.xe s,Wk rss cs z0 zA zB zC,(by intro qK s σ H z0 zA Q I zB h),⟨z0,zA,zB,rfl,zC,zD,zE,zF⟩,AK z0 zA (AK zB zC zD),(z0 zA).symm,z0.2.2.2.1,EK z0 SortSt,(z0 (by rw[AD zA zB])),z0 _ _ _ _ _ _,(by show z0;decide),A1I tk,A9J C0 (N:=[z0,zA]) (src:=[none,zB]) zC,z0 (~~~zA),[CC],tW (),A4 (A5 z0 zA),D2 H' z0 zA,lT SqT.of z0,z0 b o e zA,(by rw[AX e z0 zA]),OD xs,upd H1 z0 zA,(by rw[LK (by simp)]),BQ j,⟨z0,kw⟩,ZM I.hok.fresh,A9R xs,λH' s=>FU (FX z0),z.1,(by obtain⟨c,z0,zA⟩:=zB),⟨z0,_,zA,zB,zC⟩,a+1,BS List.length_filter_le,RelV x v,BZ xs.length,UB xs.map,LG z0 s1 H1,(by .obtain⟨z0,zA,zB,zC,rfl,_⟩:=h;rfl),decide_eq_true z0,(by rw[QE z0]),y.1,(by rw[z0,List.take_length]at zA),gY (WO z0 zA),A1N z0 zA hz,q _ A24,RelV x u,AAI z0 EP,st.2,st.1,(by unfold z0;split),.bl b,BH z0 a,BH z0 h,(by refine FP rfl z0),(show z0=zA by rw[DN zB zC]),DrTx K C,x<=topN,SqT K H a xs,CU o to,CF3 CFD,CU e te,P.length+LA.length,(by rw[AAR z0 d tk os s]),z0 zA X.env,.lst (z0 zA),{z0 with heap:=zA,toks:=zB},z0 V.int,⟨rfl,z0,zA⟩,KM z0 (lo+zA),GQ z0 c,z0 σ H λzA H1=>zB,z0 prog w zA zB,z0 (zA ?_),["self",z0],(by refine z0 (zA ?_)),KL z0 1 [zA,zB] zC,PQ.1,A1G z0 .tup zA,FC (UH z0) zA s1 zB,FB a,(z0,zA)::r,congrArg z0 zA,x+1,DD ys,x.2.1,FB p,(by have z0:¬zA:=λz=>zB),sp vs H Q E,z0<=100,.bl _,IP z0 zA x,2 ^ 63,z0.2.2.1,z0 (wpAny_bind zA),LC "tuple",ia+k,A1H gW,b.1,∀t∈z0,zA,Nat.le_trans z0 zA,z0=V.int zA,tJ ?_,UL [z0],NoAttr K C z0,sdS rss ss,attributeBase o z0 X.env ANO=ANO,pure z0,z0<=mask,D9 X z0 zA,~~~z0 hi,dC z0 v zA,n::ns,(by obtain⟨z0,_,rfl⟩:=zA),(by obtain⟨v,z0⟩:=zA),(by rw[AX e2 z0 zA]),(z0)[i]?,A1L MU,KV qL vs,(by unfold z0;rw[zA,zB,zC]),⟨_,z0⟩,z0=decide zA,2 ^ 64,RJ ys (BP/\z0),AK k NA e,(by by_cases a:z0),Nat.lt_irrefl _,AQ r,qD V,ZD It,x::a,GS a3M,QZ Bool,MM Bool,OD X.N,1<=n,y::AOR,PySem.W.mg_of X G z0,a::l,(by rw[RW e]),(by exact Heap.lt_size e),SqL K H a xs,A23 nne z0,(by rw[hH a];exact z0 (A1K AJ)),(by rw[uQ hs]),FN KK A z0 zA zB zC,z0 xs H Q,(by intro _;rfl),ZQ y ys,z0 (OC zA) T,(by have z0:upd zA zB (JM zC) zD=BU .tup zE:=A0),K4 f mK (z0::st) rs,U8 n EO B1,JK H z0,.tup (z0 zA),z0 λzA=>?_,ANB (LC z0) (zA zB),z0 K (jv zA) zB,z0+zA<cLine,z0 V.str,DG (z0 zA zB),A9D _ B9,(List.replicate z0 zA).zB,A1C σ z0,∀b o,z0->zA->zB,.ins C dx z0,s.toks+1,wpAny_mono z0 zA λzB zC zD=>zE,ZB B6 T.b_tuple z0,z0 X (zA zB zC pos) zD,(by rw[MK t' z0]),[BQ z0,zA],AM s.heap.objs.size,ns.length+1,(by obtain⟨z0,zA⟩:=zB zC),z0 zA (some zB),IQ rfl z0 rfl zA ?_,z0 kf la lb zA zB zC,List.mem_append_right _ z0,BU (z0 a b zA zB) zC,y::r,PV (z0 && zA),λ_ _ z0=>zA,MethAt K C z0 zA zB zC,ANT k,BAJ L9,(z0 zA).upd zB,(by rw[LJ (NW C2 z0 zA zB zC)]),A9S (GP z0) zA,b::rest,(by refine congr (mB z0) (ANG zA)),(if_pos (by rw[z0])),λb z0 q=>zA,B7 src σ,z0∈t.place,AQ x,CU (z0 zA zB pos) zC,BK b z0,JL decide z0,EZ H2 z0 zA,lU .yield z0,gU fs,z0 ⟨zA,zB,zC⟩,∀r∈z0,zA,gdK b z0,EG 0 MU,cU "words",AO9-i,z0 x c e,ANY % CF5,(by obtain⟨z0,h⟩:=zA),BK z0 a,gdK a z0,KN a,(by rw[HN c]),tN HT.lexLt z0 zA,i=j,Int.lt_of_le_of_lt z0 FV,if z0 then _ else zA,f.1,(let ⟨z0,zA,zB⟩:=zC;⟨zD,zE,zF⟩),⟨o,z0⟩,ZA 3,FW z0 WH,s1.trans s2,decide_eq_false z0,(by rw[z0];rw[BM zA zB zC]),(z0,AM zA),(z0 v zA).1,(z0 zA).mpr zB,(by rw[nF z0 r]),A20 z0 x y,(by obtain⟨z0,zA,zB,zC,zD⟩:=zE;refine zF),(by exact .inr z0),D2 h.get? z0 zA,AH s' z0,BG k,A1 (A9C B2 z0 zA (zB zC)),FW xs z0,ID u z0,A8 b (NY z0) rfl zA,BB4 z0 RH,CFI xs.map,X.prog=P,X.w=w,TW qI qE,∀z∈z0,zA,(by obtain⟨z0,zA⟩:=zB;obtain⟨zC,zD⟩:=zE),BZ ys.length,TZ α,(by have z0:zA=zB:=by rw[<-f];rfl),if_neg h,j<xs.length,HK us.length,(by rw[ZG z0 300000]),(by rw[MO z0 zA (JM zB) zC]),(by rw[GN F1 z0 zA]),ns.length<=7,QB FZ,(by intro qK s σ H x vs v z0 Q I zA zB h),(by rw[hX z0 zA List.mem_iff_getElem?.mp zB]),CEX z0 .builtin zA,CEZ [],DA [z0,zA] [zB,zC] zD,h t List.mem_cons_self,z0 C vs H Q y_3,(by rw[WR BBQ a]),iE AP7 AP6,BC0 (FAt C H p ra),z0 K xs H Q,λqK s σ H z0 I zA=>zB,∀vs H Q E,dM->CFS,Inv X qK z0 zA zB,.inr (z0 zA),pure (z0 zA),(by rcases z0 with zA|z),QY e,(by show FN _ z0 zA _ _ zB),(by intro qK s σ H z0 I zA),(by with_unfolding_all rfl),congrArg _ z0,NZ p z0,(by rw[BX z0 zA rfl zB zC]),Off z0 H H',arrOf st',(z0).trans,(by subst z0;exact zA zB),((show z0 from zA)),EU A0,c / 28,Its H' z0 zA,(z0 zA).filter,PQ.2.1,Same.refl H,AM f,(by exact wpS_pure z0),(by have z0:upd zA zB zC zD=BU .lst zE:=A0),(by simpa using this),OB q,⟨z0 zA AI AI zB a⟩,z0<s.heap.objs.size,z0 (.type zA) zB,xs=[z0],D9 X (.builtin z0) zA,DJ (z0 zA zB pos) zC,FU (AH z0 zA),IB p,GH _ SqL.of z0,WF x N,(by rw[aA xs z0 zA]),cN xs.map,HM List.range z0,StateT SortSt Sem z0,(z0).trans,(by rw[<-z0];exact zA zB),AH z0 _,Q z0 s',C6 x,OB (OB z0),wpAny_call_entry z0 zA zB zC (zD _),a1S A9U A9U,EP X qK σ Q z0 zA,(by rw[List.size_toArray,<-z0]),z0 (wpAny_pure zA),(by exact .inl z0),PT X z0 zA,CB rss z0,lo+z0-1,DS i z0 zA,A22 size,Nat.lt_of_lt_of_le (Heap.lt_size z0) zA,(by rw[GA z0 _ rfl (tX mJ zA zB)]),(by refine call_meets z0 zA zB (BS zC) zD zE),A9J C0 (N:=[z0]) (src:=[none]) zA,⟨_,rfl,p,C,dx,_,rfl,z0,U.cl,zA,zB,?_⟩,(by unfold z0;rw[zA];rfl),(by unfold z0 at this),(by exact z0 zA this),LI UA z0 Q,(by rw[JR wpAny_pure]),frs X.stack,A8 z0 (zA (~~~zB)) rfl zC,⟨_,rfl,z0,zA,zB,zC,zD⟩,AO8 q,(A5 z0 zA).symm,(by rw[MO s1 H z0 zA]),z0 (gK "tuple" .seq zA),z0 kf a.toList b.toList zA zB zC,(by obtain⟨z0,zA,d⟩:=zB),Q (some z0) zA,(by have z0:zA=zB:=by rw[AD zC zD]),(by rw[HN b]),ZV fp z0,EY H' p,SetS prog w z0 zA zB,L4 z0 (A9F zA zB),z0 b o e n zA zB,F9 qL k,Itz K k1 k2 a b,(by cases z0;cases zA),(by subst this),Heap.lt_size e,(by rw[BB z0 wpAny_pure zA]),List.mem_cons.mp z,a+k,BAI CFO,BAI CFP,BAV xs,AOT 1,AOX z0 zA X.xe zB,gX z0 zA e s z (absurd z (zB e s)),(by rw[z0,zA,zB]),show z0 from rfl,AH s5 z0,Str.join z0 zA=zB,GP h.get?,(by have z0:zA=zB:=by simp),(by rw[BB z0 wpS_pure zA]),A9H qB,LN e,BA6 Keyed,P.length+k,List.length_map ..,(by rw[u8 wpS_get]),CEX z0 .type zA,A27 h.get?,∀i,i<z0->zA,a0O p q,⟨_,rfl,a,b,z0,rfl,zA,AI,FV,zB⟩,Binds K fd ps [],(by subst a;exact z0),(by obtain⟨z0,zA,zB⟩:=h),(by rw[<-z0]at zA;split),qA Nat,qA (LLI),(z0 zA).trans,AH j z0,BG j,.ok _,qD Expr,TZ Nat,jv 2,BL a,BH z0 h2,x::iD,(by rw[LJ (z0 (BT zA zB zC zD))]),CO c,EQ ?_,MM Result,(by rw[OE wpAny_pure]),A9K ZU,pure r,IE L,(by exact DK h),CU o td,mY FZ,(by .exact z0 x z),DY J9 x,CEZ L,AAN h,A.units+1<cLine,AB0 s',TZ (tY α),CB X.N y,c::cs,DJ e te,CFH J0 z0,APS 1,z0 zA σ H Q,elem' a z0>>=zA,z0 (OC zA) T zB,DJ b tb,TabOk t es,Loc X.env.scope y,Cls X.K C,⟨z0,zA,_,_,rfl,rfl,zB,zC,zD,zE⟩,CG8 z0 (OC zA) T,∀e s,¬X.xe e s,(by .obtain⟨z0,zA,zB,zC,zD,zE,rfl,_⟩:=h;rfl),DY X.fn y∨D2 X.env.scope.names.lookup y .local,AllD D (arrOf st),.of_wp λprog w A R s h=>z0,z0 (zA:=zB) zC rfl zD,List z0,IQ rfl rfl _ rfl z0,(nomatch z),D2 z0 zA o,(z0 : Str),z0 zA zB=false,CER KK,⟨#[z0]⟩,WB z0 u,⟨z0,BK zA zB⟩,seqObj "list" z0 zA,.inl (z0 zA),.str (z0 zA),(none,z0),EL (tR z0 zA zB),Int×z0,[z0,"one"],(by intro z;cases z),(by rename_i e),HOk P w z0 zA,(by rw[AZ (z0 zA zB ?_)]),(by rw[cW wpS_bind z0]),z0=BU some zA,LH v z0,z0 I.hok e,ZR z0 xs,ANS outer b a E,AW (z0 zA zB),SqK z0 K zA zB (zC zD),ZN z0 o,FD i z0 e,AQ 1,i<=j,∀i,z0<=i->zA->zB,BS List.length_take_le,DG RC,ts=[],A9L st' z0,OpR X (binaryOp z0) zA,(by rw[EV (CEW z0) Bool.false_ne_true]),mask+1,(by exact z0 this),HP (z0++zA),cT z0 wpAny_pure,GJ z0 H I zA,(by simp only[List.mem_cons,List.not_mem_nil,or_false]at z0),O.kle z0 zA,ltK kf z0 zA,ANM mg z0 zA,K1 ns x,λc st'=>z0,{cls:=z0,dict:=zA,data:=zB,slots:=zC},cN ns.map,QC o z0 (UM zA zB),AO0 (BAL z0),(by unfold z0 at h),~~~z0 d,(z0).2.2,LC "list",(by rw[AZ z0];rw[AZ zA]),cO rfl z0,[([],z0)],EY H' b,(uD).env,(by rintro z0 H' ⟨s,rfl⟩ p hp),Str.join z0 (zA zB),qD Bool,z0 i hi,IR s.TypeIs z0 zA,ZO (z0+zA),id D,A8 z0 (zA (KP zB)) rfl zC,AAM (NY z0) zA,~~~Y8,AW b,(by have:=z0;rw[mT]),~~~z0 h1,BK p z0,(z0 zA zB zC).length,2 ^ b,NZ s.heap.objs.size z0,A9H NameKind,mC H',2*M,QA FZ z0,tS #[] 0,rI z0 λi j=>BQ zA,AOE a (z0 (BAY C s H ex) zA zB),PP (CF7 (BA4 0 z0) (BA4 1 zA)),(by show z0;omega),⟨σ,z0,zA,zB⟩,(by obtain⟨z0,zA,f⟩:=zB),(by obtain⟨o,z0,zA,zB,zC⟩:=zD),AM it,(by have z0:zA:=by rw[zB,zC];rfl),h.2.2,AG z0 e,AG z0 (lq zA zB zC),BK v z0,TZ GenState,jv 3,DF ?_,λx hx=>z0,s.trans s2,EH z AA0,b∉ch,tU .inl z0,r∈rss,BB5-2,vs=[z0,zA,BQ zB],[e,f],tJ (E2 ?_),BB0 s'.gens,OH+k1,a8c P w a xs,.str z0,(by simp[z0,zA]),(by obtain⟨z0,zA,e⟩:=zB),z ▸ z0,((QJ)),AH s3 z0,jaC z0 (DG zA),AK z0 (J6 zA zB) zC,BS Off.refl,(by rw[AZ z0];replace zA:zB:=zC),j-1,GR H,(LK (by simp)),s.heap.objs.size+2,x=.str z0,te z0 H1 zA,(by rw[WX List.getElem?_map z0 zA zB]),a::iM,G2 qN,AAG (ANR z0) (tCB zA t),la.drop ia,DW i j z0 zA zB,AB3 f take,BI z0 vs zA as zB (caps:=[]) zC,w1++bk++x,λi h h' st z0=>zA,t++wd "+" :: BCA,wpAny_pure z0,∀(z0:Nat) (zA:zB),zC,⟨z0,zA,?_⟩,⟨rfl,z0,zA,zB,zC,zD⟩,MtM X z0 zA,AM ra,Heap.get?_update_self _ z0 zA,(by have:=z0;rw[uS zA]),IP ((z0)) zA zB,Q (.bl z0) zA,TZ DictEntry,TZ (ANL),G6 e,G7 e,of_decide_eq_true e,lo+m,List.mem_map.mp b,if_pos h,BL h,EC a,EC s.heap.objs.size,FB l,AU z0 c zA,AU z0 d zA,BC c,QZ A2V,OD l,I.pin p z0,A9J (A9C a0z z0 zA) zB zC zD,A1G z0 .lst zA,(by rw[ER z0 zA Array.getElem?_toList zB]),ZN a z0,n<=7,sa+j,LH x l,WN WL,ZT la.Pairwise,ZT lb.Pairwise,A1L uM,CU (BAE z0) (A1E zA),UU z0 (BK zA zB),Ris xs,Bds xs,MG K a z0 zA zB,MG K c z0 zA zB,A21 us,A21 xs,BAN 33 z0,BAN 86 z0,nB DE z0,Sem Bool,10 ^ 100,α->V,X.A.units+1<cLine,A2H ns.length,v5 uJ,TW κ qB,DJ o td,ABD BAR,V->AA->A1R,A32 (cR z0 zA zB),BBG Int,t::AA1,(by exact Nat.le_trans this z0),R9 ys j,AQB (APM z0),CFW zs.length,CFZ items,BCP nt,λi v x z0 zA zB zC zD q=>?_,Wg (wd z0),(by exact(show False from z0).elim),(by intro _ _;rfl),CGT qQ,(by generalize z0=H2 at s2 zA),TW TE TE,A1 (z0 zA (PP zB)),DY a8f scope,(by refine wpAny_passesOwn hp z0),ML dvs ds,WC ZU=AND BAR,SetTable.below xs j,(by rw[mH z0 KeyOrd.kle_refl _]),YZ a .dT qL,A++wd "=" :: B,APT (DkAt C H p ns),a0G CX X E,DrAt C H p ar as ac ap d,DA N ps st,uE B8 scope X.env.scope,iA MS o ia ib,AA5 FnOk X.base CX k f fd ps sp,Sg5 ns rss ss cs ps,CompW src g z0 te σ Q zA H1,Binds X.K fd ps ds,.Call z0 zA [] zB,TW z0 V,z0 _ _ _ zA zB,λz0 H Q=>zA,LC "set",tOp z0 ta tb,V.str (z0 zA),H' z0=BU zA zB,{s with toks:=z0},cM s h' z0,∀H',BP->z0,C4 I q z0,ZB C7 T.b_len z0,RI kf κ z0 zA zB zC,UG (BZ z0) zA zB,["self"],GH z0 .inl zA,cP mF z0,EK Hp VK,xs.map z0,GH z0 .inr zA,ANI p,tJ (B5 z0),ObjOk z0 zA H zB zC zD,TY MethOk base C z0 zA zB (zC C),[AM z0],FQ (z0 λq=>zA),RB z0 (ZJ zA zB),RA a z0,A9L st z0,z0 (KP zA),Same.refl _,GT z0 rfl rfl,z0++[v],tL z0 a,(by refine mB (ANG z0)),E6 st,A2 st,UE v,cQ X.env.cells.lookup,C1 (a1R z0),A1M a0 z0 zA rest,z0 C H' p zA,[AAD AAC],xs.length=z0,WB H z0,λz0 zA e=>?_,KN b,cM s z0 tk,BA9 (A9N z0 qO),CU (CF6 z0) (A1E zA),ItAt k z0 zA l zB,BU .builtin z0,.r z0 zA x y,sIx items.size 0 lo,show z0 from rfl,(z0 zA zB).trans,((k+1)),ZD AA,WF WM N,ANU z0 "most",(z0) % 26,BAM topN,AAK H,a1w prog w z0 zA zB zC,λD σ H=>z0,CFA lo,z0 T zA (eq_of_beq zB),(by rw[mR (A1P g (DK z0))]),z0->Bool,z0<=900,D2 K.lookup z0 zA,Q (.bool z0) zA,L3 K z0,wd "cap",DF rfl,WE z0 t,ANI pos,K1 ns y,uH v,BAX ForInStep z0,DX b fp z0,(by rw[AX z0 z z]),λ_ _ _ z0 _ zA h=>zB,⟨z0,zA,e⟩,(by unfold z0;rw[AZ zA]),D2 z0 s.heap.objs.size zA,UC cs.map,λi h=>z0,sIx n z0 zA,AA2 s.heap.get?,AA9 (MX<z0),AAW AJ,AOM nE,CFC Nat.ne_of_lt,⟨z0,zA,rfl,FU zB,rfl,zC,zD,rfl,zE,zF,rfl,rfl,?_⟩,⟨z0,zA,rfl,zB⟩,(by obtain⟨z0,zA,c,zB⟩:=zC),if z0 then KQ zA else zB,IP b.toList z0 zA,(z0 b zA).1,BK z0 j,Q z0 st',tn i z0,(by have z0:zA=zB:=by decide),EC l,DK ?_,(List.mem_filter.mp z0).1,D5 P w,ANN V.bl z0,CB vs v,z0 xs ys,BB3 bk z0,c % 28,AW (AOP z0 "BaseException"),[z,TI,TO,g,j],z0<=10000,∀c∈z0,zA,(by exact .nil),(by obtain⟨e,z0,zA⟩:=zB),z0∉t.place,AM d,~~~z0 h,List.mem_append.mp a,List.mem_singleton.mp a,B9Z P,EU hp,elem' b z0,HL z0 zA (tZ zB),PV (z0 || zA),cP qQ z0,gN ws.map,Q (.str z0) H,A5 e z0,(by rw[UJ List.ext_getElem? z0]),z0 rfl zA WL,tX (EU z0) zA zB,Stps d z0 zA,A1Y p2,h x List.mem_cons_self,∀v,v∈z0↔zA,BAS .bl z0,c i ys H,(iO (by decide)),R (APK z0) zA,BAW a,BC2 a4A,(by rw[iK z0 y e1 e2]),AB6 H nC (GP z0),mB (BBD (ANG z0)),((∀H2,CG0->z0)),(by rw[AAP (IR field z0 zA)];rw[BBZ zB zC]),["_law_system","_law_word","_law_most"],List.mem_append.mp z0,[BBR],(by rw[z0];exact zA),⟨rfl,z0,zA,zB⟩,(by obtain⟨z0,H2,zA,zB,zC⟩:=zD),~~~a2r,(by simpa[z0]using this),(by exact SqL.of z0),LC T,gG s',.cons z0 (zA zB zC),(z0 j zA).2,2 ^ A2U,NY if_neg,HY z0 V.str,tI LqR,.k n,(by rw[WD z0];rw[UI]),PV (! z0),LN g,(by rw[MO z0 zA (DD zB) zC]),wpAny_pure ?_,OJ a2p,ANM X.mg z0 zA,Value.int i t,XM List.length_map,v::vs,BBC z0 (LC zA),FC (AAQ z0 zA zB) zC s2 zD,x≠"__name__",BCJ 0,BCG::ks,(by rw[e1,e2]),Meets (z0 zA) (λ_ R s=>zB),W5 K B1 z0,BT i j z0 zA,BK H2 s2,a0O q p,wpAny_setField_rec z0 AJ λzA zB zC=>zD,aB _ rfl _ z0 zA zB zC,KT H qL xs,(by obtain⟨z,its,n,r,z0,e⟩:=zA),kv.1,(by cases z0;rw[HN zA]),(by unfold z0;dsimp only),⟨q,z0⟩,(by unfold z0 zA;rw[OA wpAny_bind zB]),(by try rw[CH6]),(by generalize z0=H2 at zA zB zC),qA β,fuel+1,jE+1,(by exact wpAny_bind z0),AH z0 e2,AG z0 List.mem_cons_self,AG z0 (lq zA zB),AK z0 qr zA,BZ vs.length,jv 5,decide_eq_true e,BH z0 hi,(by .exact KeyOrd.kle_trans z0 zA),x::r,(by refine FP rfl ?_),QZ RG,QZ ACC,p::r,MM Unit,y::b,(by rw[z0];exact NE zA),KR z0 F.mono zA,cQ qP.lookup,UL (BAG z0),d.names.length<=7,QB CC,A9R vs,A9R ys,WN (DG z0),(by rw[LK (by decide)]),FiTx K C,XJ z0 x zA,AAA CC z0,mZ z0 (zA K),uG a,uO size,(by rw[hH a];exact z0 (A1K zA)),A2I CH2,DY J9 y,AAG (ANR z0) (AQZ zA),(by cases r;rfl),(by rw[BB2 (OI g z0 zA)]),AOV j,R (.ok (CG4 z0)) zA,AOZ qL.length,ABB b,(by rw[RK r z0 zA I.list zB]),(by rw[RK r z0 zA I.tuple zB]),APA s.heap,BBK s.heap,z0 zA _ (List.getElem?_eq_getElem zB),(by rw[HN r];rfl),CFN Loc,W i m σ H,K.In s.heap,z0 _ (List.mem_of_getElem? zA),AQG k,IntsAre vs ns,(by rw[UJ b _];rw[iN ?_ c]),q::qs,a4f z0 (a2W zA),(List.getElem?_eq_some_iff.mp e).1,(by rw[DL z0 h1 h2]),z0 x vs H Q,CGU OkE,t.led=AAF,AQE (BZ z0) zA hz,thn (AAQ z0 zA zB) zC,uR=KD,BDC∨APE X.env.scope.names.lookup,(by generalize z0=H1 at s1 zA),.str (Str.ofString z0) zA,t.place.getD i 0+1,(by rw[AD Heap.size_push (AQ9 z0)]),A9D _ (WQ z0).h,a2Q ns zs,(by .rw[u5];rw[A35 (A34 z0 zA e)]),C9 K EO A6,(by rw[BB2 (A1T g (cO z0 zA))]),z0 X [.Assign [CFG] zA pos] zB,(by rw[CGA b b.unheld]),gX z0 zA _ _ x x,F9 qL k=none,(by rw[mH a z0 b]),(by .obtain⟨z0,zA,zB,zC,zD,zE,zF,rfl,_⟩:=h;rfl),key _ ⟨z0,zA,?_,?_,AI⟩,AW (Q8 N src X.N scope),(by rw[BBH z0 ws ws.toArray h2]),(by refine⟨false,z0,_,rfl,mJ,zA,?_⟩),tH z0 i zA zB (Or.inl rfl),λ_ _ _ _ z0=>zA,WC es,A9C A7 z0 zA,JL (backTo z0 zA).any ((·.1)),TW Str z0,(s.heap.push z0).zA,(z0 zA zB zC (by show AW (BS B8);rfl) BA1 BA1),JA X z0 t,(arrOf z0).zA,LL z0 rss,.Attribute o z0 zA,CXE P w,FQ (z0 (Str.join bk)),Room k z0,ML z0 us,∀b o,z0->zA,qA Keyword,MN e,ANF z0 (tM "__debug__"),(pendingOf z0).zA,A19 z0 LD pos,s.toks+z0,z0 X qK σ zA,(by cases z),u::r,tL z0 c,ffl ra ca z0 zA af aw,RelV v z0,ANK z0 X.K X.mg,{z0 with heap:=zA},KO "__next__",z0 kf (arrOf zA) lo zB,(show z0 by decide),ANH PySem.W.findIn z0 zA,C1 (D4 z0 zA zB),wd "of" :: ns,V.str (Str.join bk z0),HJ z0 (gH zA zB),CEV w.params.followText,CU (A9X z0) zA,WE z0 0,ZY z0 (A9Z zA Q),∀z0 H',BP->zA->zB,D.nx σ z0,AO2 (mC z0),A8 a z0 rfl zA,(by simp at z0),(z0).lookup,(by rw[PX (z0>>=_)]),LG z0 s1 H1 _ zA zB,(by obtain⟨z0,g,zA,zB,zC⟩:=zD),TY OkE,BQ z,lo+k,CF1 ED,⟨mP,z0⟩,((show z0 from zA)),D2 s.heap.get? z0 zA,AW (z0 K zA zB),JK H' z0,AA3 b ah,((∀i,i<z0->zA)),(List.zipWith z0 xs ys).zA,⟨z0,zA,zB,0⟩,tN behindInMarks z0 zA,gT (GP z0) zA zB,GJ hQ _ z0 zA,BA9 A1U,MJ kf a b z0 zA zB,["self",z0,zA],LH y z0,SqL K H z0 zA,A9G pos z0,RA z0 us,UE .non,A19 (ANR z0) zA pos,AAL (RD p z0),LP=none/\z0/\zA,(by rcases z0 with z|z),z0 prog w zA,(by intro X z0 hw zA zB i qK s σ H E I zC st zD;subst zE hw zF),(z0 zA zB).extBut,t.2.2,BS Nat.le_add_right,HY z0 V.int,A9S ZP z0,cZ q z0,mL zs z0,.int i t,z0 j 0=zA j 0,(by rw[AOF ex AO6 z0]),⟨_,rfl,_,rfl,z0,zA,rfl,zB,zC⟩,(by exact PySem.W.kia_one z0 I.kIn zA e RQ h),z0 (·.1),(nomatch h),((if z0 then zA else zB)),(by refine .inr z0),~~~a0I z0,(QD z0).1,TY FnOk,WG z0 Value.none,cT wpAny_bind z0,c AO,A1T rfl z0,AA6 s' z0,((z0 zA).take zB).zC,BA0 base z0 zA zB (zC K),qI×qE,call (.builtin z0) zA,((BB6 (mW b))),(by obtain⟨x,z0,zA⟩:=zB),∀(z0:zA) (zB:Nat) (zC:zD),zE,(by rw[<-Array.length_toList,z0,zA]),List.replicate z0 zA,List.Perm.append_left _ z0,BU .str z0,(by refine wpS_pure z0),AH z0 e1,YZ z0 .own zA,DY d z0,tVar i,Q (.bl z0) H,r.length=n,EK Hp ((z0)),.dK [],.dT [],ANV objs.size,Wl ws,BT b o z0 zA,z0 N3 (zA,[]),o.cls=.type z0,WW List.getElem?_eq_none O2 z0,A1X z0 1 A1O zA,λH2 s2=>z0,(by obtain⟨z0,zA,p1,_⟩:=zB;obtain⟨zC,zD,p2,_⟩:=zE),LG z0 s2 H2,(by rw[lX A.in1 (z0>>=_) _]),∀(qK:DC) (s:qC) (σ:St) (H:Hp) (z0:zA),zB,a.length<=z0,{d with z0:=zA},z0->zA->Bool,Vals (z0 zA) zB,bc+1,ac+1,v.length=z0/\zA,(AOG).2,2 ^ 60,A3 (E8 z0),A1 (F8 K EO z0),FW z0 (ZJ zA zB),IB X.env.locals,A1C xs z0,gL z0 zA (DG zB),ANQ "left",ANQ "seed",ANQ "many",A1S ca,A1H (A9Y CFQ),D7 iI,BT z0 H1 s1 zA,G0 l ρ,BBL S6 te z0,(by rcases z0 with⟨zA,zB,rfl,zC⟩|⟨zD,zE,rfl,zF⟩),(by show Sub _ z0/\_;rw[zA];rw[FT Sub.one zB]),Tdc rss cs m z0,tO z0 (zA kf st a b zB) st',a1a w a ep es,rawInt z0,(by rintro⟨z0,zA,e⟩),z+1,AH c z0,AG List.append_nil z0,List.getElem?_eq_getElem a,lo+x,wd "price",(by rw[OA wpAny_holding z0]),GQ z0 .cell,HJ z0 (UB zA),GJ z0 rfl zA zB,tL h.get? z0,z0 b u e,WG z0 0,WI RX,frs l,frs outer,WQ a6r,plainId_quiet z0 _,d+n,uA a,10 ^ 60,Itt K a,MV H p z0,AOC p n,G0 z0 ρ=i,K7 D.ok,(by rw[API z0 rfl]),∀x c,A2C->z0,n-a,DX t ts z0,qL.any λz0=>CJ (zA=k),BCM its.toArray,A2E st' a,CG7 R.map,A2S (bk.length=1),(by obtain⟨i,hi⟩:=z0),(U4 L.size z0 zA).zB,λi h1 h2=>z0,upd z0 zA (.ins C zB zC),(by rw[CGC i hi z0]),BBJ map λ(PN j)=>DI j,(by rw[LJ (wpS_mono (z0 ?step ?fin zA) ?post)]),λb o _ _ z0 e zA=>zB,AB7 (I.laid (t':=z0) zA (iP zB mU) BO zC) zD,ForInStep z0,(by rw[nM z0 zA zB]),(by have:=z0;rw[QN zA]),(by rw[List.length_append]),if z0 then AQ zA else zB,(nomatch e),(by rw[List.length_map,z0]),(by rw[List.getD_eq_getElem?_getD,z0]at zA),(by rename_i hk),(show z0 by omega),absurd z0 zA,O.blt z0 zA,((nomatch z0)),absurd (z0 zA) zB,AH ((z0)) zA,BG xs.length,EY H1 z0,BQ n,BS IsTp.new,i<xs.size,(List.range z0).zA zB,((2*z0+1)),x::l,FW z0 (BAM zA),UC zs.map,(by rw[JR E2]),ID xs z0,(by rw[MR z0 List.length_map]),mE [z0],MV H1 z0 zA,A1I t',A1L WL,ZV z0 (b∈zA),ItAt k1 z0 zA zB zC,m<=2000,aD Option.some.inj z0,hZ z0 (KS zA),A1Y pt,(by rw[u8 Z2]),XO (GT z0 zA rfl),λv z=>AA0,R (.ok (PU .ret z0)) zA,E3 x.toNat,lb.take nb,lb.drop ib,(by refine hZ z0 (nD zA)),APZ intKind,LL zs qN,(z0 b zA e).stay,a1x ρ z0 zA,DY xs.all J9,DA (tZ z0) (tZ zA) zB,(by cases(mI AO6 d)),BDP (AO7 z0),(by rw[AX z0 e1 e1]),CHB CGZ,(z0::zA).contains,EQ (A2J j v),λi H z0 H'=>zA,uE fr owner z0,LO (b.take i),ZB a3L T.b_all (WO z0 zA),(by rw[u5];have e:¬z0:=λz=>BBV;have zA:zB:=zC;split),∀{b:qE}{o:z0},GP zA->zB->zC,AQQ t/\t.length<=2,List.mem_map.mpr z0,z0=ns.length,(by rw[<-z0];rfl),(by rw[BEX]),hF.1,(by obtain⟨j,z0⟩:=zA),(by injection h with z0 zA),(by obtain⟨_,_,rfl⟩:=z0),(by generalize upd z0 zA zB=zC at zD zE),AM q,BU z0 _,(by have z0:zA:=by omega),(z0 zA zB).toList,AH a z0,AH s4 z0,AH z0 hn,(by have:=z0;rw[AX zA this this]),~~~a1U z0,IP xs z0 zA,BK m z0,BK z0 d,BQ m,(by .exact ABO),List.mem_map.mp a,arrOf a,decide_eq_false e,a0j e,(by have z0:qL.length=zA:=zB),CB ((z0)) zA,CB z0 (zA i UR),i<xs.length,List.mem_cons.mp b,ZA 4,BH z0 c,NY if_pos,BA2 Expr,BA2 V,BC q,BC h1,(by rw[HW z0 s2.upd zA zB]),A9F z0 sc__law_found.nd,.v i,tI ((LLI)),GS (gY z0),KN e,(LK (by rw[BCZ])),(by rw[EV rfl z0]),(by rw[JR B5]),cP (CIH z0) zA,CQ z0 sc_law.nd zA,z0=pure (),if_neg λz=>z0,BA5 Prop,JU hp,RB z0 (BC1 zA),its[i],ZM List.getElem?_append_right,mE l,r.getD j 0,.a x y,.s x y,_+1<=_,MY x,ZT l.Pairwise,absurd z0 AJ,λH' s=>EU (FX z0),q _ aY,Q v H,LO l,OQ (lq z0 zA zB zC),WV iY,Heap.SameBut.update ..,X3 List.length_map,Stp d z0 zA,aG z0 zA (lq zB zC),CB its v,aH a1t,XF e1,ANW decide_eq_true,D4 z0 0 A6,D4 z0 0 ZX,MG K b z0 zA zB,AO1 z0 C,k<xs.length,AAA F0 z0,AAA XE z0,BAN 59 z0,iG z0 zA zB A1O,nA .BoolOp z0 zA zB,j<=k,AK o (J6 d z0) zA,BAS .str z0,Itl K a,uP .Add z0,uP .Mult z0,nJ (ANL),CF3 CIA,.bool true,iW p2 z0,uU wpAny_pure,(by rw[uW z0];rw[WR zA rfl]),iZ List.mem_flatMap.mpr z0 zA zB,(by exact FP List.mem_cons_self z0),tJ (B5 ?_),BAW d,A2N .Mult z0,TZ (tY qB),z0 lo n a,CF9 qL,KQ (z0,zA,zB,zC,mg,k,k1),oG z0 zA (CG2 zB),[wd "0"],DJ o to,EH _ False,oP z0 zA zB (EG 0 zC),V->V->A1R,oS z0 j,AP8 H z0,BBK h,Sm ys,(by rw[if_neg b]),a≠b,⟨z0 h.h⟩,BBS APN,k z0 AJ _ zA,CFN Vis,vN z0 hr.mono zA zB,A3I vE,z0 X (zA X.K),BK x b,BC4 ys,λb u z0 q=>zA,BC6 z0 C,ANM BC9 (tM z0) zA,ANM CG9 (tM z0) zA,JT X a tA,AB5 op b,BCC k1,AA->A1R,PPs X pos z0 zA zB,C1 (z0 zA A6),AQH z0 h2,Bel r ys,AQR (EA z0) zA,W.item z0 zA _ _ zB zC,AQW cps.toList,BCW hV,(by wp_walk using wpAny_loadPart' a),O9 ns cs,ARG i,V5 h₀ h,(by rw[GD CV k]),SqL K H p xs,PI X tg z0 zA,BDK Nat,ARN XA,AQ4 H' s'.heap,CU (A2M z0) (BCS "list" zA),(by rw[ARP e2]),CGV PySem.F.plainAttrs_list z0 zA zB,CGW κ,us.length<=6,lo+z0<=oB,(aE z0).size_eq,⟨z0,h1,h2⟩,(by .rw[BE2 z0 zA];exact a1j e),CU i ty,z0 (GR zA (o:=zB) zC),.int a t,BE6 t,iC V2 z0 zA nb,nX a tA,BEO hp,BEY X.A,z0 K vs H Q y_3,(by rw[CHH z0];rw[BE9 zA zB zC]),TW WP BEQ,gI n x,u9 BEB q,λi h st z0 f=>zA,CHX o,(by rw[BV z0 c b d]),a3N mask i pt z0 zA,CID (W 0 m σ H) z0,(z0 i H/\A30)∨(zA i H/\BEZ (∃zB,zC<m/\zD) (CIC zE)),(by rcases z0 with w|w),(by exact iF z z),(by unfold SetTable.runEnd;split<;>omega),DJ l tl,.t y n,DZ (0+RO),.m n y,(by rw[PX (z0>>=DF _)]),absurd rfl h,Q (.bl true) H',mL vs rss,UY entryFor table z0 zA,(by rw[aS h h]),Tk H H',ABA "rows" "caps",It1 K k a,(by rw[ART z0 zA us rss zB]),BDW 32 20 (ys:=z0),λfs z=>tK,∃u∈L,APP,a7M kf a b,tgl row.length qN c,AAE c cs.map cV,(by obtain⟨f,fd,h1,h2,z0⟩:=zA),(by .obtain⟨z0,rfl,_⟩:=h;rfl),Nat.mul_le_mul z0 (Nat.le_refl 21),wpAny_field b z0 (x:=zA) rfl,HL x st ps,.ins C dx r,IsEnum z0 e it zA a,(by rw[CIJ z0 zA zB];refine PySem.W.callWith_K (h₀:=X.base) I.ok.mod.kin zC zD zE zF),z0 (us:=us) (Nat.succ.inj h),(by rw[CK];rw[nW ⟨z0,WU hd p⟩]),cX "_law_next" "_law_pot_here" "_law_many" a4Y,AAS base "least" 7 (A2X "caps") (a2K z0),opI λz0 zA _ _ _ _ _ a q=>zB,∀(qK:DC) (s:qC) (σ:St) (H:Hp) (z0:zA) (zB:zC) (Q:zD),AL->zE->zF,(by rcases g with⟨qL,k,e,z0,l⟩|⟨qL,k,b,e,zA,zB,l⟩),∀(a:qB) (f:qE) (A:Around) (outer:IL) (s:qC) (H:Hp) (vs:AA) (Q:VK) (E:XK),CHE z0 zA,{cls:=z0,data:=zA},(false,z0)::zA,ANC lW z0,CU z0 ta,PR ((z0==zA)),gJ funext z0,z0 K zA zB=some none,.Name x z0,CEQ A1D (.set #[] 0 (.fresh 0 0 z0)),z0 X.prog X.w zA zB,((qJ)),z0 zA=BU .ref zB,z0 (decide zA),QY o,ANJ a,lT Str.ofString z0,.Name z0 p,CES A9O,pk b l t z0,["rows",z0,zA],A9I ANP z0,e (z0 z),gL C9 z0 A6,SetTable.bits h,ANB (LC "list") z0,rI0 λi j=>z0,z0 zA vs H Q E,∀p,RE->z0,envOfC qual scope z0 f cd,gK z0 .fields zA,A9W z0 size,BAB a,λx c st'=>z0,NZ z0 H',SetTable.runEnd mask i,C5 z0 (AM zA) (C5 zB (AM zC) zD),EY H1 p,(D0 t.mask z0 zA).j,SqAt k z0 l zA,∀z0 C s H ex,zA,(by subst z0;obtain rfl:zA:=zB),rows i,X.held p,ZK z0 mQ,tS vs.toArray 0,z0 zA (wpAny_pure ?_),R1 mask i pt z0,SetTable.below t.place z0,E7 kf a b z0,z0 zA qK s σ H _ I zB,z0 (.type zA),EU hl,x::st,PU pyNext z0,gL J8 z0 A6,MI kf a b z0 zA zB,CF0 z0 tk,∃t,u=z0,FN UA X.A z0 zA zB zC,Nat.ne_of_lt z0,z0<sizeLine,[dD],⟨DE,z0⟩,Same H1 z0,Wg x,z0 ns zs x,gZ z0 .BoolOp zA zB zC,CF8 (HP LD),BAZ LD,∀b u,tQ z0->zA,a4k w t z0,DRaw z0 d es ep,∀H1 p,LQ->AOB->mC z0,(z0 (by rw[JP zA zB])),t.2.1,GQ z0 .local,A9I z0 push,z0 (gK zA .fields zB),tV Str.ofString z0,(by rw[u7 wpAny_seqItems z0 zA]),AO3 a.heap.objs.size,.ok (.ret z0),Nat->Nat->z0,IT H' v z0,AO4 "list_iterator" BB8,IsTup z0 b its,CFK F,[V.str x],ZB U7 T.b_zip z0,AAB G8 z0 B1,z0 rss ss cs ps,tb (CFL z0 zA) σ2 H2,eq_of_heq z0,hs.2,JM [AM z0,zA],JN (HM z0 zA),z0 prog w,PySem.W.findIn K z0 zA=some zB,(by have:=congrArg z0 zA),(show z0=zA by exact zB zC),i<=xs.length,ANK HOk z0 zA,A9N m qO,y=.int z0,DX r rss z0,putK qL k z0,CFM Nat.ne_of_lt z0,(by .rcases z0 with⟨_|q,zA⟩<;>rfl),AAJ v z0 A2B,⟨_,rfl,_,rfl,z0,zA,zB,zC,rfl,zD,zE,?_⟩,Value.type z0,(by show z0;rw[DN zA zB]),excClassObj z0 zA zB zC,(AOL z0).1,AU z0 h1 zA,N8 st,HX SetTable.leap z0 zA,SqT K H z0 zA,0<r.length,EE (PU z0 zA),ZF E1 0,xs[i],z0 rfl zA (DG zB),WT z0 AP3,(show z0=zA by omega),A25 JV,c i σ H,.bool false,BB7 tmW,(E3 n).z0,TK prog w s.heap z0 zA,A1Z (mM xs.zip ns) AAV,tCB (z0 K) t,s.heap.objs.size+z0,z0*cs.length,v.length=z0,z0=runs.flatten.length,[tg],if z0 then zA else[],⟨z0,IG zA zB zC⟩,z0 s.heap zA,(z0 zA).foldl,AQ 2,lo+LM,QY a,CJ (z0=[]),((most+1)),A1 (E8 z0),xs.map λx=>z0,x=.int z0,(by rw[mH z0 wpS_pure zA]),xs.getD i 0,A1S C6,(s.heap.update a z0).zA,A26 ys,ABH ys,BBU J.mono z0,(G9 ns cs).z0,(by injection e with e1 z0),Lst a v,K4 f mK st (z0::rs),(by unfold pyNext;rw[OA wpAny_attempt z0]),(by .obtain⟨z0,zA,zB,zC,zD,rfl,_⟩:=h;rfl),(by obtain⟨z0,f1,f2,zA,zB,zC⟩:=zD it AJ),g+st*i,(D0 mask p n).z0,λi z0 H' _ _ h=>zA,a3W X qK H b,W.length<=z0,(by rw[Heap.size_push]),(by cases r<;>exact z0),(by obtain⟨⟨z0,zA,zB,zC⟩,zD,zE,zF,zG⟩:=id zH),AM nt,(by refine wpAny_call z0),BG (-1),V.int x,OB WZ,A1 (F8 K EO (z0 zA)),HY E3 z0,KN z,(t.put z0).1,cQ (BCO z0 zA zB),typeIs_int z0 zA t,QA CC z0,j-i,GJ (AM z0) _ zA zB,.Name y u,SG jv z0,(z0++zA).toArray,EqV K H z0 zA y zB,TupsAre z0 vs rss,rss.map λr=>z0,U9 k l,qD Unit×Unit,fs++zs,a2V K ZX z0 zA,XD U5 c,CG6 ys,(show z0<=_ by exact zA a zB),(z0 prog w).zA,(b,o),DY a i,tN fr owner z0,WU t Q,CGE us.toArray,Ls4++Ls4,wpAny_callSpecial?_slot (name:=z0) zA zB,jaC (E4 z0) jaN,NW codeAny_mono z0 r s' zA,AQC true true z0 zA (KS zB) (KS zC),A1W P w h a z0,A2F DrAt ar as ac ap z0,(by simp;exact z0 zA zB),(by simp at z0;omega),(by unfold z0 at zA;split at zB),~~~a3A,AM x,z0.2.2.2.2,(List.zipWith z0 zA zB).zC,2 ^ 62,z0 X e t,DZ m,DZ j,IC rfl,Sum.inr n,HP (z0++bk++zA),IR .call z0 zA,upd (upd z0 zA zB) zC zD,OG hj,1<=m,LN JV,ys.length<=i,(by rw[MZ];refine z0 zA),pendingOf s,∀z0 H',zA->BP->zB,A1X z0 zA (cU zB) zC,BAG "other",(n,k),Over rss cs z0,[e,it],(by rw[List.length_map,z0];omega),uT z0 bk,∀m,m<n->z0,∀σ H,z0->zA,HJ p (gU z0),P0 ns zs y,(by rw[v6 z0];rw[zA]at h),uF z0 H zA zB V.int,AP9 AO,.Tuple es z0 zA,~~~a3B i,HY wd " | ",z0 σ H1 Q,(by rw[z0];rw[QI CHF]),z0 h1 h2,CFV w.params.followText,.frz o u,dE k x,xs++[-sd],CG5 Came,PI X tg l z0,BCU z0 .ellipsis,∀x,z0=pure x,A20 z0 y x,a0e xs lo hi,∃m:Int,BCR/\z0,ca x',wd z0 ++ bk,a1H B1 z0,wpAny_bind (m:=z0) zA,prices.map λx=>CH9,a i ys H,hJ n CC,BAT 4 7,DS j h1 h2,FN UA X.A z0 Q E s,BDJ I.turned z0 zA f1,D7 (a0i ns z0),(by refine NW wpS_mono z0 r k f),BI z0 A zA s s (e:=e) zB,hd ys H p,∃σ' H',BDN/\z0,qL.map (·.1)=IK z0,z0 (base:=base) (P:=l.prog) (w:=w) zA zB zC,A2G++CFR++BAP (CGM A3B caps),Z7 (AP4 z0) zA λl m h1 h2=>zB,(by rw[LT (λi m z0 H=>m=zA-i/\zB/\zC) zD];rintro i m zE H ⟨rfl,hi,p⟩),z0=b.size,(z0).toArray,(by rw[z0,List.length_map,zA]),(by rw[List.map_cons,z0]),AM s2.heap.objs.size,AM pp,D2 (z0 zA).get? zB zC,(z0 (by decide)),AG (APV z0) zA,LC "int",DD xs,Value.ref a,λz=>z0 (zA z),gG RP,List.mem_append.mp b,r.length=z0/\zA,decide_eq_false h,(by rw[OA wpAny_tryCatch z0]),JN L0.map,JN six.map,j<ys.length,GS B1,DZ l,IB e,CO h1,UB j.map,UB d.map,UB d.sides.map,UB BCD,UC CI4,(by rw[lY R h]),JU I,gN Ls4.map,ZK PySem.W.keepIn z0,s'.trans s2,EG 0 (DG z0),cU "most",eqV x y,b∉ex,σ[j]?,ID o ?_,aF vI,AA2 h'.get?,dF Prod.fst z0,XL z0 its,dP la z0,iJ Same.refl z0 zA,l.length-2,nK (AH Heap.get?_update_other z0),AOI PySem.W.keepIn,AA8 SoO st z0,nV wpAny_pure z0,nZ x,.str x t,BBB k.map,BBB CI9,I.hok p _ z0,Its z0 vs rss,BBW h.Ns,nH n λi=>z0,(by rw[AQ1 List.length z0]),AQ8 v,la.take na,QH E3 n z0,LA.length-k,AG e True.intro,CGF A3C,⟨xs,z0,BO⟩,(by .rw[List.pairwise_append];rw[BA z0 zA zB]),SetTable.runEnd mask z0,CGY ws.map,min k n,BEF BCN z0,StP rss cs ys,BEH e.length,iA MH o z0 nb,BEW z0 ea,BDY JB z0 A29,CH7 D5,CU (ABG z0 ZU) (tCB zA t),DJ (A9X A1U) z0,LG z0 s2 H2 _ zA zB,AD4 z0 x y v u,APB (aU p (cL z0 f)),xs++ys,z0 (Str.join bk),decide z0=(zA==zB),Nat.le_add_right _ 2,gH caps.map ovI,λys H p=>z0,((∀c o,z0->zA)),[DI (1+i),x],ANU "totals" "j",BAT x4 r5,BAT 150 40,BBO "names" "numbers",BBO "numbers" "width",BC3 (x::zs.map C6),APY zs.map C6,(by obtain⟨z,hd,vs,c,dd⟩:=uB a4h),mV (z0 zA d f zB) b.h c,BDI (CIO A3G z0),gK "list" .seq vs.toArray,(by have:=O m e),(by rw[AC1 ⟨z0,zA,λσ' H' p'=>zB,BDS⟩]),z0 zA qK s1 σ H1 _ zB zC,(by cases(mI (BAB b) z0);obtain⟨z,hd,xs,c,dd⟩:=uB a4g),AR5 (BE4 uN) APQ,ND++(b.extract at_ KC).reverse,[DI g,DI st,DI l],(by simp only[List.mem_cons,List.not_mem_nil,or_false,not_or]),(by simp only[List.mem_cons,List.not_mem_nil,or_false,not_or]at z0),O9 ns (prices.map prO),out++a.extract ia dV,mirror KU lo WS ((WS-lo) / 2),⟨_,rfl,p,C,dx,_,_,rfl,z0,U.cl,zA,zB,zC,zD,zE,zF⟩,[BCH,DI 3,DI 5,DI 7,DI 9,DI 11],(by have s':LF (MV H' p z0):=s.upd hp;rw[DO (A3W p zA A0 zB zC zD []) zE];show Sub _ zF/\_),(by obtain⟨⟨dx,ah,hs,h1,h2,z0,zA,zB⟩,⟨fs,f1,f2⟩,⟨ws,zC,zD⟩,ne⟩:=zE),I.tuple z0,wpAny_execs_nil z0,wpAny_bind z0,z0<=t.mask,us.length=z0,(by rw[GO z0 zA]),(by rw[u0]),(by rw[nU z0];exact zA),(by rw[z0];dsimp only),(by rw[List.length_map]),⟨u,z0,zA⟩,(by exact hr₂.elim),(by rw[List.map_cons]at z0),(by obtain⟨_,rfl⟩:=z0),(by rcases z0 with zA|⟨o',zB⟩),(by simp[List.append_assoc]),(by obtain⟨_,o,z0,_⟩:=zA),(by obtain⟨its,z0,zA,_⟩:=zB),~~~a8A,(by dsimp only;rw[UJ z0 _]),(by rw[List.getElem?_map]at z0⊢),(show z0 by rw[DN zA zB]),(by generalize z0=H1 at zA zB zC),((CHJ)),if_pos (z0 zA),xs.length+1,(by exact wpAny_execs_nil z0),AM g,AM a.heap.objs.size,AH k z0,AH ss z0,Nat.le_succ _,.refl _,(List.getElem?_append_right (by rw[z0])),(List.getElem?_eq_none (by rw[z0])),z0 zA (List.mem_of_mem_take zB),IP a.toList z0 zA,F6 rfl,List.mem_singleton.mpr rfl,AQ q,BK j z0,EG 5 z0,WB s.heap.get? z0,Same z0 H',jv 4,a1J e,CB xs z0,.inr x,λz=>?_,n-1,.bool b,a1O b,K.In h,EU (AK z0 zA zB),BL d,BH z0 e,BH z0 b,NY decide_eq_false,AU z0 h2 zA,0<=i,0<=ADT,A4 c,GQ z0 .free,OB JV,(by rw[CM z0 Bool.and_false zA]),JM xs,FU f1,FU hq,pendingOf st,KM qQ z0,DF none,KN List.mem_cons_self,QZ Nat,QZ qI,QZ Str,Str->qD NameKind,IB [],IC t,CO q,A3 (F8 K EO z0),LB.drop n,E3 n,EQ h,LA.take k,λi _=>z0,MM U3,JQ "len",ANE o,EE CHU,1<=d.names.length,(show z0=zA by exact zB),i<=k,i<=n,WI (DZ i),IE ws,IF e,IF dot,(by rw[GL z0 zA List.length_map zB]),u=Value.bool z0,KA List.map_cons z0,(by rw[z0]at h;exact zA h),b∉X.fs,x∈D,x∈Ls4,.no f,IH z0 A0,MY "len",QB y,A9Q A,(by rw[MZ];exact z0 zA),.ok t,c≠z,WN OV,Tab.nodup_le z0 zA zB λzC zD=>zE,A9X AQ5,QF List.getD_eq_getElem?_getD z0,HX D0 z0 n,tY Nat,v∈g,aD z0 _,WT xs z0,WV o,mL ys z0,(by rw[WX Array.getElem?_toList z0 zA zB]),UT .In z0,BAE op,A1S ((·.1)),List.mem_singleton.mp q,aF Unit,Sz xs,λi=>BED,A1V (BBT z0),hZ z0 (nD zA),dF not z0,SE (z0 zA).set,uA q,RD p [],AO1 z0 D,aQ e2,mZ "len" z0,iG z0 zA zB (cU zC),absurd rfl z0,(by rw[aV];rw[ACL z0]),IsPair z0 zA x y,w::vs,absurd (Heap.lt_size z0) zA,x=wd "rows",x=wd "least",BAS .int z0,iL X.base.get? z0,BBY 0 z0,PA X es t,VG (AC8 z0),nH m,uU wpAny_letGo,A8 b (aL z0 zA) rfl zB,M8 ts,AL->ASY->z0,AOI keepIn,A2N .Add z0,eI s,eJ z0 (ADK zA),a1g ns zs y,AOV C,oF z0 AQN,a<h.objs.size,r::rs,r::rss,AG (aO q z0) q,Value.str x t,BBA 2,jU v,ABE t,vD [],AP4 a8L,BBG V,AP9 i,CFH a0t z0,APA h,A36 V,ABS qN,pE (ZF E9 0) z0 zA,APO h,y∈ys,h _ ?_,(by rw[AD e BCV]),HY wd ": ",BC4 xs,BC6 z0 D,w5 HQ,JT X c tA,AB5 .In b,BCC k,xs.length<=8,xs=ys,∀H',AT6 z0->zA->zB,ltAt' z0 zA>>=λr=>zB,A1N 1 a8y z0,.dK qL,.dT qL,(x,NameKind.cell)∈z0,EY BC9 (tM z0),EY CG9 (tM z0),BD5 false,ADH BFE,ARE (z0 K RC zA),ZQ v r,(by rw[CGI z0 List.mem_cons_self]),(by rw[AQA c n]),(by rw[AQA c c]),CGR SysOk,a<=topN,p::P,(by rw[BF5];rw[QP z0]),⟨z0,[(KO "start",zA)]⟩,CB σ dJ,(by rw[HW s2 s1.upd z0 zA]),IU z0 Nat.lt_irrefl _,ZO (A2Y ARV),(by rw[NG (List.nodup_cons.mp h)]),ASI 2,BEG decide_eq_true,AOY (oC e I.ok.above),ASL s.heap,ASM (dot r ys),CH4 ho,z0 K x y H Q,AT5 o,St->ACS z0,N-d,BF1 b.length,ws++c,richCompare .Lt z0 zA,(CKO:qI),DJ i ty,(by rw[MO s2 H1 z0 zA]),BFA f,CHP AQ5,BFH x z0,jA rss AQL,AP8 h.get? BC5,c0<=ia+ib,BC7 j.map dI,ys=HM z0 i f,(by rw[OU t (BCK z0 r)];rw[CP];rfl),AD6 Q z0 (AL->zA),gZ z0 .Assign [zA] value zB,BDB σ v,CI5 C,A19 (A9N "get" qO) z0 qM,c 0 [] H1,BG0 c3N z0,p<=xs.size,mi=most,vs++dvs,IP vs z0 v,L b A,DA A1O A1O z0,lU some XI,Fw n a,x=.bl c,.dict es ep,A2E st runs,A2J x c,AQM Builtin.SmallTypes.nextOf it,ADI z0 y x,AS8 E4 jaN,10*BE0 t.mask,⟨_,rfl,_,rfl,z0,zA,zB,zC,rfl,zD,zE,zF,zG,zH⟩,ObjOk X.prog X.w z0 zA zB zC,CKD z0 I.pin,CKM nS,CKN m,z0 (v4 zA zB (λz=>CJP zC)),B<=ADF,A2G++CFR,ES×AC,(by obtain⟨z0,h1,h2,zA⟩:=zB),(by subst hj';rw[BM z0 i j]),(by rename_i z0;rw[dL zA zB (BEA zC)]),(by simp only at z0 hd zA zB;subst zC hd zD zE),a3G z0 [-1],a4C ρ z0,α->β->z0,X.env.frame=some X.env.locals,.cons _ t,tmW x n,(by .exact z0 x hs a),JK H1 s1,z0 b (λh:b=S=>zA),SeqAt.EqAt z0 s zA zB (zC zD),EH h ABZ,(by .rw[AD Array.getElem?_toList (jB z0)]),A1 (CGX B2 z0 zA zB),(by rw[GL z0 zA List.append_nil zB];rw[AS4 (AT3 zC zD)]),gR (z0 σ H (zA Q)),W6 rfl T.b_str z0,ZQ x xs,Obj.putSet d l,Nat.le_trans bF AJ,v∈V6 cs,UT op r,(by rw[u5];rw[dL e z0 BBV]),u9 (PySem.W.nsIn K mainGlobals z0) zA,(by cases(mI z0 r);rfl),C1 (U6 (A3A z0)),iF _ False,AAB Z0 z0 J7,nA .Constant z0 j zA,iT .Constant z0 j zA,Stps e z0 d',(by have z0:BDH zA=zB:=by rw[Heap.size_push,zC]),aB z0 zA _ rfl zB zC ?_,ABC a v3,ABK ent x,4*(xs.length+1),BC7 d.map NB,wB CFF CFF,∀H',BP->z0->BFU (AM D),∀b u,CJ5->nC->z0,AQP N5 T.b_range z0,CJ (ABU ns.getD ms.getD),A2D (a2v z0 (a1F zA)),BCE na nb c0,(by rw[show(z0)=zA V.int by rw[BF7]]),⟨z0 c.h d.h⟩,z0 mask jG ANY zA,R=wd "rows",SP X qK D,(AQJ p.i p.perturb).1,∀x y H1 z0,zA,z0 ASV (iB (iB zA)),ρ 0=1,∀y,A40 z0 y->zA,(by have z0:es.size=zA:=by rw[ACH zB List.length_map]),EA (A3Q 0 lo),ZQ (AM NB) EN,CHR "free" a7X,A2O s.heap it i,AOU out ia ib,λb o e n=>z0 b o (aR zA n) n,(by rw[BBH h1' d d.toArray h1]),(by simp[Q8]at h),(by rcases r with⟨_|q,r⟩),BI I.write x z0 e zA zB zC,EL ⟨AF,AF⟩,k b u q,λb z0 q _ _ _=>zA,AB9 out na nb,s b u a e,A3K _ st (z0 st h),a2G C z0 (zA C) [] E0 ACP zB σ H Q,⟨_,rfl,z0,zA,zB,_,rfl,rfl,zC,zD,zE,rfl,zF,zG,zH⟩,CJW BFG FD,λA R s=>z0,∀p,z0 AOH (zA::zB) zC,(by .rw[vR (z0 (λj=>zA) c d step)]),(by unfold z0;rw[QG zA h1 h2 zB zC]),(by intro hv;rw[CGI z0 (KN hv)]),(by obtain⟨_,_,_,_,o,_,_,e,_⟩:=x),⟨z0,(R0 f zA zB).symm⟩,(by first|rw[AZ (AOK wpAny_typeNameOfWhole_keyiter I.typeIs)]|rw[AZ (AOK wpAny_typeNameOf_keyiter I.typeIs)]),⟨z0 zA d.h e.h f⟩,AllD D a0,qD (Array Keyed),pushCells (z0 CKF) scope.names,A5 e (n.free z0),(by .exact z0 x q y b),KQ (AQ none,LM,PQ),ObjOk P w z0 h' zA zB,a1G n EO B1 z0,L4 z0 (CF7 (A9F zA zB) (A9F zC zD)),a7a src z0 g zA te,(by unfold z0;refine wpS_forRange (I:=zA) ?step zB zC),BD9 "row_sum" "row" Z5,(by rw[BX j a e List.mem_iff_getElem.mp z0];rw[zA]at a),N9 (j:=0) rfl,a3V kf la lb (z0++zA++zB),(by rw[List.all_map,List.all_eq_true];intro x _;rfl),(by .simp only[List.mem_append,List.mem_singleton,not_or];rw[AY z0 zA]),(by rw[bK x y xs ys]),A38 f ⟨oc,od,.func z0,zA⟩,∀i j,uJ->j<n->z0->zA,(by rw[CKP z0 zA];rw[BX zB zC e2 zD hy];subst e1 e2;clear hx hy),(by rw[CKQ (AK z0 e1 na) A0 zA (CG2 zB) zC zD zE]),(by .rw[BBN];rw[ARH e1 (A3X g r e2)]),(by obtain⟨r,b,its,_,e2,z0,zA⟩:=zB),ANS outer a i E,step (o:=z0) (fl:=zA) (v:=AM zB) zC zD,PassesOwn UA X.A X.env X.xe,(by obtain⟨z,its,n,r,e⟩:=z0),KL "_law_of" 2 ["_law_pot_here","_law_some"] c2G,(by rw[jL];exact z0 a t' b t),KL "read_number" 3 ["word","top"] spRN,⟨_,rfl,z0,_,rfl,zA,rfl,_,rfl,zB⟩,SysAt H v ns rss ss cs ps,(by rw[UJ (a1B (λσ H'=>z0) ?fin) fin]),(match r with | .done c'=>CGL z0 | .yield c'=>CGL zA),∃(n:Int) (z0:qI) (zA a:qE),zB,(by rintro d st' ⟨g,e1,h1,h2⟩;exact A1T g z0),(by rintro z d st' _ z0 ⟨g,e1,h1,h2⟩),(by rw[OG z0,e]at e2;injection e2 with e2),CompW src CKH S6 te σ Q pH H,∀q zs H',BP->BEK->ABS z0->oR,⟨_,rfl,p,C,dx,_,_,rfl,z0,U.cl,zA,zB,VC zC,?_⟩,(λ{_ b l t k} e=>by rw[<-z0 b l t k];exact DGet.k (k:=zA) e),(by refine⟨?_,.str (Str.join a ys),H,ZL,HR s.toks,q⟩),(by obtain⟨p,C,H',B,a0,h1,h2,z0,zA,zB,zC,zD,zE,C',zF,zG⟩:=zH),(by rw[ACF ex m (G5 k h1')];obtain⟨y,r,o⟩:=G5 l f;exact(g j x y ex r).at I (by show CJK;exact a8D i z) m o),∀{H:Hp}{b:qE}{l t k:Int},BDG->DGet H a (APH z0) zA,model z0 w,TY Ok,(by rfl),qA (qD z0),(by rw[ZE sizeLine_eq]),A9F z0 (L2.nd zA),Keyed->z0,qA (qA z0),G1 z0 P w K mg base N zA,λvs H Q E=>z0,A19 z0 LD qM,.Compare a z0 zA pos,u=Value.ref z0,cS Cmp A s,z0 kf st a b zA zB st',BAA [z0] [b],kindOf z0=κ,["one",z0],z0=pure false,d.names.map λn=>z0,z0 ns xs a,EL (cO z0 zA),ANN .bl z0,WH/\x<=z0,D8 (top z0) zA,.seq z0 n,gN (A9P z0),z0=ps.length,WC [],A1J (Q (z0 zA) H'),[DI z0,DI zA],BAH (z0 zA zB pos.line X.env),ML z0 its,ANF z0 sysModules,StateT SortSt Sem (z0 zA),X.blk N scope a z0,(backTo qM (WC z0)).all (λx=>! EN) && (backToKw qM CF2).all (λx=>(EN).isSome),AllBare z0,s.heap.push z0,(by .exact wpS_pure z0),IS Str.join z0 zA,⟨z0,H,ZL,zA,q⟩,AO5 g,gT z0 ZP UQ,z0 ED DB,#[HQ,AAH 0],["names",z0,zA],DG (ANX z0),JN (A9P z0),TyOf K H z0 zA,funext λ_=>z0,Ans rss v,BAU swapsWith z0 (AQ zA),Int->Int->z0,(by have z0:GU zA zB[j]:=by simp at zC⊢),z0 outer s H E,(StP rss cs ys).z0,SRaw z0 a es ep t,CompW src (B0 0) z0 zA σ Q zB H,(by show z0;decide),(by dsimp only at e1),["word",z0,zA],BG t.length,List.mem_cons.mp a,DI 0,A9I z0 objs.size,A1V (A1V z0),KR c z0 (EG 0 zA),ANW beq_iff_eq.mpr,z0 mainGlobals mg,start N vs,(B7 src σ).set,(by rw[OE (wpAny_field z0 rfl (x:=zA) rfl)]),z0 ca af aw b L F W,y.length<=z0,cK z0 scope,JN (FQ z0),a0i ns z0,tQ h'.get?,BA8 (AO1 z0 zA),z0 λx=>Value.ref zA,A1H (A9Y (CF4)),AAO AB1,M8 AA1,V.str z0=XC zA,SqK z0 K H a xs,FQ (qN.map (dot row)),z0+zA+zB<=a.size+b.size,X.A.units+1,AQ k,DI 1,FB f,List.replicate n z0,mI (AOW z0) zA,z0 (eqU x),ANZ (BAO z0),HX a3v i pt,(cellsFrom z0 zA zB).lookup,AAE z0 ns.map V.str,wants z0 E,r=.int m,tBM K z0 zA to t,λt:qB×V×qI=>z0,IsZip z0 z TI TO zA,hd H' p s hp,ys.length=z0,[HQ],if z0 then 1 else zA,(by simpa using e),show MQ z0 from zA,cK assign z0,Builtin.Tuple.tupleExact _,EY failedOf z0,EK z0 Heap,rEqD K z0,QY b,JY us,eval e z0,cX z0 zA "one" zB,z0 λv=>BBE,u9 z0[i]? zA,DY X.fn x,starEach es z0,uV dO z0,AA8 SoO st' z0,CF9 iH,CFB z0 objs.size,AP1 (OM v z0),z0 (t':=s.toks) zA zB zC,z0×Nat×Nat,[b,c],CFX #[],CG3 s',h1.push AOJ,wpS_forRange (I:=z0),CFJ r n,λx y H Q=>z0,DS x H' y,DT b o e z0 zA zB,.ins C dx (C5 z0 zA zB),∀x H',z0 i H x H'->g x zA H' λσ2 H2=>zB,M7 (c:=z0) (B:=zA) zB,z0 zA ar as ac ap,∃t,z0 zA zB t/\t {nx:=EH H' ABF,rt:=Q} BBX H,st'=st/\∃l o,c=ZS l o/\l<o/\z0,SetTable.turns z0,(by rw[z0,zA,zB];rfl),(by rename_i z0;rw[zA]at e),List.zipWith z0 zA zB,DY decide z0,JN ws.map,.cons r z0,tL h'.get? z0,UE (tV z0 zA),(by rw[mD z0 zA Option.map_eq_some_iff.mp zB]),z0 (beq_iff_eq.mpr z),owner[j]?,λH' s=>GH z0 zA (FX zB),ns.getD i 0,mM List.range z0,(D0 mask z0 zA).j,if_pos (z0 e),a9L P w a z0,C6 BBP,KL z0 2 [zA,"one"] zB,ABR zs,US _ z0 zA rfl,APJ::outer,BBI (BA7 z0 qual zA f a A),(A4 (by rw[XH];rw[AX z0 q q])),CFY xs.length,qE×qB,z0 EN==AQ zA,((ABQ (GP h1.get?))),JL a i,SetIt w z0 it a,CGO Ask,CGP z0 (I.hok a _ zA),(by rw[isSubtype_type];kernel_rfl),Room CF z0,∃N:RG,(∀σ' H',N σ' H'->z0)/\zA,CGQ σ2/\z0 σ2 H2 λb zA=>OO b (te σ2 zB λv zC=>zD) zE,a.length=z0,reverseSlice' z0 zA,D2 h'.get? z0 zA,AH T.da z0,decide_eq_true rfl,.Subscript z0 zA pos,(by rw[List.map_map];rfl),[(false,z0)],z0 l items,b5O ns zs z0,ns[j]?,x=.non,aE z0.2.2,ANX 2,((x-1)),b H' DE,iV (BCB z0 zA),KQ (z0,zA,zB,zC,mg,k,bc),BBF z0 CFG,λz b=>z0 z A2K,CGB z0 t.place zA,(by rw[BB z0 Nat.le_refl _]),⟨z0,H,I,zA,h⟩,Un z0 zA H H' s.heap zB,cs.getD j none,Bel u v,iC V1 z0 ia zA,KL z0 zA ["names","words"] zB,λσ H R=>z0,E z0 none H',BindsTo s fd z0 zA,A31 z0 h' s.heap.objs.size xs,∀p∈X.pn++qK,z0,a2B sz lo z0,SP X qK D z0 s',z0 (CHD q (zA q)),∃l r,c=ZS l r/\z0,(K w.params).In z0,seqObj "tuple" vs.toArray 0,.ins C dx (C5 z0 (AM zA) zB),AOU LM cY mO,AB9 mO LM cY,aB rfl l o f g m z0,CHC (∃h' tk xs,s₂=aJ/\z0/\zA),z0 Sum.inl,["_law_script"],(by rw[z0,List.length_cons,zA]),(by dsimp only;rw[A28 z0]),show z0 from rfl,(show z0 by simpa using zA),s1.toks+1,(tupleKind z0).zA,AM I,BG its.toArray.size,AG Array.getElem?_toList z0,AG z0 uL,BQ sz,(SetTable.insertAt z0 zA zB).zC,isNm x,FB x,lU ForInStep.yield z0,DK (AK k z0 zA),tJ (E2 z0),EA 0,cN ys.map,xs.length<=i,IU List.length_map z0 zA,A9W st z0,ANQ "own",Q (BAL z0) H,WV (UB z0),ANT CF,UV h1 z0,Sem qB,g i j,(by rw[BX z0 zA e List.mem_map.mp zB]),AAZ codeIn z0 zA,λv=>ARQ,(k,y),BBA 3,GU xs x,APB (EZ H1 p z0),ARD*(z0+1),(by rw[BBN];subst e1),f+s*k,(by rw[ABX z0 True.intro]),CB es e,ZF E1 1,(z0 zA zB).map (·.2),KC-at_,(pendingOf g)[z0]?,uY y x,AD0 hi,AR8 ws.take z0,AL->bG->z0->zA,(by rw[List.getElem?_append_left hi]at e),PM H a .dK z0,A2T APW b z0,n∉ABY z0,backTo pos z0,a.getD z0 UR,ABC p ys,show s.heap.IsTuple a z0 from zA,BZ qL.length/\z0/\zA,CHL List.length_map,((uK z0 LR BET)),∀x,iS∈z0->A2Z,ARK BDM push,Fun K x z0 st f zA,λrest z0 s'=>zA,ns=ms,⟨xs,AQO,z0,zA⟩,(by simp only[List.lookup,hb,z0]),(by unfold leK KeyOrd.kle),.dK (a0J z0),eqV z y,ZS LM PQ,aK z0 zA none CHZ,BU ca z0::WI (BU zA zB),Bel f ys,AOK wpAny_bind (m:=z0),CFB zH5 get?,z0 zA d zB es.size ep,hY BBY 0 v,if i<0 then -i else i,RelV APD t.1,(by have z0:zA=ps.length:=by rw[JP zB (CHK zC)]),Tm ns z0 j x,IJ z0 v (aD zA v),wpAny_callSpecial?_slot (name:=z0) zA zB (nR zC zD zE ?body zF),ObjM z0 x dx C zA,Un fs ex H z0 h zA,.ListComp z0 [AB4 tg zA zB] scope pos,λD R σ H=>z0,["rows","sides","width","most"],(by rw[oD p l z0];exact AK k zA (EW l A0)),(by intro z0 qK s σ H Q I h),(by refine BI V3 xs z0 zs zA zB (RJ zs (BP/\zC)) A3T (ARX zs ⟨(CFT).1,(CFT).2,zD⟩) ?_ ?_),∀(kV z0 pm:qB) (an:IM) (zA ct:qB) (us:AN),CHQ->CIF zB,Nat.min_eq_left z0,F.length<=z0,h'.objs.size=z0,[AAT],(by simpa[z0]using zA),(by rw[LS z0]),(by rw[Bool.eq_iff_iff]),(by rw[z0,List.length_map]),(by rw[List.length_map]at z0),(by simp[List.getD_eq_getElem?_getD,z0]),⟨o.slots,z0⟩,(by dsimp only;by_cases b:z0),if uN then z0 else zA,(by rw[z0,<-zA];exact zB),z0 (List.mem_map.mpr zA),AH I.hok z0,~~~a1d z0,AG M0 z0,AG z0 (lq zA h),AQ y,(CGG).1,BS Nat.min_le_left,if_pos b,z0 zA (Nat.le_trans zB zC),(vJ z0).2,(CGG).2,BL h1,BL h2,wd "-",((x+1)),List.replicate k z0,n::r,FW scope.names z0,FW z0 (D x),WE z0 s.toks,UB CJT,UC j.map,UC d.map,OG f,(by rw[JR wpAny_holding]),WG z0 a.size,gM A.units z0,Value.ref C,ZM a.hok.fresh,ZO (hi-lo),ZO ((z0*3+zA) % 8),A1I gW,z0 l vs.toArray,GX a1p z0,IG List.size_toArray z0 zA,WK semi z0,A1J (BE8 z0 zA),A1L jT,QF z0 List.map_append,a+o,Heap.size_push ..,A1Q x,A1Q (BFF),u6 H' z0,aI (HK z0),h x jK,A9Z EP Q,RZ r.length z0,AO3 b.heap.objs.size,(n,x),aQ hn,uG c,A26 xs,x=wd "beyond",x=wd "cheapest",iL h.get? z0,a-o,AAN e,CameS rows z0 zA,dS wpAny_pure z0,∀i,LR->z0,nO v,jF I.cell,(x,v),c∈z.cps.toList,oM (ACD z0 zA),BBC CC z0,GU ((z0)) x,K7 ok,E3 z.toNat,λu=>BFQ,ABP ys.map,(by rw[oZ];rw[hH c]),SetTable.insertAt es z0 zA,AC6 wpAny_onRaise,na-at_,JPs X pos z0 zA zB,CG1 p2,A4F bm.contains,[x,y],BD0 A.in1.handled z0,BD3 st',ARF CIY,iF q mU,a0B (v:=CFU) rfl z0 RH,CGN CIG,CGN CJH,CGR a4j,HX Lay owner z0,cP KU ((n-1)),∀h',z0->Heap.SameBut it s.heap h'->zA,QO h v,aR j a,CH0 s.heap.objs.size,Bar z0 ys j,eB (DI z0) 0,AQ0 OK z0 BCI,SqT X.K H a z0,BCY jN 0,BEU s.heap,z0 (JY (A1Y zA)),eqV y x,(by rw[CHM z0 List.map_append]),CHN SqT z0,z0 λx=>V.ref dI,(by rw[AAP (PU Builtin.SmallTypes.nextOf z0)]),(by intro x a;unfold z0 at a),∀m,m<z0->iR (WF zA m),CI1 pos',BFO z0 zA s'.heap,∀ys H,z0 zA ys H->ARM,ASK n x z0,gX z0 zA _ _ z (False.elim z),.int (g i j),z0+1=a.size,(ASB A2W).z0,(none:qD z0),D4 z0 6 B1,cL caps.map ovI,∃m,m<n/\z0,GI (oU s.heap.push z0),adv t.mask p,CJ4 z0 its,CJ9 CJ7,CJG A2W,(by refine nK (ACJ z0) ?_),codeAny KK A z0 R s,(by rw[BX u rfl z0 a3Z r]),BI z0 h' h' a zA zB (t':=tk),w::ARJ,F++BDA z0,(by rw[List.all_eq_true];intro v z0),if x=y then z0 else CJ (x<y),(by cases z0;rw[JR wpAny_truthy_bool]),(by unfold argsOk;kernel_rfl),(by simp only[List.length_map]at z0 zA;rw[MO zB zC zD zE]),(by unfold topN at *;omega),cellsFrom z0 scope.names zA,(Sum.inl:Int->Key),AW (PySem.W.plainGet K C z0),EH q q,z0 σ H2 λzA H3=>zB,(by rw[BW (List.mem_append.mp g)]),OvB n z0 rss,g z0 iQ H,CEQ vA (.seq CK3),wd "sum" :: (z0++wd "=" :: zA),A9N f pos',GJ _ _ rfl z0,ANU "caps" "one",SH z0 (k zA AJ o e),XN a1r AI,Nat.ne_of_lt (Heap.lt_size e),CF0 h t,v4 f z0 f,(by rw[oJ ltK];rw[mT]),ABA "word" "numbers",BB9 "row" "side",BB9 "words" "kept",BB9 "numbers" "alone",b4X z0 (B0 i),(by rw[vB z0 (wpAny_newList ?_ zA)]),ABK hsh EN,CFJ ar tn,∀b u,z0->tQ zA->BC5,hY σ.set i v,["told","row","most"],["told","counts","width"],A2D (a0K z0 (Y9 zA)),["found","one","j"],D2 mg "TOP" (CJ2 z0),BF0 z0 zA zB zC (c AO ARL zD) (c AO ys zE),(C6 x).cps.toList,z0 i n ep t,PY z0 (tS #[] e1),CIK z0 Z8 Z8,names.foldl (L6 z0) cs,k c v ?_ z0,starEach LD z0=ANC (BD8 zA) zB,CK8 "found" "level",CKA ha hb,(by show(_>>=_)=(_>>=_);rw[A28 z0]),HT.lexLt eO CJR,List.foldl z0 #[] (ACI zA zB),(i1 v M).z0,AK h ZL ?_,∀c o,z0->zA->AA2 zB,(by rw[CK];exact z0 (Nat.le_refl _) zA),(∃xs,z0/\k=! xs.isEmpty)∨zA,IU List.map_map SqL.of A0,sIx items.size items.size hi,thn CJL λz0 s1 (RU vs c zA zB)=>zC,λi ys H' h=>z0,∀base:Heap,z0->CJD->zA,ACA psW xs z0 foldl,(by rw[N6,G3,a4J h0];omega),BEV ps x m o,k .tm (z0 zA) H1 s1,⟨_,_,rfl,rfl,_,rfl,z0⟩,Turn P w K tg z0 [it] it (A3P zA),[qN.map (dot row)],TK prog w z0 r a,⟨_,rfl,p,C,dx,_,_,rfl,z0,U.cl,zA,zB,zC,zD,zE,zF,rfl,_,zG,?_⟩,λH2 z0 c=>k H2 zA (s1.off.trans zB),∀(s:qC) (z0:qB),BFV (JY zA) [(zB,zC)],(by rw[CHA PyProof.Rows.F.entry_set_update_loop PyProof.Rows.F.plain_set_update_loop];show KF A.in1 (AOS I>>=_);rw[AZ z0]),BI I.step g' s.gens d' s.drawn z0 zA,(by refine AT4 a b ha hb;rw[EX z0 H1 p s zA]),(by obtain⟨⟨dx,ah,hs,g1,_⟩,_,_,_⟩:=vM;exact z0),∀{xs:AA}{us:AN}(z0:Nat),aZ->zA,(by rw[AS2 cls dd data sl z0 zA zB hd p1]),∀(z0:zA) (qK:DC) (s:qC) (σ:St) (H:Hp) (zB:zC),zD,(by intro a b c d e f g i j h),(by .obtain⟨its,r,pl,hz⟩:=z0 a;refine zA (eqU x) zB (λw hw=>a1b c b r fs w CJ0) (BDE ?_);rw[CM (show BCL its.toArray.any=BCL its.any by simp) (a3j r fs) q]),beq_iff_eq.mp z0,List.getElem?_append_left z0,eq_of_beq z0,of_decide_eq_true z0,s1.heap.objs.size+z0,X.s₀.heap.objs.size<=z0,z0=vs.length,z0=ys.length,(by rw[<-z0]),(by rw[z0]at zA;exact zB),(by simp;omega),(by rw[List.lookup_cons]),this.2,wI.2,(by exact Iff.rfl),(by rw[z0,List.append_nil]),owner[z0]?,(by rw[z0,List.getElem?_map,zA]at zB),(by simp[Array.getD,z0]),(by subst z0;rw[FH A0]),(by cases c<;>rfl),(by simpa using a),(by obtain⟨_,_,_,z0⟩:=x),(by obtain⟨m,z0,_⟩:=zA),(by obtain⟨_,_,z0⟩:=Wk.det _ zA zB),~~~a1e,~~~b2o,(by simp only[Z4]),(by rw[<-Array.length_toList,z0]),z0 ≥ dQ,(by rcases hroom with z0|⟨zA,zB,zC⟩),(by cases z0<;>exact(A25 zA)),(by simpa[List.getD_eq_getElem?_getD,z0]using zA),(by obtain⟨_,_,_,_,_,z0,_⟩:=h),((CNW)),decide_eq_true (z0 zA),z0 (List.getElem?_eq_getElem zA),(z0).toArray,upd z0 a zA a=some zB,ep+1,s1.heap.objs.size+1,u.length+1,AM va,D2 z0 s2.heap.objs.size zA,AW BHK,AH s8 z0,AH List.set_append_right z0,BG ws.length,BG DB,.byt _,(List.take_of_length_le (by rw[z0])),.inr rfl,Or.inl rfl,AG J.length_eq z0,AG z0 A0,EY H' z0,AQ u,AQ ANP,AK l.extBut z0 zA,(hR r z0).1,d.from_ x z0,LC "enumerate",BZ n,BZ z.length,BQ x,BQ wi,BQ (lo+i),WC ZU,LF H2,BS Nat.min_le_right,.inl e,.error e,CB t.place z0,eq_of_heq x,Itc x,i<zs.length,LA.length-1,(by refine wpAny_pyIter_slot z0 zA zB),GP H',Nat.min_eq_left h,ZA 5,ZA 6,NW wpAny_updateSeq_pair z0 zA zB zC,EU e2,EU (XF z0),BL z,(by .exact Nat.lt_succ_of_lt z0),BH z0 h1,wd ": ",Nat.lt_of_lt_of_le a z0,FB t,FB b,NZ z0 RP,0<=cs.length,A4 y.symm,A4 B.symm,A4 x.symm,GR H',FU hl,FU R,EL k,A3 (A9C B2 z0 zA zB),ZD V,ZD FF,l.take i,DF #[],j<a.length,HK ys.length,KN c,DZ k,FW z0 BGN,IB a,IB it,FX f,FX h1,FX e2,V.int.inj z,CO h2,LB.take n,isNm n,(by .rw[CK];simp),0<b.size,(z0 this).1,.str y,EA es.size,EQ h1,KO " = ",LA.drop k,MM Nat,MM α,MM Fin,OD items,JQ "zip",JQ "sorted",(by rw[OE z0];dsimp only),OG d,OG ASR,1<=ns.length,z0 b ps e,LN i,ZI pushCells_keeps z0,ZI Heap.get?_update_ne z0,d.params.defaults=[],DP CNV,MQ CLK,JU hl,JU G,JU R,JU hc,Off l H z0,Off ZH H z0,A9K es,Paired.length r,Nat.ne_of_gt r,(by rw[MR z0 Nat.zero_add]),A1E r,IE xs,IE ts,ZK PySem.W.hasDictIn z0,ZK PySem.W.plainOver z0,ZK PySem.W.makesIn z0,cQ env.cells.lookup,IF a,IF DE,a > 0,x > 0,qP.length=n,es[i],mE CNM,tQ H,ns.getD j 0,FC (CGH z0) zA s1 zB,EW z0 (JU zA),(by rw[UJ Classical.byContradiction z0]),.n x y,.x x y,A9M ys,KA A0 z0,(by rw[List.getElem?_map]at h),MY "zip",MY "sorted",frs BEM,A9Q callerA,(by rw[MZ];refine z0 (thn (UH zA) λv s1 (RU x zB zC zD)=>zE) zF),ZT o.Pairwise,ZT r.Pairwise,kindOf s,arrOf s,(by exact DK (BL hR)),rJoin K,CV=k,WQ c2a,c8A H,QF List.length_append z0,(by rw[HS Sub.one]),gY uM,(by rw[LS Bool.eq_iff_iff]),tY qB,(Heap.get?_update_self z0 zA (by rw[zB])),eq_of_heq l,d AO,b AO,l.drop AO,m<=900,m<=150,UT .Eq z0,UT .NotEq z0,X3 e,aF Bool,SortSt.mk' z0 (arrOf zA) zB zC,UU rfl z0,ws[j],List.replicate m z0,CB its.toArray v,aH a3Q,aI (1<=z0),BAG "j",(show z0=zA by simp[lnW]),iB z,(by rw[u7 wpAny_specialOf z0 zA]),aL z0 a1e,ns.length<=n,z0+1<scanBound,(by exact wpAny_pure (z0 zA)),D4 z0 0 B1,uA p,A22 toList,uC p,aO e2 z0,aO z0 hp,AO3 s.heap.objs.size,A23 hr.mono z0,C6 (z0 0),aP z0 (BI7 zA),MW AUE 0 z0,AO5 st',mZ z0 (zA X.K),r∈a,([],[]),Q false s,nA .Subscript z0 zA zB,nB s' z0,uG x,Sem α,dN cs.length,a2Y z0 A6,XQ z,XQ h1,DJ o ta,AO8 a,SO z0 zA "width",XS hl,OM v ?_,h.objs.size<=a,uO toList,nJ Bool,(by exact Nat.lt_irrefl _ z0),VM c,IntsAre z0 ms,DX r rows z0,BAV ys,jA z0 ACR,AK q z0 (ZM zA),CU e ty,A2I A3O,nQ JV,AOI PySem.W.isFn,eD "number",eE f,eG name,λv=>BBE,λj=>CJ CI6,tC (z0 i),jI v,jI y,nY r,CB ys y,a8L ns zs y,a.toList.drop ia,mK % 28,(by rw[oH z0 List.map_append]),jS e,v7 a8G,TW Key qB,BBA 4,DJ e ty,WE c u,ABE r,ABE ra,vC rfl,BBJ length,BBL z0 (tVar 0) zA,qN.Perm F,s4.trans F,A37 us.length,A37 L.length,CJF::us,⟨z0 b.h⟩,z0=Value.ref b,λx y=>DI z0,BBS ASN,BBS CP8,APF lo,APF APN,R9 u j,vL z0 BGI,pB ARY,OO c (AUB z0) zA,vO z0 WL,A3H U2,A3H T2,f+s*i,f+s*j,K.In base,b.toList.take nb,b.toList.drop ib,eval z0 env,pG=some v,c1y (E4 z0) zA,A3N h'.get? z0,AC2 h2,AC2 r2,AC3 I.ok.bs,BK x M,ZF C8 1,AQ6 i,AQ6 n,AQ6 j,(by rw[UX hi vs.length]),AQ7 AQL,AQ7 ACR,AQ7 (HK r.length),AQ8 y,a.toList.take na,V->A1R,s'.os=s.os,s'.os=s1.os,(by have hu:=hr.u60),c∉a.cps.toList,(DP z0,BQ zA),wK Array.length_toList z0 zA zB,A43 true,FN KK z0 zA Q E s,LL us qN,AQM pyIter z0,wV k,A1N 1 b2c z0,xs++[-s],AD2 A47,Int->γ,AR0 3,AR0 4,A4H ws.length,AD8 prices z0,BD3 st,BD4 World,BD4 ((BJ)),A4T z0 zA "rows",λx a=>AG A4P z0,O9 ns caps,(by rw[List.getElem?_append_right hi]at e),A4V i,ZK PySem.W.hasDictIn C,ZK PySem.W.makesIn C,BD8 env,V5 s.heap h,ZQ v ns,SqT K H p xs,BDA L.filter,CGF wP,A56 true,BDE q,AQ4 H' h',ADU AEN,ADX a,E4 jaN,D.same s1,ARZ most,dx≠x,atI (z0 V.int) zA,~~~b2t f,GQ bootBuiltins u,GQ X.mg u,HJ l BE5,AS9 n,(by rw[lV pM rfl]),AED s,ZO (A2Y BHD),ASE y,λb z=>absurd z AJ,UO RC RC z0,(lo+hi) / 2,CH0 dx,AEQ l,AET (c≠z0),AEV (IE t),CH4 L,z0 K x vs H Q,(xs.map (·.1)).Nodup,RelV (o.getD z0) zA,BG gr+1,Wk.det _ z0 g,Lsts H z0 L,λz=>z0 ASA,A1C _ (Q z0 H),ID ps ?_,(decide_eq_false λz=>by rw[z0]),BFD h.lv,XG c 0,AA8 NiO st z0,ATX most,uZ x C,AU3 [],AP5 PW .And z0 zA,AP5 PW .Or z0 zA,AP5 JW .And z0 zA,AP5 JW .Or z0 zA,(⟨#[],by rw[LS z0]⟩),(⟨#[],by rw[z0,zA];simp⟩),(by rw[GA z0 rfl (KS zA) ?_]),(by rw[GA z0 rfl (nD zA) ?_]),I.kept (t':=tk) z0,(Itl K a).z0,(Itt K a).z0,G6 (p:=z0) e,G7 (p:=z0) e,ARR (A2Q true z0),ARR (A2Q false z0),Rd H a (.dK qL),Rd H a (.dT qL),ADY z0 R2' c0,AV0 ys,AV5 rss,CIM c,CIM o,CIN H,CIN H',λH3 s3=>z0,t.dummies=#[],f::fs,-(dQ),(by rw[BGB z0 List.length_cons]),CIR n,((A3S 2305843009213693951)),z0 (Nat.le_refl _) zA,CIT z0 filterMap,z0 X LD (zA te t),(by have:=z0;rw[zA,zB]at this;rw[UI]),∀s',z0->CM3,(by have z0:X.A.in1.handled=none:=zA),rIn K false,(by rw[BB List.length_append lq z0]),L++[b],PS X st t,HX D0 BCN z0,HY psW xs,(by have a:=List.getElem?_eq_getElem z0),(by .rw[AD (A4 (f b _ e)) z0]),ZF E9 3,(by rw[LJ (z0 (wpS_pure zA))]),RA t zs,Itr 0 n,a1I z0 (zA (~~~zB)) rfl zC,d i σ H,NF z0 (ADD cs.length zA),AO0 (BQ (i+j)),Lim rss cs m,AOD h xs,BHA ASS,BHB cs.length,∀i ys H,LR->z0->zA,(by rw[SF e b it f]),CJN (BGY BFC),BHR c.map,BHS BAR,Rs ys.length rss,(by rcases A4O with a|a),AU2 (XG c xs.length) A30,BHZ CNQ,CJZ vQ,CK5 ys,A2O h i n,CK7 CX0,Mk X.K C f,BIK ws,CKI z0 push,BIO z0 h',Ris t.place,Nms d.names,its.toArray.size*k.toNat,u=Value.none,X.stack=CNS,κ×V,⟨z0,e1,e2,zA⟩,(by cases z0;exact wpAny_truthy_bool ⟨zA,zB,zC⟩),⟨BHX,oA v z0⟩,5 ^ n,(by rw[List.getD_eq_getElem?_getD,List.getD_eq_getElem?_getD,z0,zA]at zB),CKT z0 CNO,z0 (λx y=>zA) V.int,((A5D H')),o.data=.fields z0,CKU n,BU some q,(by rw[AD e2 this]),.ext λh=>z0,AH a2E (AG K3 z0),AG z a,EY fs.lookup m,c1x K EO z0 zA,EK LLI Str,BK c f,(AOL k).2,(by rw[BW (List.mem_append.mp z)]),(by .exact BGQ (s1.upd D) z0),IR PySem.W.methodObj f z0,-FE<=i,PY H1 iY,(by rw[CLR List.flatten_cons z0]),QA x y,dE y k,AA3 true ah',(by rw[u7 seqEpoch_at z0 rfl]),Srt rss b,uZ d.name fa,-(ATE)<=z0,(by rw[eQ i z0];split<;>omega),(by rw[BM f b a]),CMC B,wC (BZ 1),CMI "_law_name",ACY (BHM i) [],CMN r.getD,A51 z0 q hq,AEB _ _ z0,ACE->vW aJ,JB X B v,(by rw[DO eC z0];rw[QI eC]),AU6 k z0 ns.map,mV (F5 (z0 K b) f g zA) c.h d,(by exact bJ g Q e z0),CNC 8,CNG Str.join z0,aK "one" z0 uI AQN,CNK o,(by .rw[oW o e z0];rw[AY o e]),BI1 qual fd,AF9 s.toks (o:=JM z0) zA ?_ zB,BIN s.heap mA,GX T.keep z0 (QC zA o zB),CO3 s3,CO7 h',(by have hj':j=x:= ~~~a8J z0 zA),wD H I h,COV H',CX outer H s E z0 zA,(by obtain⟨j,h1,h2,z0,zA,zB⟩:=zC;rw[BX w zD zE r.get h2]),CP7 xs,CPE (z0 K d b) zA,CPT A,ra.length+c.length,n.toNat*its.length,A.units<cLine,owner.size=uR,d.sides.length=d.rows.length,ss.length=rss.length,o::src,(by rw[List.size_toArray]<;>exact z0),∀ws∈z0,ACW,⟨z0,FX zA,zB s⟩,(by rw[List.nodup_iff_pairwise_ne,List.pairwise_map]),(by injection z0 with hyx hrest),∃v,z0 c v,show IB z0 from A5 t zA,∀fs:OY,z0,(by unfold KV at r),(by obtain⟨z0,zA⟩:∃zB,zC:=(GH _ List.getElem?_eq_getElem zD)),(by simp only[Around.in1_units];rw[DN z0 zA]),show b∈([]:EI)from z0,(by rintro⟨h1,h2⟩),(by injection z with z),(by injection h1 with h1),(by rintro c st' ⟨z0,zA,zB⟩),(ADZ).size,(by have:=z0;rw[AT8 this]),C9 K z0 A6,CU l tl,H1 z0=BU .tup zA,BK w hw,BK H1 s1,WdM x m,PySem.Txt.split z0 bk=zA,qD (tY qI),BZ (uT qP z0),(by rw[AX List.map_nil z0 zA];rw[A4J]),.int i _,F++[V.ref q],s.1++[s.2],operate z0 (getItem zA zB),DJ (A2M name) z0,DY f k,(by .exact wpAny_Name z0 hd),SqT X.K H z0 zA,b3f y b,f v u,A1 (z0 (hp:=PassesOwn.leaving)),a4F lo n,((BHU∨CN8)),KA (A4 z0) A0,QA AS3 FZ,ANF x (tM "__classdict__"),a5y d u,(by rw[mH e' z0 ⟨H,I,q⟩]),tV E3 n,tV C6 x,λq b=>z0 q A2K,hJ (1+i) x,Mut (H x),tC (.str x),US rfl rfl z0 zA,G0 m ρ,z0 some=zA (es[·]?),(Itr lo n).z0,Rd H a u,(by rw[aS this this]),iJ s1.trans s2 z0,λy l=>COY,z0<=L.length*cs.length,.ok (rwT L),(by rw[z0]at h1;rw[nU zA];rw[CHT]),(by rw[CL6 z0]at h1;rw[CHT]),IntsAre its.toList r,trk h H,z0 Q x H1,XU z0 zA "names" "words",EqV K z0 1 zA (AM zB) zC,qD Fin×Unit,AAZ PySem.W.plainGet z0 Str.empty,AAZ PySem.W.codeIn z0 qual,(by rw[jH u (a6i k)]),oA h1 h2,A2Q z o,AOE d (z0 (COZ s H ex) zA zB),(⟨z0,by with_unfolding_all exact List.mem_cons_self,AI⟩),(by rw[eS z0 zA];rw[QQ ABN (XJ zB t e2).2.1]),sliceBounds lo hi none n,v=.str x,List.all_eq_true.mp z0 _ (List.getElem_mem zA),g FZ z0 (AEO zA) λσ2 H2=>zB,starEach CIX env,atI xs i=some v,AQ0 z0 "__setattr__" CJC,BCB R "rows",a3J hs (~~~a8E hd),NmI L R,(by rw[wH z0 (zA=some zB) Array.getD_eq_getD_getElem? zC]),UZ ["width"] "width" z0,AQX r b,(by rw[CGA g g.unheld]),(by rw[A4K z0 zA (zB.2 i qP[i] (IF hia))]),AR7 V5 h',Stps dr0 z0 d,((modify λs=>z0)),AD9 Keyed Keyed,JO X lo tl,JO X hi th,∀o,AEC z0->BE7 zA,ADG (ADL J4 z0 zA),(by rw[A5C (~~~b2u h2 z0)]),BDX dfl tn,(by have D:s.heap.objs.size∉[ACV,l]:=z0),XP X qK R,(AQJ (ARW i) (ARW perturb)).1,CGX A7 z0 sc__law_names.nd,YZ d .dT qL,T.2 i v hi,(by .rw[vG ys];rw[CM z0 List.take_length BCV]),BEN CX scope,ASX (CJE h),CHI h1.extBut D.i1z,LvF cs.length z0 v,((z0/\((v=.non/\zA)∨zB))),DX ws L ACW,T.obj _ _ z0 b zA,DT i z0 zA hi zB q,CHS "show_vector" "one",CHS "_law_vector" "_law_one",(by rw[AU5 Q8 Bool.and_eq_true]),f.kept (t':=tk) g,BFN v r,97<=c/\c<=122,AV6 z0 zA UF T,NB=.free->z0,.ExceptHandler z0 none (zA::zB) zC,z0 A2A .none kV zA,Slot z0 name id,e (decide_eq_true (X3 z)),J2 (a0b A6),IsEnum z0 e it zA zB,WC [b]=BF8 BD6,(by rw[LU i hi (List.mem_iff_getElem.mp h)]),loD a b z0 ia zA mg k k1,∀xs,HO.tup xs≠o,λH1 s1 C=>OI d rfl (vT D),(by .rw[BHO];rw[OP z0 e1 e2 zA zB CMU e2]),CJO "below" a8a,AF2 CV GW mp,CJQ X.stack s1.heap,V.int (dot r ys),(by rintro i x ys H' hx ⟨s,rfl⟩),(by rw[BI6];unfold ltK at z0;simpa using zA),BIA "a" "b",BIB x z0 y,(by rw[BIJ z0 zA r.length q]),(by have e:i=xs.length:= ~~~a5Q hi b),CKC BHF e.key,⟨[],?_,.nil⟩,⟨AQS,(n.push _)⟩,wd "+"∉t,D2 BIE (BDH z0) _,CKX a0y T.sb z0 zA,(by have z0:Str.ofString zA=zB:=by rw[lZ]),a.map λt=>t.getD j 0,a3d (t:=1) z0,(λz=>a (by simp[z])),GP (a8T z0 H).get?,Sgs H' ss L,CMK+100<=100000,PV (AEW b dX),gO z0 (PP (a2w (zA zB zC))) (PP EO),CLW OW hs.length,z0 X (AU8 zA zB) (ABG "zip" ZH) zC,WH/\x<AEM,CMJ "_law_name" BHG,∀i σ H,AQ3->AQT->z0,∃x,u=V.int x/\(z0),ASC n names qP,oV MH out.toList.reverse na nb,(by have hb:(g==z0)=false:=beq_eq_false_iff_ne.mpr h),VA z0 _ 0 zA rfl rfl zB rfl ?_,CNE (vH bk D7 (L9 ns xs (-a))),BHW A5A (∃vs,eV/\h.DictOf A49 a vs),SJ a6p AP0 (λu=>z0) (BGV a1d h7) rfl,(by rw[BIS c (iJ s.upd z0 c)]),GS (K5 (K5 z0 B1) zA),(by .exact BGR (k z0 H1 zA s1)),A9J C0 (N:=[z0,zA,zB]) (src:=[none,none,zC]) (APR zD),SeqAt.EqAt A s u v z0,AF4 (PM H dx .own x) x dx [],[FB ra,FB ca,DZ most,BGO,z0],(by rw[BIU nG z0 (AG N7 (Y7 o zA)) (zs=zB i) (BGK FD)]),CPG qL.map (QK,y),CPL CHV CHV,CPS ra ca,CPY H' s'.heap,⟨σ,H1,s1,p,C,H',B,a0,h1,z0,h2,zA,zB,zC,zD,zE,zF,zG⟩,(by rw[N7,z0,List.take_of_length_le];rw[CN9]),e=x∨ACN e x,(by have ty:=D.typ;obtain⟨z0,e1,_,zA⟩:=zB),(by injection hyx with hy hx),⟨z0,~~~b2C zA,h2,zB,zC⟩,(let ⟨z0,_,_,zA,_⟩:=zB;zC),(match k with|true=>z0|false=>zA),(by rw[Array.getElem?_eq_getElem hia,XR,z0,<-zA];rfl),(by .obtain⟨z0,zA,zB,rfl,_⟩:=h;rfl),(by rcases z0 with⟨n,zA,rfl⟩|⟨_,rfl⟩),h.Ns1 dx mA,a2H (tVar z0) X0,(List.eraseIdx_sublist ..).mem,(by have z0:zA:=by rw[<-zB,List.getElem?_map,hi];rfl),.frz z0 (.lst xs),z0 a its.toArray m dd,a7R qP (a9p z0 zA),λ_ _ e=>e,EZ M af ASP,P++LA++LB,WC ZH=COM ARB BD6,D0 t.mask CKE d,(by rw[OE (cS z0 _ _)]),EE (mX call "set" BCX),a4N z0 d CL8 wO,cO (A4N a2o) (WW Lim.few a0w h),tgl n a c,(show semi.length=2 by decide),k b a q,((∀x,iS∈cs->A2Z)),RB z0 (∃a b',ABB b'/\zA),lo<=x/\x<=hi,∃n,z0/\CN2 zA/\zB=some zC,CU (BF6 a b) (A1E z0),(Nat.lt_of_le_of_lt (show z0<=1000000000000 by unfold topN at zA;omega) FV),mX newExc "StopIteration" [],A2D (z0 zA (zB (U6 (A3A zC)))),(by rw[XX z0 (ML zA os) p2 (V7 λt zB=>(zC t zD).1)]),AB4 0 0 0,(by have hia:i<qP.size:=by rw[CM z0 zA hi]),(by rw[oT (DD z0) zA];rw[XZ e1 H zB zC zD zE]),AAX (A1W P w h a z0) zA,(by .rw[Array.getElem?_eq_none (by rw[F2 z0 zA O2 hi]),BHL];rfl),(by have z0:zA≠zB:=A5 (o:=UP) A0 zC),z0 (pl:=pl) zA c h1,(by refine a3O (lo:=0) z0 zA zB ?_ ?_),WJ "first_steps" 2 "caps" a7Y,nmF g st l,out++(a.extract at_ na).reverse,(by rw[AS0];rw[CIL];exact GH A3V Nat.ne_of_gt p),J8 K ZX (a0b A6),BEJ "sums" "rows" b1r,∃u,BF3 e u,s.heap.push (U9 k l),AUL (foldedSetIterable b X.env x),(by rw[A4Z i];rw[Array.getElem?_toList,List.getElem?_map];rw[UX hi z0]),BGE (w∈its) hw,nsIn K mainGlobals x=some BCI,(by rw[EF rfl rfl rfl rfl]),ANS outer b c E,AAS base "beyond" 8 BIR (a5a z0),oV MS out.toList ia ib,BAC κ D lt,Inv X z0 σ H s,(BI0 BG3).push w6,V->FF->FF->A1R,IS assignEach es X.env=n,a9d y b d u,CO0 xs xs xs,∃f fd,Meth K C m f/\z0/\zA,∀f,RelO (fs.lookup f) CJ6,(by exact B.heap b o (by rw[CIL];rw[AY F G]) AS7),∃(its:AN) (n:Nat),z0,⟨z0,zA,BQ zB,H,ZL,zC,q⟩,⟨z0 (zA CN0 hi.h b.h) a⟩,(by rintro i ys H' hi ⟨z0,zA⟩),(let ⟨z0,zA,zB,e1,e2,e3,e4⟩:=zC;zD),z0 a0 a1 a2 a3,((upd (aU x o) p COQ)),F9 qL (r.map Sum.inl),EY (CH5 es findIdx?) ((·.1)),z0 (OC zA) T (zB (OC zC) T zD),(by rw[FT z0 zA];rcases Nat.lt_or_ge i zB with hi|hi),(GW v U).2 y O,((k=k'∨(k'=.free/\k=.cell))),∀p,pC->z0 De σ1 (upd H' p (a8V p zA)),(by rw[SI t (BCK z0 d)];cases q;rw[BHE zA]),StR rss cs b L,⟨z0 (zA K f c) d.h e.h (K9 _)⟩,ND++b.extract OH x8,(by rw[oE PySem.F.slot_str_split CJB PySem.F.entry_str_split PySem.F.args_str_split_2 z0 zA]),KL "cheapest" 3 ["told","prices"] spCheapest,(by rw[ABV z0];refine a2z zA zB c zC l ?_),(by refine⟨_,rfl,_,rfl,z0,zA,ADS zB zC⟩;rw[Int.toNat_natCast]at zD),F.run X.A X.stack s1 H1,AAS base "by_rows" 9 (A2X "width") (a4Z z0),typeOf (.builtin id)=lU .type "method_descriptor",.Try body z0 [] [] pos,AOY (oC e (I.ok.cab x c hfn g)),SysAt H v ns rows sides caps prices,(by rw[List.zipWith_cons_cons,List.zipWith_cons_cons,List.map_cons,z0 f g xs ys]),t σ H1 (qP++z0) Q,BI z0 k false ms [] zA mJ,(by .have hb:WG g z0:=beq_iff_eq.mpr h;rw[BI5 zA]),∀m st',A33->ATO->m<=z0->BDF m->oX m st',(by rw[EB o es ep (k _ o z0 ho) r]),ZV ch (CP5/\ADJ/\COO/\CNA),(by rw[BH4 p z0 zA];rw[AT9 prO e e]),(by .rw[OP o e d z0 o e CIB]),COR A2A .none kV b pm an a ct,AQ2 (d+(N-d)) N b4c l,putK iH z0 (.int z)=zA,(∀b,isTrue a X.env b=(do let v <-b;standAt a.pos;holding [v] (truthy v))),(by have:=z0 (A:=zA) (s:=s) p1.isList p2.isList (BL zB) zC;rw[SF zD ((zE==ws.length)) false zF]),(by have z0:=zA;have zB:dY zC (BII/\ZQ APD ABN/\J5 s.heap t.1=ABN):=λt zD=>zE),(by have z0:=zA k2 BO ⟨zB,os,c,zC,e⟩;refine ASG h1.objs.size zD zE),(by rw[ABV z0];obtain⟨zA,zB,_⟩:=zC;rw[LT zD zE];rw[m.trees];refine Calls.callWith_builtin rfl (Calls.evalArgs_plain (Calls.spliced_cons zF))),(by rw[eP,ew,eA,a0]at z0;refine FC zA zB zC O),(by rw[AE z0 r.length zA a1i];have fin:nT w s:=⟨z,H,I,zB,q⟩),c≠TO->c≠z0->c≠zA->A3R->zB,(by have z0:BZ (vU putK qL k zA):=by have:=W4 qL k zB;rw[oK b2B zC]),c5b left key qQ base n z0 zA,∀x y c,z0->D2 zA y c->x=y,(by rw[uW z0];rcases zA with rfl|rfl|rfl|rfl|rfl),(by have e2:CJS=4*KD:=by rw[Nat.pow_add,Nat.mul_comm]),(standAt qO.atName>>=DF (holding z0 zA>>=λp=>match p with | (zB,first)=>callWith pos zC first zD zE)),pT (AOO z0 qM h) (λzA s1 (RU vs zB r q)=>HR zC) zD,(by rw[DR u rfl t rfl a3Z r]),ACG names vX n qP VH (z0->zA),(by rw[AF1 (List.mem_iff_getElem?.mp (p1.mem_iff.mp z0))];obtain⟨r1,r2,zA⟩:=t4 i t hi;obtain⟨zB,zC,q2⟩:=hI.2 i _ r2;rw[AX zD zE zF]),∀i ys H,AUU->ATQ,(by exact h _ _ _ g f I),SysAt H' v ns rows sides caps prices,SetTable.below.go xs j fuel lo hi,z0 x' d _ _ (List.mem_of_getElem? k) (List.mem_of_getElem? l) zA zB,(by rw[CPW (codeAny_call_builtin (R:=z0) PySem.F.called_set.init.plain PySem.F.entry_set_init (check_set_init_1 hT ?_))]),⟨λqK s σ H qP Q I h=>z0⟩,(by rw[CK];rw[A3Y o e d st];rw[BA o e CIB]),AO4 "enumerate" #[.none,AQU,hQ,AE0 1,.none,.none],BIQ (cR t vs (sp vs H1 (λv H2=>z0) λc _ H'=>∃C,LH c C/\R σ C H')),(by .rw[NG (h.more (m':=2000) (OJ a2o) (OJ a0w))];exact z0),(AV8 P0 AU4 (a3F (by rw[G3,G3,h1,h2];show(z0)∨(zA);omega))),CE outer P w H s Q u s',Iv1 Y a0 a b x l v ns rss q caps p,(by rw[SK σ' H' I q];rw[EF σ' H' I.unwish q]),(by .rw[CLS G2];rw[<-p2,List.pairwise_map]at hs;rw[CNY z0 hy zA];rw[v9 zB,v9 (zC y hy)]at zD;exact zE),(by rw[jX (BGD (C5 f v AUG=(CK0 (k=f) (dE k v) k))) a k f]),(by refine NW codeAny_mono (Z1 HQ (E:=E) (Q₁:=λz s₁=>LH z s.heap.objs.size/\s₁=CH1) ATI) r s₁ K),(by .obtain⟨p,ra,ca,af,aw,b,L,F,W,rfl,_⟩:=h;rfl),(by .obtain⟨z0,x,m,ns,rss,ss,cs,ps,rfl,_⟩:=h;rfl),c8p d e I h λv u s2 x y H2 c z0 zA q=>zB,(by .obtain⟨_,h1,_,h3,h4,h5⟩:=z0;rw[EF h3 h1 h4 h5]),λ{_ b l t k z} e=>RZ (z0 b l t k z) (DPut.k (k:=zA) e (UG (AOZ 4) b1V D)),(by have n:BF9 (ANV z0):=BEL zA nl;unfold Builtin.«set.__init__» noKeywords Builtin.Frozenset.updateFrom;generalize C:pyIter=PI),(by obtain⟨rfl,h',tk,xs,rfl,g,f,I⟩:=hr₂),(by obtain⟨v',σ2,H2,z0,rv,a⟩:=a;rw[GZ v' σ2 H2 (zA I.ok) rv a]),∀{H:Hp}{b:qE}{l t k z:Int},BDG->DPut H a (APH z0) AAT (BHP zA),(by intro value z0 qK s σ H x y v u Q I zA zB h hs),(by obtain⟨ol,hol,hcl,nl,hdl⟩:=hl;obtain⟨X,k,L,d⟩:=ol;simp only at hcl hdl;subst hcl;subst hdl;have z0:D2 CHO l zA:=OB hol;rw[AE V zB U zC];rw[A45 a4 ((AQD zD==AQD "dict")) false]),(by rw[bC tl T PySem.F.called_set.mro];rw[CQ0 J PySem.F.called_set.made W PySem.F.called_set.sub (mX callAny "set" _) PySem.F.entry_type_call];rw[CP2 "set" BCX [] rfl];rw[TB PySem.F.called_set.notType PySem.F.called_set.canCreate];have a1:=PU PySem.F.typeCall_set_1 l),(by intro s' O B g f;obtain⟨h',g',Y,N,M⟩:=s';have eg:g'=s.gens:=B.gens;have Z:Y=s.drawn:=B.drawn;have eo:M=s.os:=B.os;subst eg;subst Z;subst eo;rw[PX _];rw[oN];rw[PX CJX];rw[RT ⟨rfl,h',N,O,rfl,g,f,ACX S e⟩];have F:IB s.heap.objs.size:=AOY S;have G:IB ACV:=z0),{cls:=z0,dict:=none,data:=zA},wpS z0 A E s,BA7 z0 qual scope f cd A,AW false,ANH PySem.W.nsIn z0 zA,! z0 "set-order",show CET from z0,bootBuiltins z0=BU zA zB,PotAt H' z0 b,ZZ F W z0 k,⟨z0,g,d,zA,os⟩,CJ (z0 > 0),cK keywordEach [],B7 src σ=z0,((r.length+1)),((mask+1)),.BinOp a z0 b pos,K2 K 2 (B3 z0 (B3 zA F3)),CJ (z0+([]:A9T).length+MW ([]:A9T).isEmpty 0 1<30),YZ a .dK z0,Kept z0 st st',(z0 k1 k2 s.heap a b).zA,z0 (Nat.lt_succ_self _),WI none,BAD z0 (x+2) d,["a","b"],.Name y pos',⟨z0 zA c.h d.h (K9 _)⟩,z0 λx => -x,AOA "rows" z0 "names" zA [],IsNx rss cs z0 u v,{D with nx:=z0,ct:=zA,bk:=D.nx},z0 (Nat.lt_succ_of_lt zA),z0 X.env.scope x,V.int ((lk d.prices n).getD 0),ovI (lk d.caps n),knd.draws k,BAP k.map,BAQ vs.length,c H' DE,BQ 1000000000000,DY z0 "set-order",min xs.length z0,Obj.mapSeq λ_=>z0,HT.sIx z0 0 lo,AOD s.heap z0,AP2 H2,.Slice lo hi none z0,BBM (PN z0<1000),lS σ' H' z0,.ret (.bool z0),z0 rows items.size xs,List.zipWith f xs z0,cL (z0 V.str).eraseIdx j,z0 (base:=base) (P:=l.prog) (w:=w) zA zB,(dfl tn ar as ac ap).lookup,(by obtain⟨σ2,H2,z0,a⟩:=a;rw[EF σ2 H2 (zA I.ok) a]),z0 (SetTable.below zA zB),(by rw[mD z0 zA List.mem_iff_getElem.mp zB]),Around.under_plainId z0 _,ANZ (.seq z0 k),ite_congr rfl z0,HX SetTable.leap i pt,AOO z0 pos h,(by rw[ABJ (List.mem_cons.mp (z0 zA))]),APC z0 DE hi,A9Q (A.deeper (z0 a))->zA,BAD z0 c0 c',(a0u z0 ns zA).map,.Subscript AB8 z0 sp',z0 ns rss ss cs,AAX (A1W X.prog X.w s.heap a z0) zA,Sub (B7 src σ) z0,z0 ns rows sides caps prices,∃r,LP=some r/\AON r,Runs2 kf D z0 P LA LB R,AA5 z0 X.base x k ps sp,⟨a0Z K z0 zA zB zC h.h g.h f b d c hs a⟩,DecidableEq z0,tH z0 i zA zB (Or.inr rfl),gH z0 V.str,BAO items,PySem.W.instObj C z0,GI (BB1 (ANJ AAF)),gH k.map kV,gQ z0 MX map,A1P rfl (IC z0),(assignEach z0 X.env).zA,(by dsimp only[B0,List.set]),z0 X.prog X.w,b3k rss z0 j<0,ovI (prO x),(by rw[JZ codeAny_builtin z0];rw[CGD zA]),AAY l (v2 dU dd z0 sl),BCQ (λr s₂=>r=.none/\z0),λ_ _ _ _ _ _ _ z0=>zA,CGK (envOfC z0 (A2 st) s.heap.objs.size f) zA,⟨_,rfl,l,_,_,_,rfl,rfl,AOQ,a6W,rfl,_,rfl,?_⟩,(by size_fits),(by rw[List.getElem?_map]at z0),z0 hs₁.extBut zA,λz=>AA0,ZI F.len z0,KA List.length_map z0,(by rw[List.take_add_one,z0,zA];rfl),A1J (z0 K H' a zA),ANV get?,A19 z0 [] pos,BAQ us.length,WJ z0 1 "width" zA,WJ z0 1 zA spShowV,(by exact Option.some.inj h1),AOS it,AOC p m,WE hi u,DGet H a y z0,A3D lo,APR jC,(c.val k).z0,.Subscript o i z0,BCT t.1,z0 X.K H p ys,CH3 hV,upd H' p (a8V p z0),CH8 ys,WE 1 v,A1F vt r,A1Z AQY AQV,none::WI none,(λv z=>by rw[A3J d]),BDV z0 σ (APU N N),∃W:APL RG,(∃m,z0)/\∀i m σ H,zA,[A1F wd "0"],bindArgs z0 BD7=lU ps.zip us,.Constant AAT jj ip,bubble z0 AAU (AAU-(lo+l)),⟨z0,I.os,I.bare,I.base,zA,I.cell,I.free,I.freeC,zB,I.hok,zC⟩,(by refine wpAny_Call_Name_kw (K6 I z0 zA ?_ zB)),b2J (λp q=>z0) (zA x) (zB y),(by simp only[List.mem_cons,List.mem_singleton,List.not_mem_nil,or_false,not_or]),AA6 a (APG a.heap.push "slice" #[z0,vu,.none]),St1 C z0 a b x l v ns rss ss cs ps ws,(let ⟨r,e1,a,e2,q⟩:=z0;⟨r,e1,a,e2,zA⟩),AQF nm z0 C N bs bm zA sn sub ab col dd k0 k1 k2 k3 k5 qR,runs.length<=z0,z0∈d.names,a.length+1,(List.range z0).zA,(by refine wpAny_execs_cons z0),z0 x List.mem_cons_self,TY Env0,e::rest,DI (-x),Value.ref b,BL hw,JM ys,WE 1000000000000 z0,MM AN,gQ z0 zA flatten.toArray,tQ H1,mA f,WN XA,A9Y (CF4),KR c B.mono z0,codeAny_builtin z0 ?_,nN typeIs_str,A2P "object.__setattr__",BBW base.Ns,HX pos z0 m,Value.ref GM,(t.put z0).2,CG1 ip,z0 _ (Nat.succ_pos _),NZ l (RD l z0),gM BCF n,CGH d,CGJ List.getElem?_append_left,BDR (y=.non/\z0),cX z0 "one" "other" zA,aG z0 z List.mem_cons_self,Cov z0 H' zA s'.heap B,m::ms,2 ^ (k+2),HM xs.take k,r c f,AA9 (BG z0≠0),AR6 z0 zA List.length_map uL,ret Value.none,J2 A6,if z0 then RV else 0,if z0 then zA else(zB,x)::C5 f v r,tupleKind (D5 z0 zA),JN [n,nP].map,([]:AN).toArray,A1M KU z0 runs rest,SqK k2 K H b z0,X.blk N scope z0 zA,AC4 base z0 k f fd ps sp,["rows","caps",z0,zA,"room"],.int (z0 j 0),BEC (sqt (FX z0)) sqt zA,λi ys H hi p=>z0,λi v=>∃e,z0/\v=zA,CII z0 I.loc zA I.len,st0 t.mask WM,gK "dict" .dict #[],z0 (gK "dict" .dict #[]),gTup K 2 (gCons (B0 0) (gCons (B0 1) b2R)),(z0 k1 k2 h l1 l2).zA,z0 hos hbare hU hok,(by rw[OE (BI wpAny_isInstance T z0 b true zA zB)]),W9 left key qQ base z0,⟨_,rfl,_,_,rfl,rfl,_,rfl,z0⟩,AskP ns rss ss cs x z0,[1,3,5,7,9,11],(by rintro i x z zs H' p hx hy ⟨s,rfl⟩ hp;rw[BX x' z0 e1 zA hx]),(by refine⟨_,rfl,a,_,_,_,rfl,rfl,FU z0,rfl,_,rfl,p,C,dx,_,rfl,zA,U.cl,zB,zC,?_⟩;rw[HW zD st zE zF]),~~~a8z,(by simp only[List.size_toArray]),Int.emod_nonneg z0 zA,l.most=some z0,RO+1,AM ah,z0 zA zB (KeyOrd.kle_of_klt zC),AH l.kIn z0,(by have:=z0;cases this),(ap z0 AJ).1,(c i).1,h2.2.1,DD CIE,eq_of_beq e,(ap z0 AJ).2,seqIndex_of a z0,((c0+1)),NY hr.mono,JM zs,JM [],JN Ls4.map,DK (wpAny_pure h),DZ st,beq_iff_eq.mp z,PU seqItems? z0,PU z0 s.heap.objs.size,UC BCD,KO "__len__",Obj.mapFields λz=>z0,items[i]?,JY aM,ANI pos',setArr st z0,Value.ref d,cT wpAny_pure z0,PY h'.get? z0,(by rw[List.replicate_succ,z0,zA];rfl),(by rw[GO z0 List.pairwise_map]),Value.ref t,.int i 0,(by rw[hX z0 zA List.pairwise_cons.mp zB]),hY owner.setIfInBounds z0 zA,CB items v,ANW h1.trans,.cons rfl z0,dR f,ON/\CGS,WJ z0 1 "word" zA,nO (),[wd "-"],(CV,y),BBF value z0,OK::us,qD Unit×Nat,os.Perm vs,wpAny_newObj_type ?_ z0,BC3 AT0,DX y ys (BC1 z0),DX y ys (R y),ACK lts,ACM T.db,JL d (a-l),ACO (a+l),UL [z0,"_law_pot_here"],aK z0 "_law_pot_here" ZW zA,AR1 L.length,.builtin z0 (aX zA),ARC cs,CJ (ABU z0 ys.getD),BDD vF,AB2 l ASW,Heap.ExtBut it s.heap h',λz d st'=>CFE z0,BE1 List.length_append z0 zA,∃z0,WB h'.get? zA,AG CJM e1,BZ (xs.length+z0),ap z AJ,BEE ys.length,BER X.env.scope.names.lookup z0,BF4 f1,~~~a1c c,(P.length,z0,pw),((∀m,m<n->z0)),hJ j v,hJ x' (BQ d),XL n.toNat xs,uF z0 H' zA xs.map V.int,CI0 isSome_eq,AQK p ys,(by rw[BFM List.length_zipWith]),BFX (CV≠b),CIQ sz,(dQ-1) / z0,(by (with_reducible rw[JZ z0 zA];rw[zB])),KO "sum " ++ z0,CH5 z0 map (·.2)=zA,(z0 GY zA).cps.toList,∀v,APP->z0,∀h' z0,zA->(∃o,zB/\ACZ "StopIteration")->zC,BAH (mX isSubtype z0 zA),DGet H2 a y z0,CJI Nat.mod_lt,BDX L5 p,ASQ CJY J3,CJV 26,CK4 st',prices.map prO,S::wr,X.env::X.outer,[op,f],[.LtE,.LtE],⟨AI,AI⟩,BFB == ms[j]?,AQ (BD1 ASH),(by refine hs.imp_of_mem λ{x y} z0 zA zB=>?_),IsPair z0 TO a b,∀b z0,RA b zA->cZ b zB,A9L s extract,tN lastMarks z0 BDL,IJ s1.trans s2 z0,aC hs₂.extBut z0 hs₁.extBut zA zB,z0 c a b pos,∀v,z0≠.cell v,Heap.SameBut a s.heap z0,EqV K H z0 CC F0 zA,qN.map λr=>CI8,KL z0 3 ["rows","one"] zA,APX ra aW,AQ2 (z0-e.length) zA zB a,c0<=cY+mO,ABW _ _ rfl z0,BZ z0/\k=(BG zA != 0),BCE LM cY c0,λz d st'=>BAD z0 (dG+min z 1) d,EH s' (BFZ .next),mirror z0 i j ((ASF) / 2),C9 K ZX (jv z0),(by show KF _ (IR field it z0>>=_);rw[OE zA]),[(false,z0),(false,zA)],show([]:AC)=ys from b,((∀x c,A2C->c≠b)),BDT n B l,BDU fl v fs,PySem.W.fnOf x qual AQI A29,(by obtain⟨e,y⟩:=y;rw[CK];exact hs i x z0 _ zA p),CIP q hdct,(⟨Int.natCast_nonneg _,jO (show dN z0 by rw[zA])⟩),a3W X qK z0 b,ABM (ABM z0 hs₁.extBut zA) hs₂.extBut zB,a7p (b0u n) (z0 y),((hO.nm.nm y l).wg).1,CK6 d C,(by rw[CKK "StopIteration" z0 isSubtype_stop]),L.map λt:LLI=>BEI,(by rw[Around.under_plain (weight_type_call_type z0 zA zB) zC]),{d with rows:=z0,sides:=zA},KM (mirror z0 _ _ _) _,((b∈X.ex∨X.s₀.heap.objs.size<=b)),.ListComp d z0 scope pos,SqK k X.K H a z0,AO4 "range" #[CHY,CHW,CI7],iG m z0 st ps,ON/\((CGS)∨(ABI z0 zA)),I.apart (o:=default) z0 CJU,b4J BFP (z0 j 0),λr s'=>r=w/\nT r s',mV (F5 z0 g h zA) c.h f,ABW l _ AOQ (A42 p1),z0 λa=>if QK=k then zA else a,(by rw[AZ (dS wpAny_pure (z0 e1 e ?_))];rw[aV]),BT z b y a,(wpAny_handleBy_cons (codeAny_handlers_test ?_) (by intro q;cases q)),Inv z0 qK σ H s,iR z0/\BFL a zA≠h,compPost UA X.A X.xe z0 zA,os.Pairwise (λx y=>jM (J5 s.heap y) (J5 s.heap x)),AB2 l (uX (A1Q i) (A1Q k))/\(uK z0 (i<k) (uX (A1Q k) (A1Q i))),(by .show Value.str z0 _=_;rw[glued_eq_join,zA]),(by rw[<-z0,<-l];exact h _ ZL),(by rintro d st' ⟨g,hd⟩),SyAt H z0 zA rss cs,CIW base z0 outer s H,c=aN/\A33/\BDF z0,a4j ns rows sides caps,(by refine NW codeAny_mono z0 r₂ s₂ hr₂),(by show z0 kindOf ((p,w)::P.zip vs) m zA=_;unfold zB),Un oO [] H1 z0 s1.heap zA,_/\_=EA (z0 v0 (K1 ns y)),(by rw[AE z0 zA zB zC];rw[cW wpAny_call codeAny_of_tree];rw[PX zD];rw[RT ⟨Code.quiet_builtin _ FV,CJA zE⟩]),(by rw[LJ (wpS_mono (wpS_forRange (I:=z0) (Q:=λd st'=>CFE zA) zB zC (OI g zD zE)) zF)]),M2 X o z0 qO e f qM,a6f (st:=st) l c k,C5 "caps" XE (C5 "sides" II BDQ),cM s (s.heap.update a (Obj.putSet d l)) CJ8,(by rw[ABL y t C g A y t]),(by rcases hd with⟨r,e1,e2⟩|⟨e1,h1,h2⟩),(by rintro c st' ⟨rfl,l,o,rfl,f,z0,zA,zB⟩),(by rw[AD3 d k (z0 t) ws l (zA w)];rw[k.length,l.length]),FnL K f z0 zA st oc od sl kV dc pm an cd ct,(by obtain⟨oc,od,kV,z0,pm,an,a,ct,zA,rfl,lk,c⟩:=zB),List.getElem?_append_right z0,t.length<=z0,(by rw[ATZ z0]),(by rw[z0];simpa using zA),~~~b1Z,(by rw[<-Array.getElem?_toList]at z0),(by rw[<-z0,List.take_append_drop]),s.heap.FunFrames z0 zA,Option.some.inj (z0 zA),wpAny_bind (z0 zA),X.length+1,(by exact List.mem_of_getElem? z0),Int.emod_nonneg _ z0,Int.emod_lt_of_pos _ z0,AW (z0 a b),AW (z0 a c),AW (z0 b c),cK execs z0,BG x.length,this.2.2,AQ dx,(AOG).1,z0 (Nat.lt_of_lt_of_le zA zB),.str a,.own x,λz=>AF,vV-1,DI BIH,Option.some.inj h,z0 zA (zB zC List.mem_cons_self),(c i).2,BL b,Nat.mul_le_mul a z0,BC CKR,ZD qE,JN L.map,rss.take i,GI BDO,a1A mg,KN g,CO vP,env.kindOf n,sdC n,tJ nS,PU collect z0,EA A2R,WG z0 b.size,rows=[],z0 p xs.toList,Calls.spliced_nil ?_,I.ok.hd C,valueAt z0 k,cQ cs.lookup,PQ > 0,RV > 0,HR wR,x.cps[i],EH z z,a4e f,mK / 28,QD g,rSlT K,tW WS,tryCatch z0 _,Q (.int z0) H',aE f,a0d ns,a8m ns,Nat.le_of_lt hi,(by rw[List.length_cons]at a),iB List.mem_cons_self,List.mem_singleton.mp m,uA ADE,uB a4P,mY SX,CC::vs,XS hp,bA ht,(by subst z;rw[z0]at zA;exact zB),iU g,iU q,dZ I.ok.bsz z0,A2L BDO,BB1 PySem.W.emptyDict,c∈fgs.cps.toList,EH _ rfl,(by rw[Array.toList_extract];simp[z0]),ABP xs.map,APF PySem.W.emptyDict,src-a,z0 X.env.locals m,AC3 a,HX a3w z0 m,IH (VP q z0) q,AC9 h',~~~b0v b,A44 s.heap,PotAt z0 a b,ACQ (! CJ z0),uY y (BHT z0),CG5 CameS,j<=ARI,AD7 runs.length,AR3 a.flatten.length,BD0 X.A.in1.handled z0,(x,NameKind.free)∈z0,AR7 z0 I.big,NZ l (MV H l z0),A4Y hx,PM H a .dT z0,A59 .none z0,CU (A2M z0) (BCS "str" zA),CGJ List.getElem?_append_right,ARO mem,ARO length_le,CGV PySem.F.plainAttrs_str z0 zA zB,X.wish E,⟨z0,[(KO "default",zA)]⟩,AE9 sc.names.lookup,AEA z0 ss.map,KR d D.mono z0,SqL X.K H a z0,BCY k 0,tuples' true,CHI z0 D.l1z,BK y g,a b _ e,RD p1 APQ,AA8 NiO st' z0,uZ x f,A39 (z0 ns ms) s,CI3 SqL,CI3 SqT,(Sum.inl a:Key)=z0 b,(Sum.inr a:Key)=z0 b,r=.non,atKey z0 k=some zA,CIV hr,BGW setIfInBounds,HT.sIx z0 zA (some (-1)),⟨H,ZL,AG (z0 r) q⟩,CJJ zs,AAJ p (cZ p z0) vY,CK9 ms.getD,CKG s.heap.push,CKL i,I.ok.hd hc,items.size-0,[II,F0],AH B (AE3 z0),min v.toNat n,k p hp,CLP wpAny_throw,aI (0<3),nB ((jV)) z0,.str (rows i) z0,PM H p z0 [],CMS List.length_append z0,YZ p .dK qL,λc o e=>wJ (aO e z0),(AQ (),()),Kept lo st (CLN z0),(zH1 k1 z0 zA).objs.size,∀b its,APO s.heap->APO z0,Chn n most z0 L,∃n,WF e.1 n=j/\AU1 z0,CP3 z0 (d.sides++[zA]),CPC ys.getD,K w.params,Nat.le_of_lt_succ CNL,n / 10,["many","name"],["row","side"],["cap","number"],APE sc.names.lookup∨z0,(by simp only[List.length_append,z0,List.length_singleton]),PySem.Within mA z0,Meets (z0 (JY [HQ,zA])),z0 (CPV prices),seqIndex? i z0=some zA,wpAny_newObj_type (z0 zA) a,fss.any λf=>z0,(WM,CIZ),AG eL A3V,∀xs,z0->aT,∃k',GQ z0 k'/\zA,JL f j,FQ (u++[z]),sortedHeap z0 a vs zA,ANB .none (.fields ps),[(s2.heap.objs.size,ASZ)],F9 qL j,z0 λq=>[zA,ED,C6 DB],A9W g back?,hJ i aW,OQ (b2g z0 hz),aI (6<1000),QM (if z0 then j else i),(by rw[UX b xs.length]),(by refine Calls.call_function_entry z0 zA zB (zC _) ?_),λp z=>X3 SN,DA z0 ["names","words"] zA,AB2 z0 (ARI<j),EZ H' p ys,z0 ns.length m rss zA,APU AC7 AC7,a2m GY m,APY lnW L,IT H1 v r,AC8 (bD z0 zA (NJ zB zC) rfl),BBI (BA7 z0 x A2A f a A),h z0 _ ZL d,(z0 a o e).stay,.tail _ (.head _),BT x z0 y b,λi H=>∃xs,z0/\BGU,OI rfl rfl rfl,["total","row","j"],BE3 z0 rows sides,(F6 (by rw[z0,h1,h2];rfl)),⟨_,rfl,_,rfl,z0,zA,rfl,zB,zC,zD⟩,z0 i σ H hi p,a2G C m sp [],z0::(vs++dvs),DX u L (CNH z0),BFR ND OH,48<=c/\c<=57,BG4 "names" z0 [],(BEN CX0 A2A).nox,ID o (kp b o (QD z0) zA),pD h' s.heap.objs.size xs,backTo pos (starEach z0 env),CK1 X.prog X.w,-3<=x/\x<=3,["name","number","word"],z0 qL CV GW,v=.bl true,SqAt k1 z0 a xs,λv z0=>hr v (KN zA),mX typeLookup T z0=pure (A2P zA),IS O9 ns cs,(by rw[T6 ru rv.one ru]),CML "type.__call__" CM7,CN1 (LA.length+LB.length),∀i v,i<items.size->CLX->z0,BGM z0 A3U _ size,z0 (s:=BC8) J hd zA,(lk z0 n).getD 0,∃its:AN,pQ/\z0/\bH,attributeBase e f z0 zA=zB,(by simp only[List.size_toArray]<;>exact M5 z0 a),(by refine CPJ;refine K6 (X:=AOH) (l.held p) z0 zA ?_ zB),⟨ns,rows,sides,z0,zA⟩,{D with nx:=u D},["row","side","names"],TgA z0 rss cs,spLaw (K w.params),.Return (some z0) pos,z0/\0<=DB/\DB<=topN,FnOk l.prog w z0 mg,(r,b)::xs,z0 l.row.toRowW d [] (λf vs=>PySem.call f vs),wpAny_setState_of e1 f AER z0,(by rw[JR codeAny_handlers_suite];refine NW lands_againW z0 zA zB zC),(by refine call_meetsIn z0 dd.typeIs zA (nN zB) zC zD),f b _ q λz=>z,WP×qE×qB,.set es ep t,a3h z0 c h0 (CKB zA),BG z0<=m+cs.length,ws.map λx=>V.bl true,FAt C H' x ra,CMX λj=>CJ CI6,a i j t t',CFV (ASU model w.params.followText),AD2 (q H2 s2),0<=y/\y<=B,λi H=>∃xs x,z0/\aT,∃a vs,AEL/\A21 vs,((uK (z0-(a+1)) (i<zA) (KM mF i=KM mF zB))),z0 j eP ew eK,(by rw[CHA PySem.F.entry_min_loop PySem.F.plain_min_loop];rw[AD5 z0]),max (z0+FE) 0,∃a,z0/\a.length+zA<=sz+1,z0 a1Y (List.replicate hV 0),absurd hj (Nat.not_lt_zero j),A1J (CN6 k1 a/\z0),(by rw[AV9 σ xs.length AQ3 AQT z0 σ]),DW h' tk qP kp z0,z0 b o e n a,BF2 (ARA-(PQ+1)) ARA>>=DF z0,(by rw[uW z0];rcases zA with e|e|e),NI td x (∃a,IW/\IsD H1 a/\VJ ty y z0),CNI e z0 (BE7 e) (IR E e RP),⟨_,rfl,_,rfl,a,b,z0,rfl,zA,AI,FV,zB⟩,(by rw[DR z0 f1 f2 zA id I];obtain⟨od,e1,e2,e⟩:=zB),tSl z0 te tl th,((∃dx ah,aP p (gU (AA3 z0 ah))/\EC ah)),hideAll s2.heap (frs BEM),∃runs,A1M KU z0 runs []/\CNB,(ANV push z0).get? s.heap.objs.size,CKJ I1.landX hp z0 cov zA (zB zC),JN (a5t d.names AUH).tail.map,RelO.some_of (v:=v) (o:=z0) zA,envOfC qual scope s.heap.objs.size f,.Compare i [z0] [o] pos,ZO (RO+QL*1),(L9 ns xs a).map,f ABT (.int j u),AC0 (BB5 > 1) (BHJ wX) none,IsEnumOut z0 e it AE2 x zA,(by rw[AQ1 (λx:Str=>x.cps.toList) h]),(by rintro x rest z0 s' ⟨rfl,zA,hr⟩),occurrences a b 0 a.length CIS,ACG h' Heap tk xs z0 (zA->zB),(z0 BEP).take (HT.sIx xs.length xs.length hi-BEP),z.setIfInBounds 0 (.int AU7 0),IQ _ rfl rfl ?_ ?_,λi j=>HT.lexLt (rss.getD i []) (rss.getD j []),(decide_eq_false (by intro z;exact absurd (V.str.inj z) AI)),(by obtain⟨z0,b,zA,f1,f2,zB,zC⟩:=TT.2 i _ zD;rw[AX zE f1 f1];rw[BA r1 q2 zF]),Heap.FlyingW B z0 p OK a0 zA,(by .exact h.one (λ_ _ _ p q=>z0) g),CLJ (z.setIfInBounds 1 (rawInt CKV)),NF vs (J5 (z0 zA) v=J5 s.heap v),(by refine CPF;rw[List.map_cons,a3g];rw[oT z0 j]),BIV d b (z0 A2A .none kV d pm an b ct),["_law_k","_law_letters","_law_first","_law_step","_law_longer"],[LC "ValueError",LC "Exception",LC "BaseException",LC "object"],(((z0 H _ l q items).toS)),a0u AE7 ns (prices.map prO),IsZip z0 z TI TO (rawInt zA),OwnCls x C bmB qR mg z0,A2F FAt ra ca af aw z0,(by rw[DR o e c d id st']),λx y H1 z0 _ q=>COE q,BI a4V k k l p (items:=its.toArray) z0,(by refine wpAny_forIn_list _ z0 _ ?_ ?_ _ _ (vC zA)),BI EqV.flat K z0 H H (n:=0) (x:=zA),b a f A outer s H vs Q,(by obtain⟨z0,H2,c,zA,a,zB,ex,g,l⟩:=p;rw[ABV m]),BI wpAny_binaryOp_repeat_ref T z0 U "int" AI zA (λs'=>ASD s' zB) zC F.fills_int_mul F.slot_int_rmul zD F.slot_int_index.lookup,((Heap.SameBut.update ..).extBut.push _).push _,AA5 z0 X.base C m k ps sp,GC z0 qH zA CJ3 ((GC h1 Heap tk Nat (BES) (zB zC (A2L h1)))) zD,b4v (s:=z0) e c d AI ⟨zA,H,zB,zC,zD,st',λb f=>A41 g f⟩,(by rw[MZ];refine wpAny_Call_method m.base m.few m.line PySem.F.plainAttrs_dict z0 zA zB;obtain⟨x,H1,zC,zD,a,ex,d,zE⟩:=zF),SetTable.insertAt t.place A3U (pos t.mask x N),(by rw[GL d (z0 iQ S NoX zA (w a4 zB) a6 zC) eA d]),(by rw[JZ z0 zA];refine⟨s1.heap.objs.size,[s1.heap.objs.size],_,_,H1,rfl,zB (t':=s1.toks) λb o e=>WZ,zC,AQS,iU d,q⟩;rw[SF e b s1.heap.objs.size d]),(by rw[OR];rw[A3M Builtin.SmallTypes.ownedTupleIsFree (wpAny_field z0 rfl (x:=.none) rfl (wpAny_pure ?_))]),ACA items.toList.drop A2R (sIx items.size items.size hi-A2R) z0,(by intro qK s σ H D R I h;obtain⟨f,fd,z0,zA,zB,F⟩:=O.ex;rw[CIU zC]),concat_meets (LN z0) zA noFill_tuple_add seq_tuple_add PySem.F.slot_tuple_add PySem.F.entry_tuple_add (BS PySem.F.args_tuple_add_2),⟨_,rfl,p,C,dx,_,_,rfl,z0,U.cl,zA,zB,?_⟩,(by obtain⟨x,H1,z0,zA,a,dx,fs,ex,zB,l,q⟩:=zC),⟨_,rfl,z0,_,rfl,zA,_,_,rfl,rfl,_,rfl,?_⟩,codeAny z0 callerA (ATL fa CLL) (λr s'=>r=.ok (CG4 true)/\OldK s₁.heap s'.heap/\s'.os=s₁.os/\x6) s₁,(by have P:A3N CHO ANP:=JV;have hT:Shared.TypeIs (GI (BB1 ANP)) hQ "set":=LN P;rw[AE a3 PySem.F.called_set.init.lookup a0 (CLG PySem.F.called_set.init.bind)]),(by rw[CQB e z0 zA];refine c1O lk c S len λA outer s H vs Q E zB d=>?_;rw[OP t h q zC t zD q]),(by subst C;rw[JZ z0 n];rw[OE wpAny_runValue];have p:mW l:=Heap.lt_size hol;have H:A.in1.in1.in1.handled=none:=by simp[hh]),BE3 (λa b=>g (f a b)) xs ys=AB3 f map g,(by rw[OR];simp only[newExc,newTuple];rw[AZ (CMA CHG)];refine AUS (BS firstArgMember) (wpAny_of_eq (a:=Value.none) (by first|rfl | (simp only[firstArgMember];rfl)) ?_);refine wpAny_newObj_type ?_ CHG;simp only[raiseNew];rw[OE wpAny_handled]),∀(qK:DC) (s:qC) (σ:St) (H:Hp) (z0 zA:V) (zB zC:qB) (Q:VK),zD,∀(i j:Int) (t u:Tok) (s:qC) (Q:qH) (E:qH),z0,List.mem_singleton.mp z0,List.mem_cons.mp z0,List.range z0,Value.ref z0,List.mem_range.mp z0,KeyOrd.kle_of_klt z0,Nat.lt_or_eq_of_le z0,List.count_eq_zero.mpr z0,z0 vs.toArray,s.heap.objs.size<=z0,L.length<=z0,x.length<=z0,z0=.function,(by rw[ZE z0]),(by rw[BA3]),(by rw[BN1]),(by rw[BN3]),(by rw[Int.toNat_natCast]),if z0 then BJO else zA,this.1,N.hL.1,(by exact PassesOwn.never),! o.isSome,(by rw[Bool.and_eq_true]at z0),X.env.scope.kind==z0,z0≠X.env.locals,show CRN from z0,⟨u.slots,z0⟩,(by simp only[Bool.and_eq_true]at z0),(by simp only[List.length_nil]at z0),~~~b9g,(by dsimp only;rw[iN ?_ c]),(by rw[<-Array.getElem?_toList,z0]),(by try with_reducible rw[BJZ]),(by apply Array.toList_inj.mp),(by simp only[List.length_cons]at z0⊢),(by dsimp only[Option.map]),I.hok.fresh (z0 zA),z0 (Heap.lt_size zA),qA WData,t.mask+1,A.length+1,(by exact List.mem_map.mpr z0),List.Perm.append_right _ z0,Nat.mod_lt _ z0,Nat.mul_le_mul_right _ z0,AM sl,AM sa,AM GM,(by rw[AD z0 Bool.false_ne_true]),(by refine List.nodup_cons.mpr z0),AW t.plain,BG mm,BG v0,BG A3F,(List.getElem?_append_left (by rw[z0])),(List.drop_eq_nil_of_le (by rw[z0])),(z0 (by rw[z])),AG List.length_append z0,AG List.length_set z0,EY s.heap.get? z0,EY h₀.get? z0,AQ e,AQ outer,AQ at_,AQ sm,Value.isStrOf x z0,qD Str,LC "str",LC "frozenset",BZ its.size,BZ ns.length,WC KG,TZ UInt8,BS .n,BS .x,BS b2S,BS S1,jv 8,DG eU,DG CNN,List.getElem?_eq_some_iff.mp a,SqT.of a,beq_iff_eq.mp a,V.ref a,r.get a,Nat.min_eq_left a,List.mem_range.mp a,Z8 e,a2S e,List.mem_of_getElem? e,Option.some.inj e,SqL.of e,s.upd e,Option.map_eq_some_iff.mp e,b.erase x,lo+XI,i<ys.length,i<es.size,i<x.cps.size,λz=>CZ7,xs.length-1,vs.length-1,ss.length-1,A4E-1,PN sizeLine,DI BM1,GP s'.heap.get?,gG aJ,gG AG4,if_neg b,List.mem_of_getElem? b,.str b,h.get? b,List.getElem?_eq_some_iff.mp b,List.getElem?_eq_getElem b,s1.trans b,.inr h,List.getElem?_eq_some_iff.mp h,SqT.of h,I.list h,I.tuple h,List.length_eq_zero_iff.mp h,EU L,BL m,BL e,BL hs,EC af,CJ uN,DY PySem.W.handedIn z0,DY z0 ((· < 128)),FB nt,2 ^ a,NY List.drop_eq_getElem_cons,NY Nat.mod_eq_of_lt,NY F.mono,NY BNI,OB mU,BC e',BC c',FU m,FU AW5,ZD Nat,ZD Str,ZD (A1A V),JN l.map,I.tuple i,mergeAt' i,GI h1,GI (k.update a z0),DF AVV,j<owner.size,HK fs.length,HK vs.length,HK items.size,HK f.length,(by .rw[AD List.mem_singleton z0]),(by rw[List.getD_eq_getElem?_getD,z0];rfl),(by rw[List.take_add_one,z0];rfl),(by rw[z0,List.map_append];rfl),QZ O.α,PR items.isEmpty,PR (Bar F z0 j),IB s2.heap.objs.size,IB ar,FX h2,FX e1,FX e3,.str z,List.mem_iff_getElem?.mp z,List.getElem?_of_mem z,CO e.symm,a3c n,0<xs.length,0<vs.length,0<a.size,0<v.length,List.mem_singleton.mp y,xs.push y,s1.trans y,UB r.map,tL s.heap.get? z0,HP BKR,HP BLQ,EQ z,EQ fin,kV k,MM SetFound,(by have:=List.length_filter_le z0 zA),JQ "tuple",JQ "range",JQ "min",JQ "int",JQ "set",(by rw[OE wpAny_letGo]),I.list g,I.tuple g,I.ok.hd g,s.upd g,OG h2,1<=x.length,intKind P w,rSortS P w,rLenN P w,cN ms.map,x.cps.size<=i,mC (EZ H1 p z0),(by rw[DO z0 Int.toNat_natCast]),A9I PySem.W.emptyDict z0,i<=es.size,i<=mask,s.heap.update p z0,f _ rfl,MQ o.dict,ns[i]?,xs[i]?,wpAny_setState_of z0 zA zB ?_,sc.names.all λx=>z0,JU hx,JU e1,JU hn,KQ aN,gN ys.map,I.ok.hd p,IE ns,IE ps,ZK PySem.W.nsOkIn z0,IF C5,IF O9,congrArg z0 e,hy.same s2,HR s,HR ?_,HR c.kIn,HR AW8,List.mem_of_getElem? d,Nat.ne_of_gt d,s1.trans d,t.length=n,ZM d.hok.fresh,cU "line",xs.getD j 0,(by rw[UJ Nat.lt_of_not_le z0]),lt x y,KA z0 List.append_assoc,(by rw[List.foldl_cons]at h),b∉X.ex,b∉AEG,Nat.le_trans z0 h,GX Heap.get?_push_ne z0,I.ok.hd f,P.length+i,L.length<=7,m<BG qL.length,IG z0 List.append_nil zA,MY "tuple",MY "range",MY "min",MY "int",MY "set",k+j,n+j,OJ b2H,OJ b9R,OJ b2h,QB AFR,LH x p,A9R SW,A9R BLI,mG LP,c≠s.heap.objs.size,c≠48,IJ a1.trans z0 zA,QD I.ok.noex,QD B,gallopOf s,rIxL K,rJoinT K,rInN K,WQ c6b,WQ c6d,WQ c6c,(by rw[LS List.length_append]),Q BH3 H,NE hx,NE h1,NE e1,m<=ws.length,aD beq_iff_eq.mp z0,OQ hl,WV bI,HA (z0 a b),Heap.IsSliceOf.new ..,aE b,aE h,ID o WZ,srt.filter λv=>z0,b.filter λv=>z0,aF AR,aF ASO,XC "least",XC "too many",owner[j],aG List.drop_eq_nil_of_le z0 zA,A1V x5,AA2 h₅.get?,aH b0K,aH b0L,aH a7B,aH a6k,ws.eraseIdx j,b∈fs,b∈X.fs,iB (KN ASA),h x hx,QM ys.length,QM z.length,HX a3w h n,dF List.length z0,dF Prod.snd z0,SE List.take_of_length_le,SE d.set,CEU z0 "__init__",uB a4h,uB a4g,A23 G.mono z0,A23 S.mono z0,k<items.size,¬(CWM),Nat.lt_of_lt_of_le z0 FV,(n,NameKind.free),mY A4M,AO5 st,mZ "sorted" z0,OX Hp,(c,[]),UZ z0 "_law_script" zA,UZ z0 "_law_pot_here" zA,BAO its,uG l,VC hp,dN qN.length,dN t.length,z0 (of_decide_eq_true e),A26 l,SO z0 zA "_law_pot_here",A27 s.heap.get?,A27 K.lookup,iL h0.get? z0,AAK H1,G2 srt,Int->V,FF->V,s.heap.objs.size<=a,dR fl,aX args,aX (z0::vs),.ok (vts z0),VF A24,EY X.H₀ b,nH es.size,bA ha,z0 mask i pt k,AOD z0 items,nJ Unit,nJ ASO,C6 2000,C6 ED,fs.length<1000,n::t,VL e,VL List.map_map,(by rw[z0,Nat.pow_succ];omega),XU z0 zA "_law_pot_here" zB,TJ ws,BAY C s H ex,(by rw[XW (List.mem_append.mp d)]),(by rw[XW (List.mem_append.mp m)]),rawInt 0,iZ List.mem_filterMap.mpr z0 zA zB,.str w,a0d ws,A2H d.names.length,A2H hV,A5Y::st,p≠af,p≠aw,AB0 s2,.Name y m,AOI isFn,Lst rss v,XY CVL,eD "word",eD "sign",uZ "TooMany" z0,eE "rows",eE "caps",jF lk,AOM AEP,eG "join",eG "index",BB0 s.gens,BB0 g',eH true,eH false,eH none,bL hm,B.StaysIn h2,s'.heap.UpToSlots h2,λj=>CUZ,(by rw[bO List.length_map z0]),(by exact decide_eq_true h1),eM c0v,nY row,nY CL1,nY BJR,jJ (eM a7q),HJ p BE5,Kept lo z0 a,A2Q false z0,BB6 wU,AOW (z0 b t),oF "number" z0,AOY D.lt,c∈BO3,v7 c5H,v7 a3D,TW qB qB,EH _ 0,CFC Nat.ne_of_gt,ABD CMO,CQ 2 sc_read_term.nd z0,eT ATS,vD [FE],A2Y ARV,DGet H a z0 pG,BBI (CES CX),BBJ take,A36 α,A36 qB,A37 ts.length,AW (AOP bmB.contains z0),jY "rows" z0,jY "caps" z0,ABP CVJ,APF ASN,BBT x5,APL Nat,APL Bool,A1Z (mM xs.zipIdx z0) AAV,A3H CM8,kC xU,kC AGI,APM ns,APV a0,APV sX,i-vs.length,i-ps.length,y∈Ls4,z0 scope env,z0 _ (List.getElem_mem zA),kG hl,AC2 hn,~~~a3D i,vS a5N,d.kept (t':=z0) zA,LA.getD i UR,LB.getD i UR,LI M t Q,ZF E9 1,APZ ent,AC6 wpAny_letGo,IH CXR q,AC9 h2,A3S 8,A3S 26,vs.any λz0=>CJ (zA=k),kM BMG,Heap.SameBut z0 s.heap h',AQD "tuple",V.ref GM,xs++zs,x==bN,pW e4,ACM B,~~~c0H b,~~~a1c b,wM M,A44 s'.heap,(List.mem_replicate.mp z0).2,gH ks.map kV,KM qQ k,wQ (bM (z0 x hx)),A48 g,A48 (A48 hj),ACQ (if neg then z0 else zA),RelO o u,ACS RG,c5v rss z0 j,A1P rfl (EQ C),QH E3 x.toNat z0,QH E3 1000000000000 z0,CFY its.length,iP u mU,CFZ xs,IntsAre items.toList ns,A4C Bel,A4C dot,AAY l AEX,A4D ws,ACZ "tuple",CG6 rss,CG7 ws.map,λh=>ABZ,na-k,AR1 ((AO)),(λx z0 zA=>by rw[<-zB];exact zC x zD),j<=qQ.size,AR2 CS,AR3 lo,A4I w.cps.toList z0,BZ qL.length/\z0,xs[B]?,xs[CYX]?,A4L nE,A4L AEP,AD8 names z0,(by exact Nat.le_refl _),xF b7,D4 a2X 1 z0,BD4 Nat,BD5 true,BD5 neg,A4S ib,A4S KC,RA b ys,RA b CN3,ARF (z0 (f x)),xO sep,ZK PySem.W.plainOver C,A4X (i++j),aP p (BBB z0),BDD APJ,BDD BKN,xT "set" z0,ADU (z0 K t),ADX qN,CGU Ok,CGW α,ARZ 100000,WS<=oB,T="int",T="str",p::p2::r,(mO).size_eq,BE1 z0 zA List.map_map,∃z0,WB h1.get? zA,CW2≠x,i != 0,(s.heap.update z0 zA).get?,~~~a2q f,AE4 hl,AE4 .nil,CB σ dD,b8l K c,(by have z0:zA=zB:=by rw[JP Array.length_toList zC]),(by .exact Nat.le_refl _),(by .exact Nat.lt_succ_self _),GQ env.cells.lookup a,h y List.mem_cons_self,HJ l (JN ts.map),AS9 x.toNat,A5W ws.map,gK "tuple" .seq z0,GU items y,AEE at_,AEE LY,ASE F0,(by .rw[vG ys];exact hd H' p s hp),BER out.names.lookup z0,BEU h',BDY PSs z0 A29,AT2 jaN,Bds sides,V.bl true,b3E te,St->CRA,∃c∈y.cps.toList,z0,(by rw[AFG List.length_append]),(by rw[List.lookup_cons]at z),AFJ (0<vZ),show CY1 from b,D2 X.env.kindOf EN z0,(List.mem_filter.mp b).1,BK y hy,hR x hx,(by have z0:zA=zB:=by rw[ACH zC Array.length_toList]),dot a c,ATF PT,ATF PW,λi j=>i++j,A1C _ (AAL (CUO z0)),CQ 1 sc__law_pot.nd z0,AG0 ?_,RD p1 AUW,AG2 kp,(by rw[CHM z0 List.foldl_append]),BF9 s.heap.IsList,hJ x' z,BFD g.lv,CHP A1U,Kept lo st' z0,nT u s',BFJ AB8,BFJ BLO,BFJ BLP,AP8 s.heap.get? BC5,A39 BOD s,k it AJ o z0,c0<=OS+ib,BC7 c.map dI,AUD fitsIndex_both,AQK b ys,BFK d,BFK e,BFK h,AUJ (z0 K tl),AUJ (z0 X.K tl),AUM AGH,AUM AX0,BDB σ' v,(by rw[AGQ];obtain⟨_,_,z0,_,zA⟩:=AXE zB),vH bk D7 iI,AGR (BDZ (dG<=o/\z0/\zA)),AT1 AA7 z0 F.slot_tuple_iterator_next,AUQ "sum",AUQ "=",BFT (z0 σ H (zA R)),AGX OW,a 0 [] H1,.bl (g i j),AUY (QY A3E),BFY n,AV4 (UE σ'),AV4 (z0 σ' H'),BG7 (DP t),BG9 r.map,PlainAttrs T,k<=xs.length,lo<=hi,x.length<=20,n.length<=20,q<hs.length,s₁.gens=#[],AVA OH,-(eZ),AVB (((F7 mask c).map (·.1))),Nat×Nat,l≠s.heap.objs.size,H b≠none,H' b≠none,⟨(z0).1,jO (zA).2⟩,AOG∈D,l[AWL],l[l.length-1],Slot "set_iterator" z0 zA,MtR X "str.join" z0,h.sorted _ AJ,h.ne _ AJ,(by rw[AD List.length_cons (lq z0 zA zB)]),HM h.get? z0 λo=>zA,(decide_eq_false (by rw[u0])),AVH Nat.pow_pos,~~~c5O u,~~~c5D u,eqU x u,.inr (Nat.le_trans z0 zA),Q (! c) H1,CB L a,CB L qN,rIn K true,PSs X st t,BGP aN,HY vt xs,a2Y z0 (jv 1),(by rw[ZG hz 16777216]),Itr lo n,AW7 OK,ZV ch ARY,b i σ H,h u hu,hL u hu,BGZ t.map,BGZ r.map,xs.getD i 0=z0,dE n v,dE n k0,XG t CXF,AWH h2,AO0 (BQ (i-j)),Lim rss cs m',AWJ ia,AOD h' xs,AWP CLC,AWV BKQ,SlR X (z0 K),IxR X (z0 K),⟨H,ZL,q⟩,AX1 10000,ACX u e,AX7 jG,Rs cs.length rss,AXD na,AXF CWO,AXH "len" z0,CJQ outer z0,AXL as.map,AXN CYY,AAJ p (aP p z0) vY,CK5 zs,A2O h' i n,CK7 A9O,NoAttr X.K C f,CKJ I1.land,BIW r1,List.mem_of_getElem? e1,List.mem_range.mpr (AU z0 zA zB),α->β,qB->BH2,λm=>xs[i+m]?,BIX 100000,BIY GM,CC::j,W++L',s % (vZ),A4E % 10,[AUP,d g],[AUP,g d],(by unfold SetTable.turns;omega),y≠nP,S∉fp,S∉wr,32∉x.cps.toList,j∈StP rss cs u,ADB ≥ mg,ADC ≥ mg,argsOk z0 (JY KG),(z0 a).isSome,d _ (j.mem_iff.mp B),AH J hp,BJB hd,CKY F,CKY E,AH I.sm t,BJC n8,BJD h1,BJE List.length_take z0,jaC BKC OV,EK Nat qB,EK Nat ((OX z0)),(List.mem_filter.mp (z0 zA)).1,(List.getElem?_eq_some_iff.mp a).1,(List.getElem?_eq_some_iff.mp h).1,TW Int Nat,TW Nat Nat,BK r l,h2 x b,JK (MV H h'.objs.size z0) zA,c8M K ta,c++[BKO],(QD I.ok.bs).2,DJ A3E ACP,DJ A3E (tC v),EH D D.typ,LH e p,PGs X es t,JFs X es t,BJT qQ.toList,λx c=>(z0 x c).2,z0+k<=lb.length,LL fs F,LL fs fss,(by .exact FP z0 (a3E (by rw[BOQ]))),Value.int n t,RA p AUV,RA q AUV,λx=>lt' y x>>=z0,GU xs v,GU xs z,WF WM AEK,WF WM (d+m),BK1 20,ZJ x z,ZN p BJV,BK8 hp,BK9 List.size_toArray z0,BKA ts,WK GY ps,IH CTU e,ZR l fs,ys=[CC],ys=[FZ],λb c=>b++c,BAA CNT BDL,BAA CNU BDL,BKD A0,NF z0 (AR2 row.length),BKI s'.heap,iA MS (o++[x]) z0 zA,¬(AC5 CLO),(a3S a j).z0,CLZ r,CLZ .nil,d q List.mem_cons_self,BKU UQ,SZ F (AR2 cs.length),iW l A53,BL4 "dict.get" z0,BL5 vA,BL6 v3,CM6 BMB,CM6 BNE,vK a "dict",vK a "set",NI ta x (VJ tb y z0),ACI hV 0,ACN b a,ACN dx a,∀l,A46->CJJ ys,(by rw[RT ⟨AEJ PySem.F.plain_min_loop,z0⟩]),ON/\ABI BG5 COD,ON/\ABI BG6 COG,z0 λc=>A4A BL3,CMV ys.length,CMV zs.length,BLR hs,BLT z0 (Q x RP),BLX fss,BLZ "__init__",BM0 xs,z0 (f x y) H2,PG X tg g,JG X tg g,AFX v B,BM6 vs,AGA t ht,BM7 c.map,AGN p i,AF8 a _ (UM k z0),AF8 a _ (BJ6 (UM k z0)),b7e td ty tx,b7b td ty tx,A3K H I (z0 (uV zA h)),(by rw[CND wpAny_loadPart_at z0 zA]),(by rw[CND wpAny_isSubtype_exc z0 zA]),c5o ta tb,c8N ta tb,BMK K5,z0 K R vs H1,Txt.split a b=z0,BMM (I m z0),CNJ "tuple" z0,CNJ "list" z0,Inv j [] iQ z0 zA,BH5 cd x,BH5 cd qn,BIF z0 it AO,BMX L'.filter,(by .rw[BMY z0];rw[AF5 zA];rw[List.getElem_zipWith];rfl),BMZ (A4C lexLt),c5m td ty,b7f td ty,BN6 name,rSetT K P w,rSetS K P w,CNZ s.heap,BNA most,CO2 CNT,CO2 CNU,CO5 .IfExp,CO5 .If,wA PG tg g,wA JG tg g,BO1 tT,COJ KU,COK 0,COK 2,BO4 BM2,COX Z8,COX a2S,BOF nn,CP4 mF,CP4 KU,BOJ (z0 X.K H p xs) zA,CP9 qn,CP9 qual,BOO (BG2 base) z0,(λb u e z=>by rw[z,z0]at e;rw[CP]),CPK AOH,CPK CTK,BOT ?_,BOW s.heap,CPZ min,CPZ max,CQ2 "get",CQ2 "setdefault",tC .non,qN.Perm rss,a6y hj,qN.map vt,CQD 488,vs.length<2,xs=CVQ,o.data=CXU,KM (COJ qQ) k=z0,(by rw[<-Nat.add_assoc,z0,zA];rfl),ZP/\KW,⟨r,h,z0⟩,(by rw[NL,BEG h1.symm.trans]),∃q,CLQ q,(by rw[<-Array.length_toList,z0,List.length_map,zA]),CQJ X.base z0,CQL wpAny_holding z0,(y0).foldl,(hy.same z0).snoc,f _ AF,kk _ S,CQP hm0,.tail _ CW9,W.sub _ h,CQQ HT.lexLt,CQR HT.lexLt,CQS HT.lexLt,AH X L,CQT sts,~~~a8K p,AG e' (XQ z0),EK V qB,CU A3E (tC v),CU value tv,(List.mem_filter.mp z).1,BK i hi,BK z b,BK zs O,g x I,lo+BGS*1,λz=>(z0 _ z).2.1 rfl,us++[y],ss++[mQ],D++[t],(c4d c).2,DJ value tv,AU z0 hl hm,NZ it s,(by rw[OA wpAny_pure (AC6 wpAny_bind)]),gJ (z0 b nb) z,RelV y v,DA jD jD z0,HJ c o,ML ys its',(c4d c).1,L r d,a t List.mem_cons_self,Rs3 n rss,RA c xs,lk c n,WG KC 1,CRM OH,Good st' a,ZN x o',GX f c,GX a0g e,ZV oO vE,WT c WH,A1N 2 b9m z0,QC o a (jS (UM k z0)),XD a8C c,KR c G.mono (jaC (ANX 4) XA),(by exact Nat.ne_of_lt (Heap.lt_size z0)),¬(A4U items.isEmpty z0),QO S.mem r,aP t (CGY ns.map),uE z0 [] {args:=zA},AAA OK f,AAB a1m z0 A6,n<10 ^ 570,a1m eU A6,SZ L (ADD cs.length z0),AOC BMO m,absurd h ATA,XT S.mem r z0,uT us ds,CSL I.sz,nX c tc,AB5 .In o,jM b a,r++[-s],ABK HeapKind κ,(by rw[CSQ List.extract_eq_drop_take']),EE (compareOp .Lt z0 zA),vO D.mono BH8,CSU s.heap.Ns,rU λi=>BQ (-i),~~~b2n hw a,∀x,dP a.toList z0->zA,vW (GI (APG s.heap.push z0 zA)),wA PE z0 te,A5 h1 I,A31 ld s.heap z0 xs,JI X tg l (z0 K tl),CT9 names,CTA b0P,ADA ns.map V.int z0,mV (F5 (z0 c) f g zA) b.h d,JI X tg b z0,CTD AWZ,CTF "join" z0,D4 Z0 4 J7,~~~b2z a e,CTN sa,CTO BH8,A65 x C,kI 2 z0 E4 jaN,CTP xs,ASU D5 is,CTS k.extBut,a σ H,~~~a8H g c,Sgs H ss L,UY atI xs z0 v,CTY lexLt,z0 λb o e=>AC3 i.bs,CU1 Sum.inl,CU2 Sum.inr,(by rw[BGC _];rw[iN (A5E d) r]),IsPair s.heap TI z0 zA,BGG AGK quiet,PA X ZH ta,z0 K hu ZX YC,AVP z0 (Bds r),V0 x.toNat c a,(by rw[AX6 h.sorted hs.drop z0]),∀q zs z0 H',BP->BEK->zA->zB->zC->oR,CUA CN5,AY2 L8 z0 c2p,∀j∈AXB,AVU,BJ8 CM4 ts,((A3Z (AW z0) BI9 (iX zA))),CW->CW->LqA,OpR X f (AO0 z0),CUH hp,BK0 (OS+1),JA uD LD t,(λi σ H' _ z0=>by obtain⟨_,_,_,_,zA⟩:=zB;rw[A5P zC]),CUM hc,pD s.heap S D,hiD a b na z0 zA mg k BHI,CUP DE,CUT AYG,BMA N x,BMD c xs.length,BN4 xN A5B,CUW CRC,BNV AVX h.get?,CUY (d.rows++[xs]) z0,CV6 CTM,CV8 ((fs.map (·.1))),c6q ty td,CVA lnW,CVB xs.length z0,JGs X es u,CVD BIC,J8 K (E4 (jaC A6 XA)) z0,ln x [QL],z0 D R σ H0,CVH scope.names.lookup z0,(by have e:lts.cps.toList=z0:=by rw[lZ]),Chn n c z0 L,c7t ns zs z z0,a3K f y fs,CVT (j<i),ItAt k2 z0 g l (p+1),qK++a5z fp z0,CW7 f,a6d z0 h1 wT g,CWE CS7,CWF N6,AG7 z0 f k CS,(by have e2:L6 env cs z0=zA:=by rw[oH L6 zB]),a0Q hs e y a,CWR CIX,CWV putK,CWX s.heap,CX5 CSC,CX6 es,CX8 AYE,CX9 (z0 s.heap a its.toArray),CXH A6C,CXJ e,CXL CV0,CXO ?_,CXV xs.length z0,(by rw[A5M v z0 rv q2 (a.after c)]),CYB (BOP i),CYG I.base.free,CYK CMQ,CYR APN,CZ1 z0 d.objs.size,CZ6 r.drop,CZC X.stack z0,(by rw[CZD (p.trans q.symm)]),CZK Walks.list,CZM z0 h₅.objs.size,CZN base,CZO true,CZY MethOk,D06 toArray,D0C A4Q,(by rw[D0F wpAny_pyIter_list]),D0J (z0->AUY CYZ),e z.symm,.dK BH0,I.tok tk,c8O tA,Nat.le_of_eq (BS z0),Calls.spliced_cons (thn (AXJ z0 zA zB) λzC zD zE=>CRP),a1O CIG,c5l trs,a5r h1.ne,c5W tl,L.map (λt=>BEI),fre qN.length,LqE->LqA,Obj->Obj,Params->qF,CW->CW,hs.imp_of_mem λ{x y} z0 zA k=>?_,F.ok S len z0,X.flatten.length+ra.length,qV+(AX2+n),v0-A3F,d.rows.length<=5,v0<=A3F,vV<=2*n,sysModules<h.objs.size,v0<A3F,vs.length=as.length,sides.length=rows.length,ED::DB,A5Q::args,AVL::j,LA++LB,AV7++BAP (FQ CZL),(by rw[List.map_cons,z0,zA,zB,zC]),(by rw[CTG,<-DE,z0];rfl),(by rw[List.contains_cons,z0,Bool.or_true]),(by rw[hj];rw[BCZ]),y % (vZ),0 / 32,if z0 then y else x,Nat×A5X,Str×NameKind,[nP,n],vQ/\L=[],∀l,P l,∀H,AQK z0 AW6,(by rcases z0 with⟨qL,zA⟩|⟨qL,zB⟩),(by rw[List.any_cons,List.any_cons,z0,zA]),(by rw[List.zipIdx_cons,z0,zA,List.filter_cons]),ys[C]?,(by rw[List.take_add_one,z0]at zA;rw[BW (A5I zB)]),(by have f1:=AutoSeq1.idx_int),(by simp[sliceBounds,HT.sIx]),(by unfold KeyOrd.klt;rw[BNM]),e≠it,(by obtain⟨_,_,_,_,e⟩:=x),(by obtain⟨_,_,_,e,_⟩:=x),(by obtain⟨_,⟨_,_,_,e,_⟩,_⟩:=x),show z0<=zA*zB from CR8 BO,j∉xs,CJE e'.1∈z0,(by rw[<-z0];exact List.mem_of_getElem? e),(by (obtain⟨_,_,_,rfl⟩:=z0;rfl)),i ^ j.toNat,(by dsimp only;rw[OA wpAny_bind (uU wpAny_askSetting)]),(by .obtain⟨_,_,z0,_,dd⟩:=zA;exact dd.typeIs),(by with_reducible rw[JZ wpAny_loadPart_at z0]),⟨z0 K b.h a⟩,l ≥ r,(by split at h0<;>exact h0),[dJ,FB g,z0],(by injection this with this),(let ⟨z0,q⟩:=st.en;zA),(by rcases z0 with⟨rfl,zA⟩|⟨rfl,zB⟩|⟨zC,zD⟩),seqIndex_neg A64 z0,Int.mul_le_mul_of_nonneg_right z0 dX,z0 zA (its.toArray.size-1),((EH z (AAN z))),List.append_assoc (la.take z0),es.toList.Perm (xs.map z0),Str.ext' (Array.toList_inj.mp z0),z0 (prices.map prO),(AWD).join,(CXZ).filter,z0 l=Option.none,min k xs.length+1,(failedOf z0).isNone,z0 X A3E (B0 i),AM (CKI z0 objs.size),D2 scope.names.lookup bN z0,(by refine wpAny_Slice z0;obtain⟨zA,zB,zC,zD,zE⟩:=zF;rw[evalPart_none];rw[oN]),AW (BMI plain),AH e h,AH a5 e,(by exact wpAny_bind (m:=BD2) z0),~~~c0V Z,AG List.size_toArray (M5 z z0),FP dd.mapOf BOG,EK Int Int,EK wN wN,CU c tc,CU f tx,~~~b2A h1 z0,~~~b2y hn z0,~~~b9C hul z0,TW qB (V×qI),BK l hl,BK _ _,.str x _,inV x xs,z0 (.cons zA .nil),BZ (BB3 sep ys),I.turnedL (ch:=z0) zA,z0 (env:=X.env) zA,JK H2 s2,Q .non (RD l z0),CB x.cps c,RelV i iv,St i s,λz=>absurd z z0,(by refine wpAny_holding (wpAny_bind z0)),(by refine wpS_bind (wpS_reverse z0)),z0 X.prog X.w a zA,ds++[cu1],DJ c tc,DJ f tx,(by .exact Nat.mod_eq_of_lt (by assumption)),(by .exact z0 (AUD intBits_le_64)),JL w.params.followText "set-order",JL tooLong (((l.map (·.1)).toArray.foldl (·+·.length+a.length) 0)),DY c5R c,FQ (HM (BEE z0) t λ(PN i)=>RO),L7 b j,z0 b (AG ex l),0<=v.getD j 0,EH j (0<j),Obj.putSet j H,rss.getD j [],ws.getD j Str.empty,L.set j x,(by rw[CM z0 List.append_assoc (ACJ zA)]),(s1.trans s2).upd,BC (AVM z0 e.trans),BC (λe:g=f=>z0),ZB a1X T.b_isinstance z0,DA ATV ATV z0,.int k s.toks,xs.set k z,a0v k e,lexLt k j,s.TypeIs v T,ML xs its.toList,HK (A4D ADR),FW r CWT,UnR X (unaryOp z0) zA,N3 s w,DS x' c' z0,I.hok.fresh (Nat.le_succ _),c1U r jQ,dot r v,(by rw[BW (List.mem_append.mp t)]),(by rw[BW (List.mem_append.mp l)]),(by show iV z0;exact decide_eq_false zA),s.heap.IsTuple t items,EA (HT.sIx n z0 zA),EQ (OM v BKW),MM (qB×AN),(by rw[OE wpAny_newTuple];have z0:zA=s.heap.objs.size:=by rw[zB]),EE (z0 8 CC),.set S n,a1k I.hok n,a2m z n,z0 (λl=>h (_::l)) n,(by rw[EV (lt _ z0) (~~~b9a)]),OG (XD U5 f),CWI E0 ta z0,GU ns n,WF BNT q,λv _=>CWW,cO AI h2,getElem?_pos qQ _ z0,b p List.mem_cons_self,LG h s H _ I hw,(#[y]:AR).z0,Srt rss a,xs.countP λz=>BI8,z0 λz=>I.ok.exfs zA z a,tIf tA ta tb,CU (.BoolOp z0 iM pos) tb,ANH PySem.W.takerIn C z0,RB v CY3,h z jK,B z hm,tN lexLt z0 [],ZJ z x,argBest CZ9 k,L.val j q z0,A1F b1I o,Nat.le_trans (a4i xs lo hi) e,a0v l e,c5u ok e,[(f,v)],E e s',.Expr e pos,((BKS∨BKT)),PY s₁.heap.get? AY4,argBest B j,List.all_eq_true.mp z0 x t,ZO (i+n),u=Value.type n,A1I (A9Y CFQ),a5z fp h,st0 mask h,N5 rfl T.b_range z0,MW CRT (CYH z0) zA,GX a3m (List.mem_range.mp hi),(by rw[F2 z0 List.length_take c5G zA]),RelV o ov,ipI λi j=>i+j,frs (AO3 d.heap.objs.size::outer),ZR b zs,A9Q (uD).A,ZS PQ (2*PQ+1),(by rw[LK (by rw[ZE (decide_eq_false p)])]),Off z0 H1 H2,tV ptW L,g-BG G.length<0,QF (A4 z0) A0,aC hs₈.extBut z0 hs₇.extBut zA zB,min 0 1,getElem?_pos z0 i hi,V NK _ _ z0,cZ t zs,WV (gH cs.map cV),WW List.getElem_mem z0 hi,UT f m,TY MethOk base C z0 zA ps sp,(by .rw[u5];rw[A35 (a0E T F z0 CL4 zA)]),(by .rw[u5];rw[mR (AK q (A34 z0 j e) l)]),aF (AFA CM8),UU F1 h0,xs.getD m 0,Value.int BED t,dictSetDefault d CC z0,aG z0 h List.mem_cons_self,hY BsP z0 (n,t),XG u D,XG W m,(by .rw[XH];rw[AY CSP rfl]),Ans rss ys,compEnvC scope z0 zA X.env,IsTup s.heap t z0,(a.extract i n).z0,(Nat.toDigits 10 n).z0,ANZ (.seq its'.toArray a),RD p (xs.set j v),aP p9 CRB,(h.update a BDM).z0,[AM g,BGL],[AM ra,aW],aU p1 CLH,if_neg (Ne.symm e),dP R k,dP qQ (base+i),AK o (J6 P z0) zA,SqK k K H p z0,b.getD 0 UR,a3e 0 qN,Came rows z0 f,a7z (BLU a),(by rw[e,List.mem_range'_1];omega),(by subst z;rw[z0]at e;injection e with e),.List es pos,RelV GW DB,V->V->Bool,iT .BoolOp z0 xR zA,iW p3 CIE,iX (ZS (LM+1) 0),A2D (a0K (U6 z0) zA),dY a (t.length=n/\z0),SetTable.insertAt xs z0 j,AAY p AEX,AAZ PySem.W.tailIn CZJ z0,AK q (CUR z0) A0,jB (eM b8R),jB (XD b2w d),s.heap.push (gK "list" .seq z0),A2O z0 s.heap.objs.size 0,λDe σ H=>tx De z0 σ H,BAU swapsWith e none,CF8 (z0:BN).length,gI g d,.int (g i),kf (z0 i UR),CJ (a.length<b.length),CJ (strKind a<strKind b),r x H Q,jJ (XD b2q l),EZ H4 p AV7,a1Z lo LM a,dpO lo XI a,oA z G,bP z0 (KR l B.mono (WN (AT2 (UO zA zB (DG zC))))),bP z0 (b4n BMQ A6),bQ 5 b9j,oF "sign" (b4m (jv 0)),z0 λz b=>h z A2K,(by rw[vB z0 (nV wpAny_newObj_type (oQ zA _ ATP zB ?_))];exact q),vD (a3G p q),ABG "range" KG,BBF e CLM,(jW (λq=>nomatch q)),jW (λz:z0=>zA (V.str.inj z)),OT h2 DE,KD*(2*u+1),ws.foldl N3 s,z0 CF rfl A5N,vH semi z0 vt,jZ GW U,lS σ1 H' (AC9 z0),(by rw[oY z0 its.toArray.size zA List.size_toArray zB]),EE (z0 ATB name zA),pB (∃o,z0/\CO6 o.data),BBU B.mono XA,APT (A2F DkAt ns),(by rw[ABX PySem.W.kitx_list (LN h1)]),a4C ρ r,z0 (kf x) (kf y),kF C COT,a0e z0 none (some zA),~~~b9T r0 a,I.kept (t':=s.toks) z0,IH (I0 q a z0) q,kL r.mono (EG 0 z0),w9 CMul (i*j),(ATS)[AO]?,(by have f:=tc_notTuple;unfold excMatches),(by have z0:zA<=zB:=by rw[C3,pV (HY Str.ofString zC=zD)];rw[DN zE zF]),z.sameBut hs (cne y c e),Prs H' z0 (R9 ys) zA,z0 S len λa=>b a f,h qK _ σ z0,~~~b8X c e,~~~b9Y c g,~~~b9O c p,C1 (L3 K z0),c0Y o i j,ACQ (b && ARC L),UL ["name","self"],AQP a8P T.b_int z0,A4A (eB AS6 0),h1 x c q,NI t xs (bH/\∀p,AOB->z0),qY "zip" "zip",UZ ["word"] "word" z0,AQX a b',AD1 "told" b1q,AD1 "paper" a7W,AD1 "ended" a7Z,AD1 "whole" spWh,(by rw[AD5 (updateSeq S z0)];rw[OR]),BCU s.heap .none,xB a0u O9,(by rw[IX,BC (λz=>CLY)]),bubble z0 src CST,AD9 qI qI,ADA ys.map V.str z0,D4 G8 1 B1,∀o,qZ->A27 h'.get?,h z0 a st' b,ADG (gL J4 1 z0),A4X (WK sep ys),A50 a8O T.b_len,RO*3+l,BDB src j,BDI (jR r e1 e2 A3G r e1 z0),r x xs H Q,CGM w cs,BDR (AW (c8U x y)/\z0),AFP*n<=BG sizeLine,A5K hk (FP d q),(by unfold a0e;have e:CU7 z0 zA=ys.length-1:=zB),k H1 s1,backToKw pos CF2,l.map λc=>V.bl (p c),Paired λp q=>z0,D4 a2Y 3 A6,∀j,j<k->CVI,BZ (i.length+j.length),ASC z0 scope.names A5B,z0 ns zs z x,(by rw[IV x b z0];exact O5 zA),VB _ _ 0,VB _ e e,VB _ h ABZ,ASJ vs ws,A69 CC "dict",BEL JV _,AQ0 OK "__setattr__" CJC,(by rw[A6E];generalize KD=b),A6H g z,ASX (AXA m),AF3 (neg z0 i h1 h2 zA),Cov l H' h0 z0 B,IspPot K vs H Q E,mG CL2 YD,b8Q (2*i+1),λx:CXS=>dI,∀u∈z0,NF zA (ZJ u v),(by by_cases hj:j<u.length),(by obtain⟨o',e1⟩:=aR I.base.there a),AT7 b9S z0 q,AFL BKG BKH,BF2 lo WS,z0 (o+r.length) zA,a8T s₁.heap H,z0 (s2.heap.objs.size,ASZ) (iB zA),z0 l its.toArray n zA,y=kV k,y=.str j,PO X lo tl,PO X hi th,AFO jV ha,a3d (t:=0) z0,EZ H7 e [],EZ CTV p2 [],LI KK z0 (λo s₁=>zA),EA (A3Q n hi),AG3 p2 BIZ,(by rw[UJ (a1B z0 ?fin) fin]),ZQ (AM CR6) CL1,CHN SqL vs,AG6 wr CNR,d.map λx=>V.ref NB,CHR "nought" a9D,(by show _+AUA<=_;exact c0i z0 zA zB),A2O h' it AO,(bL (show RV<=BG z0 by exact b2m h1)),AGF s.heap.objs.size (BMN z0),∀i v,LR->P i v->z0,mV (L8 (z0 K b) f g zA) c.h d,(by rw[OU t (BCK z0 r)];rw[CK];exact zA P w zB t),kindOf st'=kindOf st,pendingOf st'=pendingOf st,failedOf st'=failedOf st,AGP "rows" "rows" z0,BDT n w a,BDU f y fs,BFR out ib,∀ys H,a n ys H->ARM,(by obtain⟨f,fd,z0,h1,h2,zA⟩:=O.ex),AT1 AA7 p F.slot_enumerate_next,AT1 AA7 C F.slot_zip_next,c5t td ty tv,A19 (A9N "setdefault" qO) wZ qM,fnOf x x AQI A29,BFT (WU ta (z0 K R)),BFT (WU tl (z0 K R)),(by rw[BBH h1' us us.toArray h1]),CIK z0 a2S a2S,λW s3=>CZ8,(A.under CX3).z0=zA+1,(by rw[AVC FD List.length_map]),(by rw[AVD List.map_cons];refine .cons ?_ z0),k∈ABY qL.map,Wi cs xs,CZR z0 (a5V d),(CW6 CX0).nox,BGG A49 is,(psW xs).take,(xs.zip ys).take,PSs X body tb,MtR X id r,xs.any λy=>BM4,AVI sY Y,∀s',A5R->A39 z0 s',z0++[(ED,DB)],WC KG=BF8 ARB,(by rw[e]at h;rw[QQ z (AG9 h)]),a1I z0 (D.mono (KP zA)) rfl zB,AAM (aL z0 a5M) (xG zA (BLN zB)),S3 (o:=UP) z0 C,(by .rw[BHC];rw[LJ (KH a0h z0 zA)];rw[mR (OI zB h1 h2)]),a0e z0 none (some (-1)),AWX (CJZ jN),(by rw[AWY y];rw[A5O IK]),λH1 s1 z0=>BOS .inl zA,(by rw[ADW z0 c zA];rw[List.take_add_one,d];simp),CJN (CT2 BFC),CJO "plus" (c5p λa b=>a+b),BHV its.toArray p,V.int (dot row v),AXI (tCB r t),AXS A3R AWG,AY3 (CSX b),CKC (CB ((ADZ)) e) e.2,BIL h.mem g.mem,(by rw[List.all_cons,Bool.and_eq_true]at f),(by unfold z0;rw[A28 zA];rw[A28 r];rcases r with _|zB),BJ9 List.length_map GE z0,R6 g B,R9 ys j',call_meets z0 qT zA (BS zB),d1 AI AI z0,AA->AA->AA,(List.mem_append.mp a).elim,(by have z0:0<its.length:=by rw[nM zA List.length_pos_iff.mpr zB]),∀h',CMQ->Q none RP,JK (MV H s.heap.objs.size z0) (GI h2),Q (BJU BH3) dW,FN KK z0 (collect x) l zA s,z0 b o' BLV e1,GH (A25 gI) lst r,BJJ Nat.lt_of_lt_of_le z0 AXP zA,(x,a)::cs,(x,y)::ps,EH D ⟨D.lt,D.lt⟩,LI M t b,BJS (D2 scope.names.lookup EN NB),PrI K H vs rows,knd.is s.heap k a,(by rw[FY ?_ ASR (QF e f)]),((CU3∨AUO (0<=m))),((CWK z0∨AUO (m<zA))),BKB vt xs,GJ u _ B rfl,GJ qN _ hT rfl,ZZ b z0 c st,NF F (AR2 cs.length),n+nb+c0<=_,(by .rw[BB BJI wpS_pure (BG7 (.inl b))]),(by rw[LU j l (g.from_ x G)]),iA MS (o++(z0 zA).take k) zB zC,AAI (isTrue e X.env z0) TP,BKX i D,a1Z lo LM nrem,uP .FloorDiv (w9 z0 (i / j)),CM2 "is_written" spIsW,CM2 "is_name" spNm,λm d=>keep _ (CSW z0) zA,λm d=>absurd d ATA,A2N .FloorDiv (w9 z0 (i / j)),OT h2.2.2 (dR h),A38 C (CIP qn hd),EE (call z0 args kw),EE (call z0 BCX [(KO zA,zB)]),BLC BMR CVE,KQ (none,z0,zA,zB,0,ADB),KQ (none,z0,zA,zB,ADC,0),pU K3 b h1,BLF A6D A68 z0,WJ "show_vectors" 2 "some" spSVs,WJ "_law_vectors" 2 "_law_some" spSVs,z0 λ_ _ _=>False,(by rw[RT ⟨AEJ PyProof.Rows.F.plain_set_update_loop,z0 (DW zA zB zC zD zE)⟩]),A52 (ws::L) d',CMT o' o',CMT sl {o with slots:=sl},n (f x y) H1,(by rw[PX (jP (AC5 Value.none) _)];rw[A58];rw[OE z0]),(by rw[BM9 R9];rw[BW (List.mem_or_eq_of_mem_set a)]),BMC AEH [],A3K H I (z0 ⟨zA,H,ZL,RH,h⟩),uO Perm (arrOf st),CNF AR4 [BD1 tg],x++s++WK s iD,x++GY++WK GY iD,AH1 HO t ((∀xs,o≠AVK)) z0,BIF s.heap.IsKeyIter it i,s.heap.DictOfH knd d xs,(by rw[LJ (KH a0h z0 zA)];have g:=g.trans zB),BND l r,(by rw[GL a h.perm z0 a];rw[HS ?_]),iX (none,z0,zA,zB,0,ADB),iX (none,z0,zA,zB,ADC,0),AON (z0 a b out ia ib),AON (z0 a b out na nb),CO8 1 (CJ BI3),COA "is_answer" b3M,COA "falls" b3N,COF y.length y.length,COF y.size y.size,BNZ (D4 Z0 2 J7) z0,M9 z0 (OT g zA) CMZ (λi=>uY (b.getD zB UR) x),BO6 [([A6J],z0),([r8],zA)],(by rw[BOI c.fpOk (ZM c.hok.fresh)]),CP6 [AB4 tg b e],CPA BG5 COD,CPA BG6 COG,(λb u e z=>by rw[FH (A41 z0 z)]),BOU z0 (zA it a i),(by rw[CPP ((glued a ((z::z2::l).map (·.1)))) b]),(by .rw[OP j g e z0 j (~~~a5O g) e]),BP4 n (ADA z0 n (zA n)),CQA x x,CQA m qn,(by rw[BP8 I.list z0 pl.isList]),Dr->EK z0 Dr,R*B*BG v.length,CQF hj c,if A4E<10 then z0 else zA,⟨AI,AI,AI⟩,(by .rw[z0,HT.sIx_nat,List.length_map];omega),(by obtain⟨od,J,z0⟩:=I.look),s'.heap.FunFrames B X.stack,b4i pR (a0B (v:=BQ 2000) rfl a RH),a3e 1 qN,z0 zA es.size ep t,qB->qB->BH2,G0 (b8Q j) z0,JX X body tx,CQO (~~~a5N hm0),D2 fs.lookup f v,J.go i H/\AOZ ys.length/\z0,tOp z0 zA (b4W X0),(c7w z z0).flatMap,(by have:=z0;rw[<-zA,List.pairwise_append]at this;exact CQV),ClsX K D [],z0 ok (.inl e),CQY Nat.ne_of_lt this z0,lS BNW H s',∃j,j<i/\x=rows j,λz=>bM ((h x a).2 _ z),(c4 r B).2,Stp d ws e,EZ H' qP ys,HX a3v BJG BJL,(lo,n,0),PV (AQ qR != AQ "object.__new__"),EE (ACD "sorted" SW),(show nZ ((WS))-(lo+z0)=lo+zA by omega),z0 (λz=>CLE) λz=>CLE,(z0 i zA).eraseIdxIfInBounds AO,IU I.ok.glob I.mod.glob.keeps I.bk,A1Z (mM z0 zA) (BB7 t) λq=>BB7 f,(by rw[mH this r.inj f]),J2 (D4 O3 z0 A6),(by rw[GA (AST (AU0 z0) c0a zA) _ rfl (EL zB)]),∀{ys:AC},z0->BB3 zA ys<=ys.length*zB,s.heap.IsTupleIter it t i,∃k,z0/\g=most-W.length,nA .Dict [] [] z0,Classical.choose_spec (f i) hi,∃t,v=CUN t,QT ys ⟨z0,IU DE Nat.le_refl _⟩,iT .Dict [] [] z0,AB6 h.get? KW (z0->AWC->zA),AG (Int.fdiv_eq_ediv_of_nonneg i (vS a8B)) q,oQ c z0 rfl rfl zA,a AO ys d,kA h.mem x (A3L j AF),(by rw[ABX PySem.W.kitx_dict (BH1 h2.1)]),(by .rw[BA none e (λx z=>tK)]),aK "name" "self" ZW (E1 K RC),1+BK5 RO l,(λx a=>h.d x (by rw[h.eq];simp[a])),xP (DZ x::WI (DZ y)) n,A6L rfl _ rfl z0,AFB t3 p1.map _,(by rw[AG1 CTI];rw[QE h.n7]),(by have z0:n≠zA:=λz=>by rw[WX z zB q q]),A1M a0 st runs (r++rest),CU4 xs p,(by .exact GT e AF (by unfold topN;rw[DN z0 zA])),⟨_,rfl,z0,_,rfl,zA,rfl,zB,?_⟩,AAM (aL W.mono b1W) (AW9 z0),(by rw[eR z z0];rw[AY v (z.keeps λb o q=>zA)]),A6F Builtin.«tuple.__mul__» (JY [HQ,WE z0 u]) (AGT/\zA),AXO (z0 i=zA j) i j,c2w c ns zs fs g,(AGY).any (λu=>Bel u r),BJA CTH (NJ q z0),(atKey xs k).isSome,atKey xs k=none,∃u,us=[u]/\bS,1+CJS*AFV u,U0 h.ri g.ri z0 zA λv=>zB,iA MH (x::o) na nb,TH off (I0 z0 d (e _)) zA,hiC a b z0 nb zA mg BLE bc,(by rw[kB c];rw[SK z0 rfl b q]),∀r,r∈srt↔wW,CUU s.heap a,(by have z0:=s1.trans (s2.upd (o:=DD zA) zB)),z0 qK s1 σ1 H1,CV9 Builtin.«tuple.__lt__» F0,CVC wpAny_pure CLC,CVK h out,λσ H qP Q=>cR te v z0,thn (UH hi) λv s1 h1=>FC h1 z0 s2 h2,∀x:Str,A6B->z0 x=bootBuiltins x,A1W P w (CKG h.push) h.objs.size z0,iC a2u LX OS ib,iC a0F ND na KC,CVX ["names","words",z0,zA,zB,zC] zD,CW0 RwO o,d S _ (BL r) C,CWP s0 CTC,(let ⟨o,h1,h2,_⟩:=z0;(BH1 zA)),CWZ "__getitem__" id,(by rw[vG zs];have e:xW (min CSR BLA)=ASS:=z0),CX7 wpAny_setState_of BL7,Tdc eF (sdC n) most z0,CXN (z0 q b XP zA),FN M A (IR excMatches e z0) Q E BNK,∃f fd,CTX/\AWN/\rA/\z0,CYJ (BN8 tx z z0),GC names vX cs VH (cQ (AAO (BO7 z0))) (zA∨CRS),AA5 MakeOk X.base x C k ps sp,(by rw[CZ2];rw[WD a1n];rw[EV (AG (show z0=_ from zA) CSA) zB]),CZ5 kQ (BFW AAF) z0,(by refine b6R z0 (by rw[zA]) λx c=>?_;rw[lV (List.mem_cons.mp c) rfl]),CZZ z0 zA zB zC (FN UA X.A.in1 (CRK zD) zE zF s),D08 h (LN a),D0B p CSG,beq_eq_false_iff_ne.mpr (Ne.symm (Nat.ne_of_lt a)),z0 (BFN [] .nil),λq:tY Str=>AAV,λ(A3L u b)=>A3L u z0,VD s.1+VD s.2,EA BK4-BGS,BG items.size*x,(z0 (c+j)).drop c++zA,(by rw[z0,zA,zB,zC,List.map_append,List.map_append];rfl),(by first|rw[nW FV]|rw[kE FV]),(by simp[F9,List.find?_cons,e]),(by have:=z0;rw[BB List.length_cons a8I this]),(by rw[List.pairwise_append];rw[FY ?_ z0 (CWA d)]),⟨z0,a,b,c⟩,(by rcases AVO with y|y),v=.non∨CY5,(by .rw[z0,List.drop_length];cases zA zB<;>rfl),∀{x:z0},zA n λl=>P AFW,∃a,D2 env.cells.lookup EN a,(by unfold a0u;rw[CV7 List.length_map]),(by obtain⟨o,_,_,_,e,_⟩:=x),(by rcases I.ok.stk with e|⟨e,z0⟩),(by rcases List.mem_cons.mp (I.stkSub b z0)with zA|zB),~~~c0n r0 a z0,~~~c5E c q m,(by cases y<;>exact AFK (CEW hs) Bool.false_ne_true),(by .rename_i z0;have zA:=eq_of_beq zB;omega),(by simp only[bne_self_eq_false,Bool.false_eq_true,if_false]),(by wp_walk using z0,zA,wpAny_forIn_list _ (BI2 b zB) _),(show z0≠Value.notImplemented/\zA from⟨(λx=>nomatch x),h⟩),if neg then ! CMM else CMM,(by rw[List.replicate_succ,List.foldl_cons,z0,zA,zB,zC,List.append_assoc]),(by rw[Nat.add_sub_cancel]at e1 e2 z0⊢),(by change iE (! t.plain) (CJ (es.size > 1)) at z0),(by rintro⟨u,hu,hb⟩),g x' B,h.elim CHJ id,a.extract ia a.size,b.extract ib b.size,O.klt (cP KU n) BLS,V5 h₀ h',Wi cs u,a0e z0 (AQ zA) none,b3S z0 es ep,z0 eF CRI most,A.deeper (CYV cd),liftM (rule "list.sort.descending-run"),AN->AN->AN,AR->AR->BAX Array Keyed,elem' (arrOf s) z0,(X.wish E).Ok,key _ AI CG,wpAny_dictEntries e1 a (z0 zA),AW (z0 (.inl i) ABT),AW (z0 (.inr x) AWR),(backToKw pos (keywordEach kws env)).z0,a9I (z:=z0) zA zB (λv=>Sub.one),AQ (tV b1I o),atI z0 (OO c 1 0)=zA,spliced (backTo pos z0),I.tuple (SqT.of (K:=X.K) z0),A.under (.builtin "type.__call__" z0),vts (a3e z0 qN),Q (.yield CS2) st',DG (ZB b0G T.b_sorted z0),A2T APW CV z0 e,cN d.sides.map++[DI z0],ds.map V.ref++[V.ref z0],(by rw[BX env z0 zA List.mem_filterMap.mp zB];rw[WR zC zD]),SqAt z0 (Shared.heap (AOV zA)) zB zC,(tk,tv)::trs,putSet_of j H rfl,(by rw[AY (AG (z0 hi) this) this]),FN A4Q X.A CHU z0 E s,0<=G0 s ρ,.While c z0 [] pos,EZ H10 p10 zs',t'.plain=z0/\TabOk t' zA/\(zB).toList.Perm es.toList,c5h i sp t,subscriptTail_builtinR (x:=w) z0 zA,dot ps r::r,z0 X (.Break pos) b7g,a8o r _ _ z0 e,(by .exact(APW b z0).trans (pF I.base.keep B l)),(by rw[FY z0 (λx=>⟨MN b,MN (A3L j a)⟩) zA]),(by have:=Nat.min_le_left rows.length sides.length),c0Z l _ FD,b3H sp z0 E t,HOk X.prog X.w H z0,Joins M A E ps,a2x z0 i (aL v.mono zA) EO,IS F7 mask c,z0 i es.size ep t,(λr z0=>match r with|ForInStep.done c'=>zA|ForInStep.yield c'=>zB),IU YA b9c I,typeIs_str s z t,(by rw[GO z0 (zA λw hw=>h w (KN hw))];split),x∈CGB z0 xs j,a8P rfl T.b_int (gO a1l z0 A6),MW (v<0) (CY9 v) (min v FE),wpAny_setField_rec (s:=z0) zA AJ λzB zC zD=>?_,A9S ADJ (z0->wU->ZP->KW->zA),BEV ps x m z0,pk b l z k,(by exact DK (BJ0 Builtin.Tuple.tupleCompareSizes hR)),IsPair z0 TO x b,JT X (CYW z0) (tB (zA ty td)),I.kIn a o c,dC j d k,(by .rw[BB (NY Nat.mod_eq_sub_mod) Nat.mod_eq_of_lt AF]),US a c z0 NA,J8 K z0 (a0b A6),(by refine NW List.ext_getElem z0 i zA zB;have:=zC i zD),putSet_of d l hd,fI uR k i,hY BBY 0 x,NI ty y (td σ H1 (z0 Q y)),List.length_map (f:=ent),Prs z0 ps f a,D4 R7 0 (AUR (D4 R7 1 a4L)),iE (CJ (k<7)) (CJ (k1<7)),SH z0 (q _ o zA e),K4 f CRZ (.k z0::st) rs,Heap.ExtBut b h h',(by have:its=b:=BL (dF Array.toList d1)),uF k H z0 zA V.str,(by show((ACY z0 D).1++[(ACY zA D).2])=_),(by rw[SL vs z0 zA zB zC];refine kws_cons (cT zD kws_nil)),FnScope N ps scope,(by first|exact Or.inl rfl|exact Or.inr (Or.inl rfl)|exact Or.inr (Or.inr rfl)),RwO n m rss z0,z0 l its.toArray n _,BAU swapsWithSole AR4 e,bD f z0 CQ3 ((CQ3).binds e),TC z0 t g F,iX (none,z0,zA,zB,mg,k,k1),ys.map λy => -y,λm q=>XN a8w g (.inr z0),R x y H2,(z0 BN5).map kV=zA V.int,Inv z0 zA σ' H' s',A2L (oU h'.push qP),Builtin.Slice.sliceAdjust lo hi 1 FE,(by .show VD ((glued a ((z::z2::l).map (·.1))))<=_;rw[CM glued_eq_join b z0]),z0 b o e q r t,a1C z0 m (zA i (~~~b2s m a)).2 zB,N2 ps (rss.take i),a3e t (qN.take i),(C5 f z0 fs).lookup,oM (compareOp z0 u CC),bT (ACD id (v::us)),33<=c/\c<127,eX (z0 H (Same.refl H)),.AugAssign (CI1 tpos) z0 e pos,k b u (g b n) q,vO v.mono (UO RC CNN uM),(λz g=>by have:=z0 z g;omega),(by rw[pJ];rw[BA c k l]),AC0 uN CM4 ts,sIx n d (some z0),∃L,L.length<ws.length/\z0,kJ (AQX EN NB),IH (a c _ q) q,CRE>>=DF (z0>>=λy=>W7 false y a zA zB zC>>=zD),(show _<=28 by exact c0E hn7 z0 tl zA),z0<=xs.size/\CVY zA/\uK zB AFT CT5,h h1 _ os c,C1 (G8 pR B1),WJ "sided_caps" 2 "width" a4a,AQP W6 T.b_str AG5,wY v QR QL,r6 items.size (AQX CQX ADE),AD6 D Ends (AL->XG t D->z0),Mod X.K X.mg X.base,BD9 "within" "caps" a9A,BD9 "times" "many" b3J,gZ z0 .Assign AR4 e (b4X te g),Un AEG [] H H' h0 z0,BDT q r t,ADY (z0 a b zA zB zC ac bc mg) zD (c0+1),List.append_assoc (P++LA),a6y (~~~b2f hj z0),(by rw[BC (λq=>AFN z0 q Bool.false_ne_true)]at hR),(by unfold a0e;rw[HT.sIx_none,HT.sIx_nat,List.length_map,z0,zA,zB]),(by unfold a0e;rw[HT.sIx_none,HT.sIx_nat,z0,zA,zB,zC,List.map_take]),u.heap S _ E Y,D4 R7 3 (AUR (D4 R7 4 a4L)),AK F.extBut z0 (aC D.extBut zA C.extBut zB zC),AK hs₅.extBut z0 (aC zA zB hs₃.extBut zC (CO4 zD zE zF)),l=X++z0/\X.length=zA,∀h',h'.DictOfH knd d z0->Heap.SameBut d s.heap h'->zA,cX "raised" "one" "j" a9B,z0 P w ys H Q,(by rw[dL e' (ED=k) CLY];have b:z0:=by simp[zA,List.find?_cons,e']),BEJ "above_any" "some" a9H,BEJ "cost" "prices" Z5,xZ k (BNH st.at it),(by rw[A6N i (I.lstM g)];obtain⟨z0,a,zA,zB,zC,e2⟩:=zD),BF0 h z0 zA j (a AO ARL j) zB,CJF::(us++ds),(by have D:=(z0 f).symm.trans z;cases D),ATD z0 cs xs all,(by rw[AZ (wpAny_setField f1 z0 AJ ?_)]),b3h j a c z0 List.length_replicate,TY MethOkE base C m z0 ps sp,ATT o BOR (BE8 b1I o),(by rw[NH b a];rw[SI hs h]),A1X "take" 8 jD spTk,A1X "take_names" 2 jD spTNm,A1X "take_sum" 7 jD spTS,Inv z0 [] BBX H s1,h2 u W v t,BFI z0 na KC ND,BFI z0 AYF dV ib,(by rw[oE F.slot_list_append z0 F.entry_list_append F.args_list_append_2 zA (HR zB)]),(by rw[oE F.slot_tuple_mul z0 F.entry_tuple_mul F.args_tuple_mul_2 zA (HR zB)]),(by obtain⟨i,j,rfl,rfl,z0,q⟩:=h),ACB "_law_pot" 1 BGA c5r,ACB "parted" 1 ["words"] spPrt,ACB "show_numbers" 1 AXX spShN,(by .obtain⟨its,r,p,z⟩:=z0;rw[EF its r zA z]),gZ z0 .Assign [CLM] e (BNR te),BFS "read_term" 4 spRT,BFS "read_terms" 5 spRTs,BFS "read_sum" 6 spRS,z0 K x lo hi H Q,z0 K P w ys H Q,z0 K neg x y H Q,∃qL,CUQ/\k=! qL.isEmpty,(by rw[AH0 (BMH OS) z0 (AOU LX OS ib) zA]),z::z2::l,e1::e2::es,(by have l:Good st st:=CWC;split),∀(its:AN),BAV vs->z0,⟨y,tk,e,b,z0⟩,jaC B1 (UO B1 B1 z0),K1 ns x=A3F,b a A outer s,qL++[(k,v)],findIn K OK m=some BCI,(by rw[GF (a6b z0 ZX (zA zB))];refine CRJ),AAS base "narrowed" 8 BNX (a9E z0),(by rw[e]at q;rw[EB (xA bB) H I RH q]),∀i ys H,AQ3->A57->z0/\ys.length<=i,z0 (t':=a.toks) λb zA q=>mU,backToKw pos (keywordEach kws env),CK0 (g=f) (dE g v) g,AXR ⟨BO,dZ (z0 zA ys H p) f,AV3⟩,BIP j f l,BIP E t K,(by rw[e2,F4 n p,F4 (a b its n) p]),⟨p,ys,x,y⟩,(by obtain⟨v,o,z0,hd⟩:=BL1),(by rw[List.take_add_one,z0,List.any_append,hB];simp),(by rw[BJ3 FD];exact Nat.le_trans bF uL),(by rename_i e';rw[dL e' z0 (BEA e')];rw[qX];rw[AF7 zA (OI l zB zC)]),(by rw[<-a6l,<-Array.toList_append]at hbk;split),BAY VO s2 H2 fp,a2t I z0 zA zB ?_ AI AI,CKZ (XT h x List.mem_cons_self),CKZ (kA h y List.mem_cons_self),∀k,k<=n->AB2 k z0->zA->oX k st,dot r ys=0,(by have p:rest=[]:=aL List.eq_nil_of_length_eq_zero (lq z0 h2 zA zB)),PM H1 a .dK BH0,∀a s,Q a s->b a s,(by have e1:A5U=2*KD:=by rw[PZ Nat.pow_succ]),BT u t v hv,KL "pull_of" 1 AXU a9C,KL "is_line" 1 AXY spIsL,KL "is_barred" 2 BO0 a9G,KL "together" 2 BNY c5q,KL "steps" 4 BNG b3K,KL "take_number" 4 BNP spTN,KL "_law_found" 10 A5H spFo,KL "_law_due" 11 A5H spDu,z0 CWS a b hd r,WJ "_law_names" 3 "_law_pot_here" spNms,WJ "least_of" 3 "some" a7e,WJ "show_system" 4 "system" spShS,WJ "_law_small" 4 "_law_pot_here" spSml,(by rw[GN (UV e ex.1) a e2];cases e2;rw[BA o e ex.2.1]),RJ ys (ys.length=i/\CMD/\SQ/\OZ),(by rw[IV t z0 zA];have:=zB;exact O5 (COU BBP (by rw[uS a8x]))),bD _ (iF q z0) zA ⟨AQS,SH D.to WZ⟩,(by have a:=r.length;exact z0 zA (by rw[CKS];omega) (CU8 a6e)),((∃xs,z0 K H1 a xs)),wY AS3 (AM np) a,UG (c0+1<=ia+(ib+1)) b8T d,UG (c0+1<=OS+ib) b9U d,(by obtain⟨z0,zA,rss,rfl,zB,zC,hw,q⟩:=h;rw[CX2]),Array.getElem?_eq_getElem (~~~b9y hs hj'),c2g (~~~U5 hcl hj'),CNF LD (BD1 e::BHH assignEach es X.env),(z0 zA).then_heap ABO (BT b o zB e),(by rw[BMS List.perm_append_comm];rw[CQI List.append_assoc]),BMT (.builtin "set.update.loop" (JY [AM S,BGH])),sp (CWJ ATB) z0 (λv H2=>v=.non/\NZ x H2) E,US (n-(AO)) (OJ b0v) a p',(by rw[NH a b];rw[SI rfl h];cases b;refine z0 (A1K ?_)),COC X.length 0 c0S,COC CQM 1 c0W,λ_ _ _ _ D q=>z0 D.typ q,(by .obtain⟨o',e1⟩:=aR I.base.there l;exact GH o' (BHQ z0) e1),(by .obtain⟨sl,e1⟩:=pF I.base.slot B l;exact GH sl (BHQ z0) e1),(by rw[DR us O N zu I.sqk j]),M9 z0 (OT g B) CMF (λi=>!(CT3 zA)),(z0 a b out ia ib).toList=out.toList++zA++zB,(z0 a b out na nb).toList=zA++zB++out.toList.reverse,COW h2.extBut D.i2z D.i12.symm,BO9 vF vF CMO,∀(i:Nat) x,OD z0->D x,(by rcases Nat.lt_trichotomy AEK N with z|z|z),BOH (c∉z0) A3R h2.get?,CP6 [AB4 a b e],(by rw[iK z0 x f1 f2];rw[u8 (a2C zA (OT g zB) CMF CMZ)];dsimp only),(by rw[CPP (glued a []) CON]),(by rw[CPR];rw[eR B d];rw[CQ7]),∀j x y,BH9->GU ys y->BME (e j),(by .rw[OP j a e (XT h.mem x z0) j (OJ a5O) e]),(by rw[BP5 z0 zA m];simp only at zB hd;subst zC hd),λn _ b=>z0*b,(by exact VF (OI p1 A0 (AWK H d))),(let ⟨o,h1,h2⟩:=z0;UV (k o h1) h2),⟨es,ep,t,z0,q2⟩,(by obtain⟨hi,_⟩:=z0;have zA:eT v3=DZ ns[i]:=by rw[List.getElem?_map,zB];rfl),~~~c5J hbig S z0,(match c with|none=>true|AQ c=>z0),((if RO<0 then(BMJ DictEntry)else es[(RO).toNat]?)),((BOZ u [u] z0 u)),NarC qN row most z0 zA,(by exact Heap.lt_size (show XY _ from x)),z0 fd BGA (spLaw K),z0 λu zA=>D.nx (hY σ.set i u) zB,(by .exact h1 (List.mem_filterMap.mpr ⟨env,z0,zA⟩)),(by .exact a0H b o BNJ WZ),(by have z0:zA % M=zB % M:=(Nat.mod_mul_left_mod zC 2 M).symm),b7V b c hd a,CR5 z0 (CIV d) e y,PR (PU (AGU BK2 bm) D),(by have:x≠n:=by rw[XH];exact h v List.mem_cons_self),λv Z=>jZ C Z,(by rw[DO (oG z0 U.n4 CVS) a9T]),(by rw[GA ?_ ?_ CPI CPI]),Meth X.K C m f,GX W.done z0 λh' tk d=>?_,atI (FQ z0 V.str) zA=BU V.str zB,gZ PG .Tuple es k z0,(by rw[WX e1 e2 hi hi]),λi=>trV (ys.getD i .non),sdS (rss.take i) (ss.take i),(by refine a5w z0 a (fA zA) (IC mP) (BON zB) ?_ ?_),(by have z0:AU0 zA<=21:=by rw[F2 C3 AF0 b9D zB]),iT .Subscript e BLG (CYN z0),z0 x u _ zA r5 (step x zB y5),F9 z0 j=AFE (j=k) y CVN,nR F.slot_tuple_iterator_next z0 F.entry_tuple_iterator_next ?_ F.args_tuple_iterator_next_1,(by have z0:zA=zB*cs.length+cs.length:=by rw[Nat.add_mul,Nat.one_mul]),oQ z0 rfl AF AF ?_,(by rw[kB z0];rw[QG p ys rfl zA q];rw[BMU zB]),LI M (storeName X.env x u) Q,(F7 mask c).map (·.1),CTJ PySem.F.slot_str_join PySem.F.type_str_join (z0 K f),(by have e':b=a:=Q b (BJ1 q);subst e'),(by rw[oY z0 (upd H dx CR0 x) none (A4 zA) zB]),VA _ rfl z0 _ rfl zA _ rfl ?_,ATD f xs rss take,DT i x v e1 e2 z0,(by rw[AUC (L (pos u))];rw[AUC CZA]),λb u q n _=>AG z0 n,(by rw[pZ e (qP.toArray++its.toArray) (ASJ qP its)]),vs.length=rss.length/\GC i Nat v V A4B z0,(by .obtain⟨z0,z⟩:=zA;rw[AY zB (kp b _ CSV z)]),⟨b7Y (z0 K c) d.h e.h hs⟩,(by .rw[C3];show _+AUA+_<=_;exact c0K z0 zA l0 zB),TY MakeOk base z0 C 1 zA (zB C),CUX (WF e.1 m∈D02),⟨CY4 z0,AGW x (H'=H/\CVG zA),CWB zB⟩,(by rintro⟨c',h1,rfl⟩;rw[BW (List.mem_append.mp h1)]),(by .rintro b s' ⟨rfl,hb,_⟩;rw[pL hb h]),(by have:=A54;show x.length<=1*z0;omega),(by .exact b3s T g ⟨z0,h1,zA,C,zB⟩ (λx' ex'=>f x' ex' _ zC) zD),(show(kH+1)=EA CF by push_cast;rfl),(by rw[A3Y σ7 a y q];exact j c y),(by rw[LV n rfl (∃n,na=CS) LY (vS c0z)]),(by refine AGM I.hok u (λc v a q=>BO8 q) z0 λzA zB q=>q;rw[BW a]),CXA X.env lW lW,(a1f z0 λl h=>by rw[a0x,h,Int.mul_comm];rfl),(by have:=AV2 z0 X.A p1.isList p2.isList (BL p) AU9 AUX),CYD (uF k2 H' b ys.map V.int),(by rw[CYE ⟨xs.length,AJ,F1,h0⟩];have q:=CWH f;rw[CVU]),CYL z0 zA (λx c0 x1 x2 a1 b2=>zB),CZW "tuple" z0 zA Z6 a2N,(by rw[D07 hm hk z0 (wpAny_Assign_Name (Subscript_ ?_) hs)]),D09 t U.n1 AEI,(z0 pN).drop a++o,∀(ns:AC) (cs:AS),z0,⟨aI (BZ 2),z0,A5S zA .cons zB .nil,BEL zC 0⟩,(by have z0:A4D CP1<=_:=BDW 32 60 zA;rw[BJ4 zB]),(by obtain⟨mi,z0,zA⟩:=two_at zB zC (decide (BLY zD));rw[AC1 zE]),(by refine N4 x y ?_ ?_),(by unfold frs;rw[CM List.filterMap_cons d z0]),⟨od,es,ep,z0,c⟩,∀xs ys:qI,D0G,(by obtain⟨_,_,_,q⟩:=hs;rw[HU q]),∀(z0:Around) (zA:qH) (zB:CJ3),(∀h1:Heap,BES->zC)->zD,(by rw[<-Array.forIn_toList];rw[CZS (BI2 b (s'=s/\MQ dX/\NF rest (∃i t,v=A66))) z0]),(by rename_i hb;rw[GN z0 j a];rw[GD j CF]),(by refine z0;have zA:=AY7 zB qM zC zD;rw[hs]at zE⊢;refine Calls.callWith_builtin zF (Calls.evalArgs_plain ?_)),(by obtain⟨mA,O,r,_,_,_⟩:=CSD),(by simp only[List.length_nil,List.length_cons]at i;rw[z0];exact aD zA (BH zB i)),show(z0:qC).heap.objs.size=zA from BKF,(by obtain⟨o,z0,zA,hd⟩:=zB;obtain⟨zC,zD,_,nl,hdl⟩:=zE;rw[A3M Builtin.SmallTypes.nextOf zF]),(by rcases hs with r|⟨f,_,_,e,_⟩),∀{h h':Heap},z0->(gT (b∉[zA]) pY UQ)->zB,(by rw[<-Array.getElem?_toList,j,CQC z0,zA];rfl),(by rcases c with⟨_|q,n,z⟩),fI M n x,(((z0/\∀l,A46->CTB ys)∨(zA/\mC H))),(by rw[AD this (k h' tk kp)]),(a4A scope env).lookup,(CU6 i CX4).eraseIdxIfInBounds,wpAny_looks_onW (L:=X.env.locals) (RZ z0 I1.ok.frames) zA zB,a1f z0 λl h=>QF a0x h,List.countP d its=List.countP (λz=>BI8) xs,PIE X qK σ tg R,Paired.mapP r λz0 zA z=>⟨bB,zB,z.2.2⟩,pk b z t k,(LO l).any BL9,AAS base x z0 ps sp,KL x CF ps sp,KL "next_level" 5 BOA c5s,tSl CS1 (tVar i) z0 zA,(by refine KeyOrd.klt_of_kle_of_klt (a1C T.sb z0 zA zB ?_ ?_) zC),GI (CSS (PySem.W.instObj C s.heap.objs.size)),ys.length*B+ys.length*sep.length<=16777216,(by .exact aG (XN Nat.log2_lt (show(FE).natAbs≠0 by omega)) Int.natAbs_natCast z0),∀b ps,YZ b .tbl ps->∃more,A1G b .tbl (ps++more),(∃i,CSE/\QM i)∨∃k,mY (.bl k)/\QM CTQ,(by .rw[z0]at e;exact AK k (IJ xL d s) zA),(by rw[EF jQ f.2.1 CM0 (AFC f.2.2.2 z0)]),(EqV.at (n:=0) I z0 (by show gM BCF 0;exact c0h zA) zB zC),DT r3 H3 z0 zA P3 f3,∀b,b∉AEH->IB z0->b∉zA,swapsWith z0 (AQ zA) zB X.env=pure true,(by rw[z0];exact ASG _ (I.lnew (t':=s.toks) zA zB) (q _ I.fresh)),(by rw[MR (a8M (c:=c) (n:=n)) AVQ]),mergeAt' z0>>=λb=>A3Z (A60 b) CUS (iX aN),(by rw[GL z0 (p1.map (BCT APD)).length_eq t2 zA];simp only[List.length_map]at zB⊢),(by rw[GL o (hT.fw (Lim.few (~~~a0w hm))) z0 o]),q st' g h1 AF,WJ "read_system" 10 "text" spRSy,gR (ta σ H λx H'=>∃k,z0/\UE k),(by rw[AVY]at h;have e:z0=j:=CR4),tMethI C m sp dvs,G2 L/\L.Nodup/\(A55 L z0)/\(zA)/\zB,(z0 k zA zB).keeps λc ys zC=>?_,cX "unit" "width" "j" b7h,cX "show_term" "many" "name" spShT,cX "sided" "rows" "sides" b3L,cX "ending" "some" "last" a9F,cX "filled" "text" "empty" spFill,cX "_law_listed" "_law_texts" "_law_between" spLst,(by rw[MZ];refine wpAny_Call_method_late z0 zA zB rfl (eN zC zD)),LsO rss cs m f z0,∀z0 H',zA->zB->CYO true->mE [p,af,aw]->CS4 zC,(by rw[IN z0 (GJ _ zA zB ?_)];have y:N3 st d=zC:=by rw[GO N3 zD]),(by rw[RT (h _ CXM true z0 zA (DP (IC C)))]),λc x=>V.bl (c8o c x),(by have e:z0:=x;show CLQ zA;exact k a _ NA e),∀c:VK,IR c b H->WU te c,SH (setS_at E) (q.heap S _ m e),(by have:X.A.in1.units=BCF:=rfl;rw[UN z0 d]),(by show AC0 (AS5<0) (vL AS5 z0) (min (AS5).toNat zA)=_;rw[PZ A58]),∀v,assign (BF6 o i) X.env v=(z0),wpAny_field c hd (x:=z0) rfl,λc z0 r z=>CSI r j j,(by have d:BO5 ((z0 BG3).push w6).get?:=zA),(C5 f v fs).map,(TgA z0 a cs).getD j 0=zA,z0 o i v H Q,(by rw[VU];rw[CIU (FC (VI h1 z0 I h) f s1 q)]),AOA "caps" ca "rows" ra [],AC4 base CX0 CF f fd ps sp,(by .show RV*n<=_;exact b9L h2 b),(by .show IS glued a []<=_;rw[CM glued_eq_join CON z0]),(by rw[AE z0 hG.k.n1 zA hG.k.n7];have zB:=hG.k.cl;rw[CD zC]),(by rw[YE (Z3 H (OT b K) G z0 zA ?_)]),KL "read_figures" 2 ["word","most"] spRF,(by rw[jL];obtain⟨g,e'⟩:z0:=e;subst e'),KQ (z0,na,at_,AYA,mg,k,BHI),AP1 (OM a (jR l e1 e2 (uH a) l e1 z0)),∀i z0 H,AQ3->i<=zs.length->zA->zB,b3q T m B g,(by obtain⟨z,hd,z0,d,dd⟩:=uB zA;have o:BZ zB:=by rw[JP zC z]),(by rw[oW f hw (CYU z0 (IU l c.val k))]),.Call (ANR z0) zA [⟨AQ zB,.Constant zC nk np,kp⟩] pos,.FormattedValue e (-1) none pos,IT H v (f j),∀i j,uJ->j<m->uX z0 zA,(by rw[HN r];cases(mI z0 ty);rw[AY zA (EH e AFF)]),t.Perm (V6 (fre n)),(by have key:∀x:Str,z0->PV (x.cps.toList.all λc=>CJ zA)->zB:=λx h1 h2=>zC),ACB "show_terms" 2 BNQ spShTs,ACB "show_row" 3 BNO spShR,(by rw[A45 z0 (toString "min" ++ toString ".loop" : String) "min.loop"]),(by cases z0 with|cons p q=>cases q with|cons p' q'=>cases q';rw[EB _ _ rfl p p']),(((fss.take z0).any λf=>BIC)),(by exact List.mem_filterMap.mpr ⟨env,KN h1,h2⟩),xH f8 P' c5 c5,ARE (ADL a0a 2 (KR d hr.mono (jaC B1 z0))),UG (n+(m+1)+CL7<=_) c0I d,UG (CS+m+CL7<=_) c0J d,SyAt H a c rss cs,∀i x σ H,aT->AQT->XG g x λσ2 H2=>CW1,(by rw[GL q z0 zA q];rw[MA zB (A4U (CMY .cell) (CMY .free)) q]),A5L (λy g=>AFM g) k xI,(by .rw[AE1 q hq];rw[BA q hq z0]),b3F C sp [] E0 z0,(F6 (by show FE*1+0=_;show _=FE;omega)),(by have e':ED=k:=h1.symm.trans e;have b:z0:=by simp[zA,List.find?_cons,e']),λb z=>absurd z (j b),thn (UH b) λv s1 (RU x a d c)=>z0,AT2 (jaC A6 (UO A6 A6 z0)),(by have W:=z0;have zA:vs.toArray.size=vs.length:=List.size_toArray ..),∀v r H1 j,wW->CW4->LQ->A5F (j (z0 r) H2)->zA,(by rw[AFI];refine a8X r _ _ ?_),fin qL g _ z0 rfl zA zB y I h1 zC zD,forIn z0 true λc r=>if AW r then zA else BGP r,(by rw[AFZ];rw[QS (k H2 (s'.trans s2)) z0]),SyAt H' a c rss cs,(by rw[MZ];refine PySem.W.methodCall_KW (pl:=pl) (dC z0 u zA) zB;rw[D0A zC zD zE zF]),ATU "step_within" 6 "room" a7V,ATU "say_cheapest" 4 "some" spSCh,BFI CWL ND ia OH,(by rw[NH z0 zA];obtain⟨a,xs,n,rfl,rfl,zB,zC,zD,zE,q⟩:=h),AGZ z0 (c1k EO (a0B (v:=zA) rfl a RH) CG),vU C5 f v fs<=z0,(by rw[List.replicate_succ,List.flatten_cons,a,List.replicate_succ];rfl),(by unfold z0;rw[Array.toList_append,Array.toList_append,a4Q,a4Q]),b3H sp [] E0 t,f x c e z0 z,∃xs,A6M/\h.DictOfH (CK1 P w) a xs,dR ((g c z)) x c e rfl,λz0 zs L H1 s1 G zA zB zC=>?_,AC0 (v<0) (vL v FE) CUI,loC a b out ia ib mg k bc,Off l H (upd H' p o),(by .rw[OP k' e z (G x _ t) k' e z0]),(by rw[ADV (E5 z0) i t rfl x t rfl]),V.str (nmF g st l k),(λg z0 b o e=>zA b o (λz=>by rw[SN,zB]at e;rw[CP]) CS0),b3t T F o B,((∀m:Int,BCR->CXW z0)),b3F C sp dvs E z0,z0 tb σ Q x H1,(by rw[AD List.length_map (seqIndex_of vP AF)]),x.above y c (PySem.mem_of_lookup h),(by have e:pX a ys bB:=by rw[<-b];exact(glued_eq_join a [bB]).symm),PC X op a b t,g i xK (~~~c0w q p) (~~~c5C v),((∃xs,SqK z0 K H1 a xs)),BKZ (∀{R:AWF},R (BU z0 i) st->tO CUD R st),AST (ATK xY BL8) b9M u,AST (ATK AGG n) b2p g,TY MethOkE base C "say_rows" 10 AWA (spSRw C z0),TY MethOkE base C "say_by" 11 BNN (spSBy C z0),(by rw[NH b c];rw[QG i j rfl rfl q];rw[BLB];exact CY0 s _ _ z0),(by .rw[AV1 (b3u T F i n g h1 h2)];rw[AS1 f]),BI Walks.list prog prog w w (A:=A.in1) z0,(by rw[BIT d];refine z0 (FC (VI b Q I h) c s1 e)),(by rw[DR z0 rfl zA zB a8Q D];rw[BN2 hl zC s7 H6 zD L]),(by rw[CPR];obtain⟨u,v⟩:=d;rw[CQ7]),(by rcases h with⟨h1,h2⟩|⟨h1,h2⟩),(by obtain⟨z0,p1,p2⟩:=R5 (f:=CI2) hp zA),⟨o,es,ep,z0,d,r⟩,λ{i j} hi z0 zA e=>?_,∀(k i:Nat) (s:qC) (z0:zA),zB,BP1 (t':=s.toks) (ch:=ch) CSJ z0 zA (λb u _ e n=>zB),Builtin.Builtins.bindParams "min" ["key","default"] 0 (CTL [] .none),SqAt k2 s.heap b ys,z0 c o jQ CM0 CS5 (ATC f) e,DP (VR (CW5 qN hT z0 q)),tR (bQ 3 b2d) I p,(by have z0:∀(cs:AS),CX1<=7:=λcs=>zA),⟨a9X (z0 K a) b.h c.h d.h⟩,(by rw[eW ixN List.length_map CRG (CO z0)];simp),z0 (ts:=AA1) λx a=>BKK,(by rw[QG a b rfl hP k];rw[KY hz]),Over BOV (fre qN.length) most,List.foldl (λa b=>a++b) qP.toArray (BJQ its.toArray)=ASJ qP (AWI k),(by rw[AE1 u d];rw[AF5 d];obtain⟨_,b,e'⟩:=z0),(by .rw[AY6 (BI4 q (IF b)) AC7 (US (xs.length-(AO)) CSZ b p')];rw[COS σ (y xs q)]),(by rw[ADV (E5 hv) j u rfl y u rfl]),thn (AXK z0 _ zA zB n zC) λd zD ⟨z,i,j,zE,k,e,l⟩=>?_,∀{binds:qS}{m:BJ},(∀v,BL2∉binds)->z0 kindOf binds m x=m x,v2 vA k (.seq items nl) d,(by rw[oY z0 (upd M af (DD ASP) zA) (BU .lst zB) (A4 zC) (AH y zD)]),(by obtain⟨l,b,xs,zs,rfl,rfl,g,z0,zA,q⟩:=h),∀(z0:zA) (zB:zC) (s:qC) (Q:qH) (E:qH),zD,[(BGX,F0),(ADM,BQ z0),(ADN,BQ t),(ADO,BQ zA)],(by have h1:MX<j:=QK;have h2:j<z0:=a.2),(by rw[BP2 (SJ a4T [] z0 (sqt ha) (sqt hb) zA BOB rfl (CZQ j)) zB]),gX (VI z0 zA _ I h) (DS f s1 q) e s' q ?_,(by rw[aS e' e'];rw[d]at c;injection c with d1 _),CWG _ _ rfl z0 q,(by obtain⟨dx,n,r,s',c,q,us,e1,e2,z0,zA,zB,e6,e7,e8⟩:=hD.ex),AYH z0 U.n1 AEI tn rfl (KS zA) ?_,∀a b:Nat,a<b->b<xs.size->xs.getD a 0<xs.getD b 0,∀l zs qN,A46->AGL->z0->xS->CU9,(by rw[CY8 (CLF S)];rw[AZ (wpAny_seqItems C rfl ?_)];rw[AD5 (CS3 (AOS I))];rw[AVR z0]),⟨bk,p2,CP1,60,rfl,rfl,BOK,z0,CQE AF0,AF,zA⟩,cS Walks A J [J,z0] [J] es.size zA (A3P (zB/\zC)),(by rw[CZB r' z0 f3 f4 zA zB (AG f2 (F4 f3 f4))]),CZH (fnOf m qn AQI A29),(by rw[AE hl L.length TT (a6c I hI L)];obtain⟨T,z0,t2,t3,t4⟩:=a1y L GE),(by rw[D01 PySem.F.slot_dict_get PySem.F.type_dict_get (dC z0 u zA) c zB zC zD]),(AWM (λz=>by rw[<-z,K]at e;rw[CP]) z0),(by rw[List.pairwise_iff_getElem];intro i j hi z0 zA),⟨h.perm.trans List.perm_append_comm,h.sorted,h.rb,h.ra⟩,⟨xs,zs,h,j,AF⟩,(by unfold SetTable.tooFull at f;rw[O,decide_eq_true_eq]at f),(by first|exact nobehind _ AI AI|rfl),~~~c5K C S B Y,(by cases k<;>obtain⟨o,q,r⟩:=x<;>exact z0),∀(a b:CL),a.Nodup->WT a (x∈b)->AD7 b.length,(by rw[VQ z0];rcases zA with⟨zB,rfl⟩|⟨zC,xs,zD,zE,rfl,f1,f2,zF⟩),COW z0 D.l2z D.l2i1 hs₃.extBut D.l2TO,c2t lt left key x,CXY ca af aw true,((∀(j:Nat) x v,BH9->GU its v->z0 v=AWB)),C5 z0 zA zB=dfl zC ar as ac ap,AW (Q8 N src M a),(by have:=h _ (List.getElem_mem (h:=hj));rw[AFH ATN z]),(by .exact wpS_pure (q st' d h1 h2 b)),(h.swap.stepA hs e a).swap,a4K B1 z0 (a4K B1 A6 zA),(by rw[OA (listUpdate_at d rfl ?_ F1) z0]),(by .refine z0 z (zA (i:=zB) ?_);rw[<-zC];rw[CQH G];rw[CQN G]),CV=ED/\AAE q.2.1 (CV).map kV/\RelV GW q.2.2,q c _ f ?_ ?_,(by .rw[AD z0 (dZ (Nat.add_le_add_right (Nat.mul_le_mul zA (show hV<=9 by exact c0k zB)) 200) AI)]),CZT K z0 (y:=zA) rfl rfl,(by rw[CK];rw[gJ (z0 l j g d) v];constructor),a2G C m sp dvs E ta z0,(by rw[JR N9];rw[List.getElem?_map,List.getElem?_eq_getElem h];rw[BJ5 h]),swappedStores AR4 e X.env=pure none,PySem.seqSlot_of (T:="tuple") (name:=z0) zA zB FV,(by rw[List.mem_singleton.mp D];exact⟨a8,L,CVF,A,AGE⟩),SetTable.probe.go t a h fuel p,(by rw[GO E7 z0];rw[EX (zA T.sa T.sb) y zB x zC]),(by have z0:upd zA d ACU d=BU .dT []:=A0),(by refine a4R I AX3 hs z0 zA;rw[AD (A4 (I0 zB e RQ)) zC]),z0 I b hi d r zA c,z0 b a q n c d,AOA "caps" ac "sides" as BNU,∃e f,z0=wZ/\RelV (.int zA) e/\IR RelV zB f,∃p ys,xs=[FZ]/\(CTZ∨CU0)/\z0,AB7 (BMV I.laid s.heap.objs.size (o:=ANK z0 s.heap.objs.size zA) (ID o (UM zB pK)) BO zC) zD,(by refine VA z0 _ rfl (aQ zA) _ rfl zB A67 ?_;rw[Int.toNat_natCast,List.length_map]),BA0 base "take_all" 9 ["draft","lines"] (spTkA C),∀os:AN,CM9->CPN->P (.done (.ret .none)) z0,λi s Q E hi st z0=>zA,⟨n,r,p,a,rfl,rfl,z0,zA⟩,z0 kindOf (P.zip vs) m x=some v,(by rw[wE o ho z0];rw[CP0 (UV ho f)];rw[RT (EQ zA)];rw[AYD f]),M9 H k2 z0 (λi=>zA) (AGD (vJ zB).1 zC) (xV m a hb) zD,CW8 z0 zA BN7 λ_ _ q=>q,(by refine kdu_collect z0 (CT8 CUE) D zA (CYF zB);have:qP.toList=zC:=zD),(by .obtain⟨p,ar,as,ac,ap,l,z0,zA,zB,rfl,_⟩:=h;rfl),(by .obtain⟨p,z0,zA,zB,ns,rss,ss,cs,ps,rfl,_⟩:=h;rfl),(F6 (by rw[a4I,a2Q,A5V,z0,AQR zA i];rfl)),(by .rw[vG ys];rw[AD (WW List.take_of_length_le b9h g) BCV]),(by rw[AF7 z0 (aB rfl 0 1 AF AF zA v)]),(by have D:=(z0 (zA-d) zB).2;rw[f,AQ2 (d+(zC-d)) zD c5B c,zE,Z i _ hi]at D),λv H6 N P6 q=>r9 z0 P6 (λx H7 x1 x2 P7 f7=>BNF (q _ _ (UU (BH zA x1) (BH zB x2)) P7 f7)),∀b o u,A2I AUF->WB H' AUF,⟨z0 (v7 a1c) c.h a.h b.h m⟩,ATM H4 p5 CLB l CMB,(by rw[oE PySem.F.slot_str_join CJB PySem.F.entry_str_join PySem.F.args_str_join_2 (z0 a t p l zA) (HR zB)]),(by rintro x c z0 _ zA ⟨g,e1,m,zB⟩;rw[CQ1 zC zD ?s1 ?f1 m zE ?p1]),(occurrences a b 0 a.length CIS).isEmpty,(by obtain⟨e,y⟩:=y;subst e y;exact hs i z0 _ zA p),entryFor_alias (id':=z0) LW rfl FV LW,SJ a4E [] (λr=>CI8) AF CSH hI rfl (λv r H1 z0 c zA s1 q=>?_),(by rintro i v ys H' hv ⟨s,rfl⟩;have hi:i<as.length:=by rw[<-g];exact NE hv),(by have tm:=z0;have zA:dY iI AH2:=λt zB=>(tm t zC).1;have tl:=BAJ a9w),(by have Z:Inv j CVM iQ S s3:=I3.pins_of λp D=>z0),⟨false,p,_,rfl,mJ,k _ z0⟩,(by rw[lX A.in1 (holding [z0] (setAdd S zA)>>=_) s'];rw[AE8 zB]),(by have lst:∀{h:Heap},z0->BK7 h.IsList:=λg=>zA),(by rw[LV j z0 (∃j,zA=c+j) (zB-c) (~~~c0R zC)]),(by rw[BIT i];refine z0 (dC f c j);rw[xC H1 d j]),(by rw[BX o h1 h2 id z0];rw[BA o (AH g h1) h2]),CO8 CS (CIT (CFW ys.length) all e && xs.length==ys.length),forIn [:sz] (aN:ASO) λ_ _=>get>>=λg=>z0,(by rw[CPH wpAny_dictEntries];rw[CPH wpAny_dictEpoch];rw[oN];dsimp only;rw[show z0 by rw[CR9,Int.toNat_natCast,zA hi]];dsimp only;rw[OR]),(by rw[CPX z0 x zA];exact zB (i:=i) (List.nodup_cons.mp nd).2 BJM BJN a),(by rw[CQ8 r g m];exact BG7 (EL z0)),(by rw[CQ9 I.list I.list];rw[BM p d.length ws.length]),(by obtain⟨l,g⟩:=st.en;have p:vK e "enumerate":=A61;rw[ARS z0]),G z0 e (λc o i zA n zB x=>zC) ⟨F,AK zD g d,f⟩,z0 C CT vs H Q E,z0/\AG8/\Lim eF (sdC ns.length) m,XN List.mem_erase_of_ne (λz:y=x=>h1 (xD d)) (h y (KN d)),∀r st',AON r->ON->A43 r,BI z0 base base P l.prog (w:=w) (OC zA),(by refine BI PySem.W.callWith_K first aM h₀ X.base I.ok.mod.kin z0 zA zB zC),BI I.laid a s.heap.objs.size o z0 (h':=zA) (t':=s.toks),BI M7 c 32 B 60 (ys:=z0) zA,LsO rss cs z0 f (.ok t),DT j y T e1 e2 K,(by exact c8J rfl ha hx hl k),((∀s' z0,Moved CNR G s s'->zA->zB->CTE s')),ZY ARB (λv s₁=>pS BD6 (λu s₂=>pS z0 zA s₂) s₁),iE (CRL==0 && RV==1) ((BOL-A2R)==items.size),(by .subst d;rw[AY1];refine z0 CRY hd dd.mapOf ?_;rw[CPQ CN7]),(by rw[q8 xM (aB rfl o (2*o+1) (~~~b9l) (~~~c0l r) z0 t)]),((forIn [:n] (ZS 0 1:BDK (qD ANL)) (EH c (A3Z (PQ ≥ z0) BI9 (CKL zA>>=λr=>zB)))>>=λc=>zC)),(by rw[MK rfl K];generalize a2:(AAF)=a at h;rw[D0D]),(by rw[AGJ l hl];refine YH O4 l fs (RJ σ (Ex1 λo=>An3 (σ=z0) BP (PR zA))) (OI none mP rfl) zB ?_ ?_),⟨z0 a7l a7l d.h e.h f.h g⟩,call_meets F.slot_int_rmul (ASD s z0) F.entry_int_rmul (BS F.args_int_rmul_2) (a5u zA t a its.toArray m dd sl) zB,c.h qK _ σ H1 _ Q (b.tok _) q,(by rw[W8,C3,C3];exact c0o d g o u),⟨ne,cs,_,_,_,A0,IH ne.symm z0⟩,LqE.rec (λi=>c4h 0 z0 i) (λn=>zA) (VB a b (a+b)) (VB a b (a-b)),z0 t b vs.toArray ws.toArray n o dd c,(by rw[D0H];rw[BLJ g];rw[AZ CUK];rw[CP0 ATP];rw[TD (q _ CZX)]),D0I x y v u (BHN MB z0),(by .obtain⟨z1,z2⟩:=hF.sz n7 r c;exact⟨_,rfl,v,r,rfl,z0,z1,z2,CY2⟩),(by refine z0 (ID o AS7) (a7f m) ⟨BO,List.nodup_nil,(wQ (nomatch hx)),λj hj=>CYC⟩ ?hR),∀(X:Cx),kO->kP->AT->DV->BP6 i Nat E qH (AL->A3I ARY->CT0->z0),(by subst z0;rw[BP0 (KH (W.done s _ _ zA) s' zB)];rw[lX A.in1 CJX s']),λb u q n _ _=>z0,∃(o:Obj) (its:CY) (n:Nat),z0,∀i x z z0 H p,aT->CB zs z->zA->RE->zB,show ObjOk X.prog X.w _ _ _ z0 from⟨zA,zB,zC,AFS⟩,(by .obtain⟨_,_,_,_,o,_,_,e,ex,_⟩:=AWU b;rw[BA o e ex]),if 1+O<QL then 1+O else QL,power' sz (2*s1+n1) (2*s1+n1+n1+n) sz,∃od,z0/\∀name,PySem.W.lookIn name od=BU mA name,(by refine a6X (m':=z0) zA (wpS_mono (add _ zB zC zD zE zF) λr f p=>by rw[AS1 p])),(by .exact wpS_bind (z0 λr b hr g=>fin r b hr g)),(by rw[ER h2 (QH xs.zip ns xs.length) List.length_zip BJH]),gR (ta σ H (z0 tb σ Q)),GC w World h Heap (z0 w h) (BG2 h),GJ .non _ (I.lset (its':=z0) zA e AJ zB ?_) q,(by rw[u5];have e:=CL4;rw[ACL (C rfl λz0 zA z f=>KeyOrd.kle_trans zB (zC z zD))]),(by rw[GA z0 ys rfl (tX mJ q zA)];rw[HW zB (GR H1 (o:=dH) zC).upd CJ1 zD];exact kk q ys _ zE A0 zF),(by rw[NG (List.nodup_cons.mp e)];have c:=A54;rw[MR z0 (List.length_erase_of_mem c)];have:=List.length_pos_of_mem c;rw[PZ List.length_cons]),BES->(iL h1.get? UQ)->BF3 h1.objs.size (tS os.toArray c)->CM9->CPN->z0,mV (L8 z0 h i c2n) d.h g,VA _ rfl _ rfl z0 _ rfl zA zB,M1 X o "get" qO e qM,∀{xs:AA}{us:AN},aZ->AGO->z0,A2L (APG s.heap.push "range" #[CHY,CHW,CI7]),λb o _ d _ e n=>pF z0 d AJ,jR t d r z0 t d.h r,(by rw[EX (xX S5 zs L (λt=>A1F C6 BBP) z0 zA (bA zB) rfl (λi v x H2 Q2 zC zD s2 k2=>?_)) H2 p2 s2 zE]),(by rw[A3M Builtin.«set_iterator.__next__» (BKY z0)];dsimp only[rawInt];unfold setEntries;rw[OA wpAny_bind zA];rw[aV];simp only[Int.toNat_natCast]),(by rw[wE F d r];have z0:AUK zA:=zB;have g:e≠z:=λx=>by subst x;rw[AX zC d d];simp at f),z0 zA (.Raise (AQ (BA9 (ANI np))) none pos) (b7a C E t),(by rw[show JL Builtin.Dict_items.ownsTuple "dict_keyiterator" by decide,BC Bool.false_ne_true];rw[PX (jP (AC5 CLO) _)]),EqV X.K H n x y b,∀o,z0->Fin CT H Q E o,(by rw[xQ Z r r];rw[DO (BOX z0 zA zB zC rfl (EL (GH _ .inl zD)) _ (DGet.k (k:=Sum.inr x) zE)) a2T];have:=bR),(by rw[LV m rfl (∃m,nb=m+1) KC (~~~c0Q h2)]),LI KK (BM3 z0 zA) (λfin s'=>∃v,fin=.done (.ret v)/\BL0),(by rintro c st' ⟨g,r,e1,e2⟩;obtain⟨z0,zA⟩:=c;rw[BBN];rw[ARH e1 (AK q e2 g)]),(by rw[AD3 us r1 z0 ws k zA];rw[r1.length,k.length];rw[JZ SeqAt.EqAt.of_refs c]),(by rw[e2,<-a6t f b r _ e,z0];rfl),LsO eF (sdC ns.length) m z0 o,W7 left key qQ base n a,A1J (uF k1 H' a xs.map ca/\uF k2 H' b ys.map z0),(by rw[BHC];rw[AGC];rw[CQ1 z0 zA ?s2 ?f2 h1 h2 ?p2]),BI S5 vs (gN d.names.map) as d.names (caps:=[dJ]) (λn=>z0) (CVR hnl) qW (bA zA) rfl zB,(CKB ⟨hi,by have:=z0 i ys H p;exact a5P f hi this,λzA H' y=>by rw[zB]⟩),(by rw[BJ2];simp only[Bool.and_eq_true,List.all_eq_true,List.mem_range,decide_eq_true_eq,beq_iff_eq];constructor),(by unfold a2B;rw[A28 g];rcases CVP with _|⟨s1,n1,z⟩),λ_ _ σ H _ I h=>z0,λA i s Q E st h=>z0,⟨1,_,AI,z0,A25 _,_,rfl,?_⟩,(by refine PyProof.Rows.SetOf_congr a (MN k) (IF c);rw[GD k x]),(by refine AK (a6x xs j n fuel) (AQH z0 zA) zB zC zD zE;rw[GD i m]),(by have:=KeyOrd.kle_trans (a1C T.sa z0 zA zB (BGJ (jJ zC)) (BGJ (jJ zD))) hle;rw[oJ KeyOrd.kle];rw[oH ltK this]),c1A (v:=.ty "str") rfl T.b_str b3g rfl,(by have h1:z0<=mask:=CV1;have h2:=a7i h1;have a:zA<=zB:=zC),(by rw[ABL M L f r N M L]),(by rw[ABL G D f B L G D]),(by obtain⟨d,f⟩:=k i ys H CS8 p;rw[FY (BI4 d XR) (~~~a5P j hi f) BDS];rw[COS ys (y xs d)]),(by obtain⟨d,f⟩:=k _ ys H BO p;rw[BA (AX5 d) (~~~a3C j f) AV3]),λH6 S ys hl D P6 f6 L=>?_,(by .rw[AV1 (b3r T i n g h1 h2)];rw[AS1 f]),W.frame _ s' _ _ z0 ABO (BT b zA o e),∀{a b:LLI},G2 a->G2 b->a.Nodup->b.Nodup->(A55 a (v∈b))->a=b,(by rw[ARS (BIM AA7 I.typ slot_seti_next slot_seti_next I.typ a0L a1v)]),(by rw[COL 0 z0];show KF _ (jP (AC5 CLT) _);rw[BC (show ¬(AC5 CLT)from Bool.false_ne_true)];rw[COL 1 zA];show KF _ (CLF t>>=_);rw[API zB hdl]),(by rw[CQ9 I.tuple I.tuple];have:=AV2 z0 X.A (BHV d.toArray p1) (show s.heap.IsTuple c ws.toArray from p2) AU9 AUX),⟨xs,zs,AQO,zs[i],h,j,z0,BJY⟩,(.of (owner:="set_iterator") (n:=z0) (by rw[typeLookup_type,builtinLookup_eq_fast];kernel_rfl) FV FV FV),SetTable.layClean.free mask owner (BE0 mask) jG (SetTable.bits h),AAY CV GW/\EC CV/\CV≠X.env.locals/\CV∉X.fs/\CO6 (GW).data,⟨_,rfl,p,dx,_,rfl,t,WQ z0,?_⟩,(by obtain⟨a,p,ys,B,rfl,rfl,hs,z0,zA,zB,q⟩:=h),(by rw[AYJ CN4 CN4 (BQ x') [BQ d] (BQ d) g (DZ x'::WI (DZ d))];rw[HS AGV]),(by simp at h1 h2;subst h1;subst h2;rw[CPX z0 p zA];rw[zB λv b=>(List.nodup_cons.mp nd).1 (List.of_mem_zip b).1,zC];simp),g x r H' _ l (z0 s) s λH2 s2=>zA,(by rw[QG n rfl h1 h2 k];rw[GF (z0 (Q5 zA) EO)];rw[VT b]),(by exact⟨_,_,_,[],[],z0,AJ,AJ,xE,CR1⟩),λz0 t pp zs u ws F W k' H1 s1 zA zB hI zC zD zE zF zG zH=>?_,∀(w:World) (mg:BJ) (fa:qE) (h:Heap),BG2 h->AWW->z0,σ=[FB a0,dD,o2,z0,zA,zB,o6,o7,o8,o9,o10]/\zC,(by have e0':BOE (λl p=>l++p) n.toNat its.toArray=BMP n.toNat:=e0),(by rw[CXQ PySem.F.slot_dict_get PySem.F.entry_dict_get PySem.F.args_dict_get_3 z0 zA];rw[l];exact(c.val k).getD i),(by rw[NH c d];rw[VN p xs rfl a b fs q];cases d;rcases a with a|a),(by obtain⟨a,n,r,s',c,p,us,rfl,e1,e2,z0,zA,e6,e7,e8⟩:=zB),(by rw[CYM z0 zA D];rw[ARS (BIM AA7 I.typeIs PySem.F.slot_dict_keyiterator_next PySem.F.slot_dict_keyiterator_next I.typeIs PySem.F.entry_dict_keyiterator_next PySem.F.args_dict_keyiterator_next_1)]),(by intro A u v f l m;rw[pI l m];rw[BM c a b]),(by rw[D03 (CY7 z0 ec i _ s3) Z CVW zA]),wpAny_Dict_empty (AB7 (I.laid (a:=s.heap.objs.size) (o:=z0) (t':=s.toks) BLM BO zA) (h _ aY)),∀(qs:YG) (d:Dr),DX q qs (CXK (CIR ED))->(z0).Nodup->HK (zA+qs.length)->A52 (CVO qs.map zB) zC,∀(v:V) (H':Hp) (N:VK),SQ->(∀u c,R u->CT1 c->Off ZH H' c->N u c)->te AEF H' N,(by obtain⟨m,⟨o,es,ep,z0,r⟩,_⟩:=id I.loc;rw[jH sl zA]),(by obtain⟨⟨cls,dd,data,sl⟩,z0,zA,n,hd⟩:=id q),(by rcases a0g r _ _ h with⟨d,e⟩|z),∀{st':SortSt}{runs:qU}{rest:LZ},CNP->z0=sz,(by unfold z0;rw[Array.toList_append,Array.toList_append,a3R,a3R,Array.toList_reverse,List.drop_zero,List.drop_zero]),{j:=z0,more:=zA,i,perturb:=pt,dummy:=none},richCompare_meets_room (op:=.Lt) (LN z0) zA PySem.F.slot_tuple_lt PySem.F.entry_tuple_lt (BS PySem.F.args_tuple_lt_2) zB,h n st Kept.refl l b q,(by have z0:t.probe (λi=>(es[i]?.map (·.1)).getD 0) WM (D0 t.mask CKE d)=_:=zA;erw [zB];dsimp only),(by have:L=a:=U0 d l e m λv=>BIL f n;rw[pJ];rw[BA (i.trans o.symm) (j.trans p.symm) rfl]),(by rw[VN ne cs l t k z0 zA];exact⟨ne,cs,l,t,k,zB,zC⟩),(by refine call_meetsIn PySem.F.slot_dict_get dd.typeIs PySem.F.entry_dict_get (BS PySem.F.args_dict_get_2) z0 zA;rw[l];exact CI0 getD rfl),z0 a m g st l C d b H,eY ((AFU (min ns.length ms.length) all (λj=>z0) && ns.length==ms.length)) BI3,(by .rw[GA its.toList r z0 ?_];have e:=r.length;simp only[Array.length_toList]at e;exact b2e d e),(by have f:=e.typeIs;obtain⟨o,z0,n,g,_,hd,hi⟩:=e),(by .obtain⟨its,r',pl,hz⟩:=z0 b;have a:=r'.length;exact zA zB (by simp only[List.size_toArray]<;>omega) (BB4 (BQ ys.length) ⟨gW,KA List.size_toArray a⟩)),(by rw[ADV (E5 hb) j u e y u e]),ATT v (SysAt H' v d.names d.rows d.sides d.capsL d.pricesL) A2B,λqK s σ H D R I h=>?_,z0 c o (jF I.cne) G h y (I.freeC x c e),BI (BI a3b P P w w (l:=outer) (H:=z0)) H' zA h0 zB (h1:=zC) (h2:=zD),∀i x ys H,aT->A57->BNB x λσ2 H2=>BO2 l h h m m h,⟨I.ok,I.os,I.bare,⟨COP,COP,I.base.free,ACX e l,I.base.tups,I.base.frzs,I.base.tbls⟩,z0,zA,I.free,I.freeC,vT P,f ⟨zB,zC,zD⟩ hs,BL I.len⟩,(by rintro i x σ H' hx ⟨o,rfl,s',hB⟩),(by rw[BOC _];rw[BGC y];refine ite_congr rfl A3C (DF (gJ AX4 _));rw[A28 g];rw[iN (A5E c) r]),(by rw[CQ8 g m q];dsimp only;refine BI b3w lo z0 hi zA d p mono neg zB (BH zC u) zD zE h;rw[XW q]),(by .have:=pK;rw[AS0];simp only[List.mem_cons,List.not_mem_nil,or_false];exact GH (AQ9 this) Nat.ne_of_lt this),(by rw[A62 G z0 zA p];refine⟨a,b,I,_,rfl,zB G,A0,J1 zC p,CUL,BKJ 3,zD⟩;rw[CYI B B]),(by subst k;rw[BP7];rw[QG p ys x y z];exact z0 a b c d e f g i j ⟨p,ys,x,y,z⟩),(by obtain⟨m',hm,z0⟩:=AH hN zA;obtain⟨b1,b2,b3,b4,b5⟩:=back (pl:=[]) zB),∀(qK:DC) (s:qC) (σ:St) (H:Hp) (z0:zA) (zB:zC),AL->zD->zE,(by obtain⟨p,ar,as,ac,ap,l,ws,d,z0,zA,zB,zC,zD,zE,k⟩:=h),(by .rw[CZ3 b hb];rw[LU i t CU5];refine BID (z0 7 ABT);rw[pL YF (vC (CWY j j))]),["enumerate","zip","dict_itemiterator","dict_reverseitemiterator","odict_iterator","itertools.zip_longest","itertools.pairwise"].contains,(z0 zA (CXD zB []) zC (by show([]++_).Nodup;exact(G9 ns zD).nodup h.nm.nd) (a _)),(by .subst hj;rw[AGS hi];rw[AX (List.getElem?_set_self hiσ) e2 e2];rw[BA u r z0]),∀H' p ys,BCW xs.length->CMD->SQ->OZ->pC->mC CVZ,z0 (CO1 sa sb) (CO1 sb (sb+n))>>=mgC sa,(by rw[AZ (z0 λh₂ h1₂ hs₂=>A63)];have hTO₂:CNZ h₂:=CO4 D.TOi1 D.TOz zA;rw[AES hTO₂]),(by .have:=(z0 e g i q).same I (X3 c);rw[F2 this c SeqAt.EqAt.same _]),(by exact g i qK s1 σ H1 Q d e),z0 (envOfC qual scope s.heap.objs.size f cd).kindOf (ps.zip us) λ_=>none,⟨_,rfl,z0,_,rfl,zA,_,_,rfl,rfl,zB,zC,?_⟩,⟨_,rfl,_,rfl,p,C,dx,_,rfl,z0,U.cl,zA,zB,?_⟩,⟨_,rfl,_,rfl,_,rfl,v,z0,zA,ns,rss,zB,zC,zD,rfl,zE,hG,zF,zG⟩,(by rw[ATR wpAny_Call_Name_kw (a2t I i j l ?_ k a)];exact z0 (BOM o n m (bJ f vs o Q c n m)) g b),(by rw[ATR z0 (eN f j)];rw[SL x e i d j];rw[GV c d d];rw[BN0 i]),(by .rw[RK l pl g z0 w];rw[wF G F n hd zA];have d:=l.length;rw[EF its l g (λD E B k=>wpAny_collect_seq p zB G F hd (λh' k'=>k h' k') (by rw[CKS];exact M5 g d))]),PySem.W.fnOf name qual c body scope D kV h pm an a ct,(by rw[bC e f (h q List.mem_cons_self)];rw[CS9];rw[MR (z0 qs zA (λr g=>h r CRF) CR7 (by rw[AFD];show _+1+_<=_;exact c0c a)) List.append_assoc];rw[oK .cons (zB c (λz=>v9 (List.nodup_append.mp b) _ z _ List.mem_cons_self rfl) (OJ b9Q) e f)]),(by rw[oD S p8 a6];rw[HW s8 s7.upd z0 a6];rw[TL e8 (upd H6 S zA) p8 zB p8 zC];generalize ATM H6 S zD p8 zE=H8 at s8 e8⊢),⟨_,rfl,p,_,_,_,rfl,rfl,A4R,a6W,_,rfl,z0,_,rfl,zA,zB,zC,?_⟩,⟨_,rfl,VC z0,_,rfl,_,rfl,zA,_,rfl,XS zB,a,b,_,rfl,zC,zD,OQ hm,zE⟩,(by rw[DR us W U zu I.sqk m];rw[DR ws B V zw I.sqk n]),(by rw[CQ6];obtain⟨xs,j,l⟩:=A;rw[RK B p M z0 j];rw[ARU m n q r g];have G:=B.length;exact zA CRQ st zB (AT7 M5 l G) λh' F=>EQ (AUZ (BNL F) m n q r)),∀{P:AC}{vs:AN}{i:Nat}{m:BJ},P.Nodup->OD P->A4B->z0,(by refine VF ⟨rfl,z0,zs,a9,A0,IH a7.symm zA,a4O zB zC wT,I,zD,SE zE,wM hv⟩),z0 X rfl rfl rfl O i qK P σ3 B X.xe M (p w) z zA,cS WalksS A.in1 I fp wr G n P St,(by refine Eq.trans ?_ (HT.clip_eq i n z0);simp only[sliceBounds,Option.getD_none,AA9 CRU,if_true];exact b0S i n),⟨z0,_,_,j,V.str zA,rfl,rfl,zB,AF,AF,zC,QF List.getElem?_map ATN,?_⟩,(by .subst d;rw[AY8 f];refine z0 (tupleKind_room_in1 j) (a1k I.hok i) hd dd ?_;rw[GL q CN7 Option.isSome_map q];rw[CPQ q]),(by rw[List.getElem?_set_ne (Ne.symm hj)]at e2;obtain⟨S,R,q⟩:=W j y T e1 e2 K;rw[LT S R]),(by .unfold a1o;refine mB (BBD (BBD (mB (ANG g))));generalize CZ0=o;rcases o with _|⟨a,b,o⟩<;>rfl),AB0 {s with heap:=h',gens:=g',drawn:=d',toks:=t'},(by obtain⟨_,v,e2,m⟩:=p.mem c;rw[AX q e2 e2];rw[jH j (s b _ q m)]),(⟨0,rfl,z0,y _ zA,Nat.succ_pos _,AF3 (by clear z l ex o e f v;congr 1;exact c5N h1 h2)⟩),(by intro i s D C hi f E B hR),(by obtain⟨_,cs,l,t,k,h1,h2⟩:=h;rw[AYC];rw[AY z0 zA]),(by obtain⟨⟨a5,ah,hs,h1,h2,h3,h4,h5⟩,_,_,_⟩:=id O),(by rintro i σ H' hi ⟨z0,zA,zB,rfl,c1,c2,zC,zD,zE,P',o'⟩),(by rw[FT (A1N 1 b8Y b) (λp d=>⟨_,rfl,p,z0,n,rfl,rfl,A0,AJ,h1,?_,BT q H' s e⟩)]),⟨_,_,_,_,_,_,_,_,_,rfl,z0⟩,(by refine⟨_,rfl,z0,_,rfl,zA,_,_,rfl,rfl,_,rfl,nS⟩),(by rw[lX _ _ z0];rw[AE8 (nR slot_list_sort (LN f) entry_list_sort (a1V (s:=zA) f T2 hw zB λos j hs=>A47) args_list_sort)];obtain⟨c,zC⟩:=a1T (out:=os.toArray) f;rw[RT (DK zD)]),(by rw[kD f fd h1 h2 g F.ex z0];rw[D0E j h2.ex i (CZU E i d) h.h]),⟨_,rfl,_,_,_,true,rfl,YB,rfl,_,rfl,B5 ?_⟩,(by rw[ABL q p u g a q p];rw[ARU j l m n g];have a:z0:=a),∃o8 L R,σ=[dD,CME,ATG,DZ fi,CLD,DZ gi,FB p9,FB p11,o8]/\z0,(by rw[lY Q d];refine z0 (thn (AOO h pos d) λf s1 ⟨xs,H1,a,r,z,q⟩=>HR (BKM z));have c:AFQ s1.heap.objs.size:=BK3;refine GJ (AM s1.heap.objs.size) zA (a.laid (t':=s1.toks) (kK WZ) BO ?_) (q _ c)),GQ (AAO (names.map λATW=>if (k==NameKind.free && env.scope.kind==.function && CRH==AQ .cell)then(n,NameKind.cell)else ATW)) k,(by rintro i v ys H' hv ⟨h1,h2,P',o'⟩;rw[ADW BIG d (f v H' _ P' λu c z0 e j=>⟨IF h1,CTT,e,o'.trans j⟩)];rw[BN9]),(by intro i s xs O hi r y T d hR),(by .rw[RK d pl c z0 f];have a:=d.length;rw[wF i g n hd zA];exact call_list_seq p zB i g hd (λh' c' kp e=>fin its d c h' c' kp e) (CXB c)),⟨_,rfl,_,rfl,a,y,us,rss,ys,rfl,ha,hI,hy,z0,zA,hs,ADS v zB⟩,(by exact⟨_,_,qL,g,rfl,z0,zA,y,I,h1,h2,a0 g CRX zB,~~~b8S B,λm e=>by rw[AY5];rw[uS c0B]⟩),(by .rintro σ H' ⟨o,rfl,s',hB⟩;rw[bO GE hB];have:=k H' s';rw[A5Z hB]),(by rw[CXC z0 zA zB];refine Q0 zC r n zD ?_;rw[CXP d Q m u];have O:lS σ1 (CI5 c) (AC9 Q):=CYS P m j.trans u;refine BMF ((zE p).h qK _ _ _ N (O.held p) CUJ) (DS f s8 a)),(by .obtain⟨_,hd,z0,_,dd⟩:=zA;rw[FY dd.typeIs CSK hd];cases q;obtain⟨c,_,_,h1,h2,_⟩:=dd;rw[BA c h1 CL2]),(by obtain⟨_,xs,rfl,⟨a,rfl,ha⟩,hx,hl,k⟩:=h;rw[GF (A6G (WO z0 (A50 W6 T.b_str)))]),∃f oc od sl kV dc pm an cd ct,z0,(by rw[bC J B (N2 its r)];exact z0 M zA J (XO (c5i I.hok (BJK B))) (by have:=r.length;simp;rw[oK b9e N]) (~~~b9t R) λh' tk xs m g y=>step its r h' tk xs c B m g y),(by rw[ABL m l p c q m l];rw[ARU d f g j c]),∀(i:Nat) (v:V) (x:α) (H1:Hp) (e:VK),A4B->OD as->LQ->A5F (e (f x) H2)->te AEF H1 e,(by obtain⟨v,x,m,ns,rss,ss,cs,ps,rfl,z0,hG,zA,k⟩:=h),(by rw[ADW BIG c (d i v as[i] H' _ hv XR s λH2 s2=>CRV)];rw[BM5 XR]),(by rw[CQ6];obtain⟨xs,x,j,l⟩:=A;rw[RK B p M z0 j];rw[BX u J N B.get l];rw[ARU m n q r g];refine zA st zB (x:=u) (BL J) λh' st' O=>?_;have D:AVN:=AUZ (QC o f (A2T O.2 b f e)) m n q r;rw[CZP];rw[QQ u (D00 RP x D N (EQ (λys L=>AG (zC L j) l)))]),(by obtain⟨z,y,z0,r,g,es,ep,e,c⟩:=x;exact⟨z,y,zA,zB,g,es,ep,fC,c⟩),(by .obtain⟨a,ys,qN,rfl,ha,hI,hL⟩:=z0.2 i v zA;obtain rfl:x=qN:=CQK zB hL;rw[DO (oQ a _ rfl (aQ (XF ha)) ?_) GE];have h1:=zC;exact a2O (COU CQU (by exact a8x h1)) (k2 _ A24)),(by rw[MZ];refine thn (UH hi) λq s1 (RU y b n k)=>A6A e b k u p;rw[CZV x m j];exact z0 f c g n λr d=>GJ (.bl zA) H2 d l),(by rw[CVV kind_sorted plain_sorted entry_sorted args_sorted1];unfold Builtin.«sorted»;refine BID (checkCount "sorted" 1 1 _);rw[BNS z0 AF];have f:AVG h1.push AOJ h1.objs.size AOJ:=JV;have a:CUV BDO:=λb its (UV zA zB)=>UV (OB (AH k1 zC)) zD;have T2:=T.keeps a;have d:CZF h1.push AOJ:=zE),(by obtain⟨σ3,a,g,k⟩:=e;obtain⟨j,i,l⟩:=o σ3 a k;rw[GZ j i σ3 a g l]),(by refine a0M z0 TT zA (OQ zB) λh1 h' os c tk k1 k2 e hp hs=>?_),(by intro j h t p c u T y g n C),(by obtain⟨_,_,xs,ys,rfl,⟨a,rfl,ha⟩,⟨b,rfl,hb⟩,z0,k⟩:=h),λz0 t b pp zs ys u H1 s1 zA zB hI hb zC zD=>?_,(by rw[u0];have q:=z0 c d;subst q;simp only[Nat.min_self,Bool.and_eq_true,beq_self_eq_true,and_true,List.all_eq_true,List.mem_range];intro j a;exact f j _ _ AE5 AE5 rfl),(by obtain⟨a,y,us,rss,ys,rfl,ha,hI,hy,z0,hl2,hs,k⟩:=h),(by obtain⟨nt,p,ns,xs,rfl,hn,hp,hN,hl,hnl,z0,hwl,k⟩:=h),(by rw[ACF ex t (G5 r1 h1')];obtain⟨y,p,w⟩:=G5 k d;exact r j x y ex p (UG (gM (A.units+1) n) b9W f) t w),(by obtain⟨t,us,qN,n,rfl,ht,hI,hF,n1,n7,k⟩:=h;rw[ZG z0 500000]),(by rw[CLV k l ra];rw[CLV i j rb];rw[hX f g List.nodup_cons.mp na];rw[hX c d List.nodup_cons.mp nb];have e:x=y:=z0),⟨_,rfl,z0,_,0,II,rfl,rfl,zA,rfl,t,zs,_,ns.length,rfl,zB,hI,zC,zD,zE,A6I⟩,(by rw[NH m o];obtain⟨n,b,z,g,⟨a,c,rfl,rfl⟩,q⟩:=h;rw[pI m o];show KF _ (richCompare z0 CC XE);have key:zA X.A s CC XE zB:=zC),(by rw[AW4];refine eN f k;rw[SL x c j i k];obtain⟨a,e,⟨xs,g⟩,q⟩:=i;rw[CK];cases j;rw[RK n p m z0 g];rw[D04 zA zB c.kept (zC a _)]),∀(h:Heap) (tk:Nat) (i j:Nat) (z0 zA:qB) (Q E:qH),zB->CB vs zC->GU vs zD->A39 (zE i j) (A2L h)->FN KK A.in1 zF Q E (A2L h),(by .rintro ys H' ⟨h1,h2,P',o'⟩ p hp;exact hd H' p ys h1 h2 P' o' hp),(BI a9x ld a h0 s.heap z0 s.heap.objs.size D AWE rows y u hn (show gM (A.units+2) 10 by exact b9J hu) CUF 0 _ [] CQG (Nat.zero_le _)),(by rw[A5G z 2 hz AQU];rw[A5G z 3 hz (AM TI)];rw[AES z0];rw[AAP (PU Builtin.SmallTypes.ownedTupleIsFree z)];rw[D05 hz];simp only[if_true];rw[OE wpAny_rule];rw[BBZ hz (AM TO)];rw[xJ (A6K hz h₁ hz₁ hs₁ ?_) hz₁ (AUK h₁) hz₁];rw[OR];simp only[List.zipIdx_cons,List.zipIdx_nil,List.forIn_cons,List.forIn_nil];rw[AZ BLD];rw[BM8 zA]),(by rintro x c st' _ H ⟨rfl,l,o,rfl,f,r,g,m⟩;rw[BJ7 (o ≥ z0)]),(by obtain⟨p,ra,ca,af,aw,b,L,F,W,rfl,D,k⟩:=h;rw[AYK z0 zA zB zC zD vM];rw[GF zE];refine zF),(by obtain⟨it,fp,tn,J,H2,e,z0,T,zA,f2,W,⟨m0,w0⟩,turn⟩:=h2;rw[CK]),(by rw[QP ⟨_,rfl,_,rfl,p,_,_,_,rfl,rfl,A4R,z0,_,rfl,nt,_,rfl,BKP,rfl,CS6,?_⟩]),∀(a:qB) (A:Around) (outer:IL) (s:qC) (H:Hp) (vs:AA) (Q:VK) (E:XK),CHE qual z0,⟨ok.mod,ok.kind,ok.glob,ok.blt,ok.above,ok.inj,ok.has,ok.cab,ok.hd,ok.frames,ok.stk,ok.exf,ok.bs,ok.bsz,ok.noex,ok.exfs,ok.funs,ok.frf⟩,(by have ap:A4I A4G (a≠c/\IB c):=λc f=>⟨CPB m,CPB n⟩;have J:ZipApart z TI TO g j a b:=⟨D.TIz,D.TOz,D.i1z,D.i2z,D.TITO,D.TIi1,D.TIi2,D.TOi1,D.TOi2,D.i12,(CMW).1,CL0 TO,CL0 g,(ap j AJ).1,(CMW).2,CL5 TO,CL5 g,A5T ap AJ⟩;obtain⟨ua,ub,p⟩:=st.to;have C:vK z "zip":=LN st.zz;rw[ARS z0]),(by intro qK s σ H x v l m lo hi sl Q I j hs g i h),∃nm q N bs bm hdct sn sub ab col dd k0 k1 k2 k3 k5 qR,A38 C COT/\BLH/\z0,∀(qK:DC) (s:qC) (σ:St) (H:Hp) (x:V) (xs:AA) (v:qB) (us:AN) (Q:VK),BHN aZ z0,(by rw[BP3 ⟨_,hi,p,dx,_,rfl,g1,aH z0,p,ra,ca,af,aw,b,L,F,W,rfl,D,k⟩]),(by rw[CZG CK2];refine⟨_,rfl,p,C,dx,_,_,rfl,JU t,U.cl,z0,zA,tn,p1,zB,_,_,_,_,rfl,JU M,A0,zC,u,r,h1,h2,q,BOY e2 ((D.same s1).putK zD c rfl rfl rfl zE zF) (c.mono λb m=>by rw[CSB];unfold L5;simp)⟩),⟨_,_,rfl,rfl,z0,_,rfl,zA,_,1,F0,rfl,rfl,FU (XF zB),rfl,b,ys,_,ns.length,rfl,XF hb,zC s2,zD,zE,zF,zG⟩]
local macro_rules|`(~~~$t)=>`(by exact $t)
noncomputable abbrev LLI:=List (List Int)
noncomputable section
inductive LqE where
 |v (i:Nat)|k (n:Nat)|a (x y:LqE)|s (x y:LqE)|m (n:Nat) (y:LqE)|t (y:LqE) (n:Nat)|n (x y:LqE)|x (x y:LqE)|c (x:LqE)|g (x:LqE)
inductive LqR where
 |r (z:Bool) (o:Nat) (x y:LqE)|no (f:LqR)|F
noncomputable def c4h{α:Type}(d:α)(l:tI α):QZ α:=List.rec (DF ((λ_:PF->PF=>d) λl=>l.mergeSort)) (λx _ f i=>Nat.rec x (λj _=>f j) i) l
noncomputable def K1(ns:PF)(e:LqE):Nat:=EZP ns n (EOG n) (λ_ n a=>a*n) (VB a b (min a b)) (VB a b (max a b)) DCG DCG e
noncomputable def a8L(ns:PF)(zs:CW)(e:LqE):Int:=EZP zs FE (EOG FE) (λ_ n a=>a*FE) E6K E6K (λx _=>EA v0) (λ_ a => - a) e
noncomputable def b5O(ns:PF)(zs:CW):OX LqR
 |A2Q true 0=>B3F<=BWY
 |A2Q true 1=>B3F<BWY
 |.r true _ x y=>B3F=BWY
 |DC7 0=>DWA
 |DC7 1=>DWD
 |.r false _ x y=>EM3
 |B1H=>¬B55
 |.F=>False
noncomputable def G0:CW->(IZ)->Int
 |[],_=>0
 |fR,ρ=>a*ρ 0+G0 l (λj=>ρ NK)
noncomputable def a3G:CW->CW->CW
 |[],m=>m
 |fR,[]=>fR
 |fR,b::m=>(a+b)::a3G l m
noncomputable def b0u(k:Int)(l:CW):CW:=l.map (k*·)
noncomputable def a0O(l m:CW):CW:=a3G l (b0u (-1) m)
noncomputable def b8Q(j:Nat):CW:=List.replicate j 0++[1]
theorem N6:∀(l m:CW) (ρ:IZ),G0 (a3G l m) ρ=ADT+C6H
 |[],m,ρ=>(B1W Int.zero_add)
 |fR,[],ρ=>(B1W Int.add_zero)
 |fR,b::m,ρ=>by rw[a3G,G0,G0,G0,N6 l m,Int.add_mul];omega
theorem a0x(k:Int):∀(l:CW) (ρ:IZ),G0 (b0u k l) ρ=k*ADT
 |[],ρ=>(B1W Int.mul_zero)
 |fR,ρ=>by rw[b0u,List.map_cons,G0,G0,Int.mul_add,<-a0x k l,Int.mul_assoc];rfl
theorem G3(l m:CW)(ρ:IZ):G0 (a0O l m) ρ=ADT-C6H:=by rw[a0O,N6,a0x];omega
theorem a4I:y4 j ρ IZ (ECL ρ=ρ j)
 |0,ρ=>wC (1*ρ 0+0=_)
 |NK,ρ=>by show 0*ρ 0+ECL _=_;rw[PZ (a4I j)]
noncomputable def a2Q(ns:PF)(zs:CW)(j:Nat):Int:=BCY (j=0) (if j % 2=1 then(EA (c4h 0 ns (j / 2)))else c4h 0 zs (j / 2-1))
noncomputable abbrev LqA:=tI (LLI×CW)
noncomputable def b2J(f:DTO)(p q:LqA):LqA:=p.flatMap λx=>q.flatMap λy=>(f NB y.2).map λz=>(EN++bN++bB,z.2)
noncomputable def a7p(f:DW3)(p:LqA):LqA:=p.map λx=>(EN,f NB)
noncomputable def Z8:DW0
 |AI8=>(vD E6Y)
 |A5Y=>DCL
 |AIQ=>BO6 E48
 |AIR=>BO6 [([r8],r8),([A6J],[])]
 |AME=>DP8
 |AMC=>DP8
 |BU3=>EBW p q
 |BU4=>EBW q p
 |.c _=>B3E
 |.g _=>B3E
noncomputable def a2S:DW0
 |AI8=>(vD (b8Q (2*i+2)))
 |A5Y=>DCL
 |AIQ=>E8F E48
 |AIR=>E8F (vD r8)
 |AME=>DP9
 |AMC=>DP9
 |D2M=>B3E
 |D2N=>B3E
 |.c x=>Z8 x
 |.g x=>a7p (b0u (-1)) (a2S x)
noncomputable def a1x(ρ:IZ)(p:LqA)(i:Int):Prop:=∃x∈p,DX l EN B09/\AEQ NB
theorem F6{ρ:IZ}{l:CW}{i:Int}(h:C06):AGN (vD l) i:=(GT AZN ((B6O)) h)
theorem a1f{ρ:IZ}{f:DW3}{p:LqA}{i j:Int}(h:DO3)(a:∀l,C06->G0 (f l) ρ=j):a1x ρ (a7p f p) j :=
 let ⟨x,hx,h1,h2⟩:=h;(GT (AH3 (NJ x hx)) h1 (a _ h2))
theorem Z7{ρ:IZ}{f:DTO}{p q:LqA}{i j k:Int}(h:DO3)(h':a1x ρ q j)(g:∀l m,C06->G0 m ρ=j->AGN (f l m) k):AGN (b2J f p q) k:=by
 rw[SK x n h1 h2];obtain⟨y,o,b,c⟩:=h';obtain⟨z,r,d,e⟩:=AK g h2 c;refine GT (AJW x n (AJW y o (AH3 (NJ z r)))) (jI l) e;rw[C2H]
 .rw[C2H]
  .exact h1 l a
  .exact b l a
 .exact d l a
theorem a3F{ρ:IZ}{l m p q:CW}{i:Int}(h:(B09/\AEQ p)∨(0<=C6H/\AEQ q)):AGN [([l],p),([m],q)] i:=by
 rw[EVG]
 .exact GT List.mem_cons_self (BZ7 h1) h2
 .exact GT B0K (BZ7 h1) h2
theorem P0(ns:PF)(zs:CW):∀e,a1x A8Y D30 (BG (K1 ns e))
 |AI8=>EY6 AI1 (AFV i / 2)
 |A5Y=>ETY
 |AIQ=>(AV8 P0 AU4 DUQ)
 |AIR=>(CE6 (_/\_=EA DW8) (_/\MX=EA DW8))
 |AME=>(ERA AU4)
 |AMC=>(EQA AU4)
 |BU3=>CE6 DPM DPM
 |BU4=>CE6 DPN DPN
 |.c _=>AZM
 |.g _=>AZM
theorem a1g(ns:PF)(zs:CW):∀e,a1x A8Y D31 (a8L ns zs e)
 |AI8=>EY6 A5V ((2*i+2) / 2-1)
 |A5Y=>ETY
 |AIQ=>(AV8 a1g B33 DUQ)
 |AIR=>(AV8 a1g B33 (CWF G3))
 |AME=>(ERA B33)
 |AMC=>(EQA B33)
 |D2M=>AZM
 |D2N=>AZM
 |.c x=>AP4 P0
 |.g x=>a1f (AP4 a1g) λl h=>by rw[a0x,h];show _ = - B3F;omega
noncomputable def c9k(z:Bool)(o:Nat)(p q:CW):AI9 :=
 match z,o with
 |true,0=>[[A6J]]
 |true,1=>[[B6E A6J]]
 |true,_=>[[A6J,r8]]
 |false,0=>[[B6E r8]]
 |false,1=>[[r8]]
 |false,_=>[[B6E A6J],[B6E r8]]
noncomputable def c7w(z:Bool)(e:LqE):LqA:=if z then D31 else D30
noncomputable def c4i(b:Bool):LqR->AI9
 |C72=>ECR x λp=>ECR y λq=>FQ (c9k b o GW DB) (p.1++q.1++·)
 |B1H=>c4i (! b) f
 |.F=>if b then[] else[[]]
noncomputable def a4C(ρ:IZ)(c:LLI):Prop:=∀l∈c,B09
noncomputable def c7t(ns:PF)(zs:CW)(z:Bool)(e:LqE):Int:=if z then a8L ns zs e else K1 ns e
noncomputable def c0Y(o:Nat)(i j:Int):Prop:=match o with|0=>uJ|1=>i<j|_=>jN
theorem c0X{ns zs z o x y}:BFA C72↔c0Y o (E6I c7t) (DUI y):=by
 match z,o with
 |true,0=>rw[BPN]
 |true,1=>rw[BPN]
 |true,_+2=>rw[BPN]
 |false,0=>show DWA↔D21<=BG A3F;omega
 |false,1=>show DWD↔BG v0<D22;omega
 |false,_+2=>show EM3↔D21=D22;omega
theorem a3E{ρ:IZ}{l:CW}(h:B09):B6F [l]:=BZ7 h
theorem a4J{ρ:IZ}(h:B7T):G0 [-1] ρ = -1:=by show -1*ρ 0+0 = -1;rw[h];rfl
theorem c4j{ρ:IZ}(h0:B7T){b:Bool}{o:Nat}{p q:CW}{i j:Int}(hp:AEQ p)(d:G0 q ρ=j)(h:if b then E5A else ¬E5A):∃c∈c9k b o p q,a4C ρ c:=by
 match b,o,h with
 |true,0,h=>rw[AJX (a3E (by have h:uJ:=h;rw[PZ G3]))]
 |true,1,h=>rw[AJX (a3E (by have h:i<j:=h;rw[BOQ]))]
 |true,_+2,h =>
  have h:i=j:=h;rw[AJX (λl a=>by
   rw[lM]
   .rw[PZ G3]
   .rw[A4P,G3];omega)]
 |false,0,h=>rw[AJX (a3E (by have h:¬uJ:=h;rw[BOQ]))]
 |false,1,h=>rw[AJX (a3E (by have h:¬i<j:=h;rw[PZ G3]))]
 |false,_+2,h =>
  have h:¬jN:=h;rw[UX z j]
  rw[DMA List.mem_cons_self]
  rw[DMA B0K]
theorem b0x(ns:PF)(zs:CW)(z:Bool)(e:LqE):a1x A8Y (c7w z e) (DUI e):=by
 cases z
 .exact P0 ns zs e
 .exact a1g ns zs e
theorem a2R{ρ:IZ}{c d:LLI}(h:a4C ρ c)(h':a4C ρ d):B6F (c++d):=λl a=>E9P (h l) (h' l)
theorem a4H(ns:PF)(zs:CW):GC b Bool f LqR (MW b B55 (¬B55)) (∃c∈c4i b f,a4C A8Y c)
 |b,C72,h=>by
  obtain⟨p,i,h1,h2⟩:=E6I b0x;obtain⟨q,j,a,d⟩:=b0x ns zs z y;rw[bC g e (c4j (b:=b) (o:=o) rfl h2 d (by rw[c0X]at h;exact h))];exact FP (AJW p i (AJW q j (AH3 (NJ c g)))) (a2R (a2R h1 a) e)
 |true,B1H,h=>a4H ns zs false f h
 |false,B1H,h=>a4H ns zs true f (Classical.not_not.mp h)
 |true,.F,h=>h.elim
 |false,.F,_=>⟨[],AZN,B6O⟩
noncomputable def c7v:A5X->LqR->AI9
 |[],g=>c4i false g
 |C1G,g=>(c4i true f).flatMap λc=>(c7v fs g).map (c++·)
noncomputable def b3m:DLN PF
 |0,P=>P []
 |CS,P=>EG0 Nat b3m
noncomputable def b3l:DLN CW
 |0,P=>P []
 |CS,P=>EG0 Int b3l
theorem c1b{P:OX PF}(h:DWW):∀n,b3m n P
 |0=>h []
 |CS=>E0G c1b
theorem c1a{P:OX CW}(h:DWW):∀n,b3l n P
 |0=>h []
 |CS=>E0G c1a
noncomputable def K4:Nat->Nat->tI LqE->A5X->DWS
 |0,c,_,rs=>(c,rs)
 |f+1,c,st,rs =>
  match A4E,st with
  |0,_=>(mK,rs)
  |1,st=>EIX BX0
  |2,DB8=>EIX (n*28+BX0)
  |3,fP=>gE AIQ
  |4,fP=>gE AIR
  |5,y::DB8=>gE AME
  |5,A5Y::y::st=>gE AMC
  |6,fP=>gE BU3
  |7,fP=>gE BU4
  |8,AOR=>gE (.c x)
  |9,AOR=>gE (.g x)
  |10,fP=>C14 0
  |11,fP=>C14 1
  |12,fP=>C14 2
  |13,fP=>C13 0
  |14,fP=>C13 1
  |15,fP=>C13 2
  |16,st=>(match rs with|B37=>ARR (.no r) | []=>D9V)
  |17,st=>ARR .F
  |18,AOR=>gE (.a x (.k 1))
  |i+19,st=>gE AI8
  |_,_=>D9V
noncomputable def c5Q(c:Nat):DWS:=K4 99 (ECC mK CRZ) [] []
noncomputable def c4d(c:Nat):A5X×LqR:=match (c5Q c).2 with|g::fs=>(fs.reverse,g) | []=>([],.F)
noncomputable def c4e(rows:LLI):QZ (Nat->CW->CW×Nat)
 |0,c,s=>(s,c)
 |f+1,c,s=>if A4E=0 then(s,mK)else c4e rows f mK (a3G s (rows.getD D3G []))
noncomputable def c7u:A36 CW
 |[]=>false
 |fR=>CJ (a<0) && l.all (· == 0)
noncomputable def c4f(b0t:LLI):AD9 AI9 Nat
 |[],_=>true
 |B37,c=>let p:=c4e (r++b0t) 99 c [];c7u (if A4E=0 then r.foldl a3G [] else CV) && c4f b0t rs GW
noncomputable def b0t(n:Nat):LLI:=AWX E6Y
noncomputable def c5R(c:Nat):Bool:=c4f (b0t DKZ) (c7v DR8 DQY) (c5Q c).1
theorem c4c(ns:PF)(zs:CW)(n:Nat):a4C A8Y (b0t n):=λl a=>by
 rw[eQ i AHQ];rw[a4I,a2Q,A5V,AI1];exact Int.natCast_nonneg _
theorem b4a{ρ:IZ}{rows:LLI}(h:B6F rows):∀(f c:Nat) (s:CW),EHL->0<=G0 (c4e rows f c s).1 ρ
 |0,_,_,hs=>hs
 |f+1,c,s,hs=>by
  rw[c4e];split
  .exact hs
  .refine b4a h f _ _ ?_;rw[N6];rw[JZ Int.add_nonneg hs];rw[List.getD_eq_getElem?_getD];cases e:rows[D3G]? with
   |none=>exact Int.le_refl 0
   |some l=>exact h l D32
theorem b4e{ρ:IZ}:∀(r:LLI),E4Q->∀s,EHL->0<=G0 (r.foldl a3G s) ρ
 |[],_,_,h=>h
 |l::r,o,s,h=>b4e r (λx a=>o x jK) _ (AG N6 (CR5 Int.add_nonneg h o l))
theorem c0Z:GC l CW ρ IZ (DY l.all ((· == 0))) (G0 l ρ=0)
 |[],_,_=>rfl
 |fR,ρ,h=>by
  rw[List.all_cons,Bool.and_eq_true,beq_iff_eq]at h;rw[G0,DE,EHX,Int.zero_mul];rfl
theorem c4g{ρ:IZ}(h0:B7T):∀l,DY c7u l->ADT<0
 |[],h=>ABZ
 |fR,h=>by
  rw[c7u,Bool.and_eq_true,decide_eq_true_eq]at h;rw[G0,h0,EHX];omega
theorem b4d{ρ:IZ}(h0:B7T){b0t:LLI}(b:B6F b0t):GC ls AI9 c Nat (AW (c4f b0t ls c)) (jA ls (¬E4Q))
 |B37,c,h,x,a,o=>by
  rw[c4f,Bool.and_eq_true]at h;rw[lM]
  .have h1:=c4g h0 _ DE;split at h1
   .rw[QE (b4e _ o [] (Int.le_refl 0))]
   .rw[QE (b4a (a2R o b) 99 c [] (Int.le_refl 0))]
  .exact b4d h0 b rs _ FD x a o
noncomputable def c2w(c:Nat)(ns:PF)(zs:CW):EK A5X LqR
 |[],g=>∀(_:DZA:=by rw[ZC]),BFA g
 |C1G,g=>B55->EE9
noncomputable def c9s(c:Nat):Prop:=b3m DKZ λns=>b3l (ECC 0 BX0) λzs=>c2w c ns zs DR8 DQY
theorem b0w(c:Nat)(ns:PF)(zs:CW):GC fs A5X g LqR ((DZA->∀l∈c7v fs g,¬a4C A8Y l)) EE9
 |[],g,h=>λe=>Classical.byContradiction λn=>let ⟨l,hl,o⟩:=a4H ns zs false g n;h e l hl o
 |C1G,g,h=>λa=>let ⟨l,hl,o⟩:=a4H ns zs true f a
  b0w c ns zs fs g λe d hd o'=>h e _ (AJW l hl (AH3 (NJ d hd))) (a2R o o')
theorem lq(c:Nat):c9s c :=
 c1b (λns=>c1a (λzs=>b0w c ns zs _ _ λh=>b4d rfl (c4c ns zs _) _ _ h) _) _
noncomputable def c9j:=AB 0x8684bb0636922db39563722fa610b2c42deee882325fde598703a356224e39f8055f80da782c0d7
noncomputable def b0v:=AB 0xa4ba10f8b9aaa23fe6745df3696
noncomputable def c5P:=AB 0x1dadce3b96adde22b20d5aecdd7fb9d583acac808b8357
noncomputable def a7q:=AB 0x7b1059a48b54dd5c1017
noncomputable def c0w:=AB 0x40c03c4e71f96fe215312af5b915bbd6
noncomputable def c5O:=AB 0x1165b1b3ce034b06367ef41c7896aedeb826db0b5a84e01b6d7
noncomputable def c5N:=AB 0x142fcd33c82b7d025b28e69ffdb926a9ec46219f34927368264b6fec1e3085d7
noncomputable def b9P:=AB 0x4651e1a7f355be02396
noncomputable def c5M:=AB 0x394440f4347860aa68ed90083da16c6c8c125
noncomputable def c5L:=AB 0x39284eb56472d89d7
noncomputable def a0I:=AB 0x69c5bc76984c8a6865
noncomputable def c5K:=AB 0x82909b1bf94efd60bce181690b8db1a
noncomputable def a1U:=AB 143959432150
noncomputable def O2:=AB 144439500438
noncomputable def c5J:=AB 0x8cf0de420ea427dbcfbe9eea359306f49a480092148447f68
noncomputable def c5I:=AB 0xa271fecaa534fa5b9e6f50e12e87ae18
noncomputable def c5H:=AB 0x2a496af476bacbb87d8aaea98e9bd7
noncomputable def c5G:=AB 0x2411bd36af6a4c89b31f33196
noncomputable def b8X:=AB 0xbc72b1b9c00ace46cb5996
noncomputable def c5F:=AB 0x9f9415d05e925b361387d0d957
noncomputable def b8T:=AB 0x20a633adcd393317
noncomputable def c5E:=AB 0x4e93565b5d5f2a451ce51cf413170126c9af02cc397
noncomputable def b8S:=AB 84022310212842263
noncomputable def b4c:=AB 0x35c99e4ab265aeecc3a202bd6
noncomputable def c5D:=AB 0x7c2d8ee31be32e932d97
noncomputable def c5C:=AB 0x7c2d84eaf7022fc3b636
noncomputable def b4b:=AB 0x5a83856bc27217
noncomputable def c5B:=AB 0x5e20d502b831f110f5b5355e96
noncomputable def b8R:=AB 0x178e21287eab2fe27a4fa17
noncomputable def a8K:=AB 0x346f0d4f75f31a9ec5d
noncomputable def c0W:=AB 0x7c24648964ffd8aff7ff870056
noncomputable def c0V:=AB 0x47be9ef104752405c3e57d44ec8d5c03c7a8ad0709569a12a46d80e5
noncomputable def c0U:=AB 0x34707e139947367d237
noncomputable def c0T:=AB 0x356a0bc591c1eb8f002acb4775b756
noncomputable def c0S:=AB 0xd3d8b0281923d3aaf6c56
noncomputable def a8J:=AB 0xa09421c7e155bf06b85d6
noncomputable def a8I:=AB 4030852203478
noncomputable def M5:=AB 0x172b971a68aea17d7
noncomputable def b2I:=AB 0x145201e96cf31d3fc0d7d8
noncomputable def c0R:=AB 0x366b99578181ec4039d5f40d6
noncomputable def c0Q:=AB 0x3f1f0b1fb2fa055ac16d2cb17d
noncomputable def b2H:=AB 0x1e4f6aa80f23844bc76142f20ae18
noncomputable def c0P:=AB 0x7a12c98bd94c4b1d37eb07fcc72267
noncomputable def a2s:=AB 5175046550
noncomputable def a1e:=AB 1147073325638
noncomputable def c0O:=AB 0x9c8e19205e9fe97
noncomputable def a8H:=AB 0x6baf40fc6e45beee945d6
noncomputable def c0N:=AB 0xd6d31091ff5bea844357
noncomputable def c0M:=AB 0x1d8dc0517c7b2c43d6e3d57
noncomputable def b2G:=AB 0x482873c8beffed6a3bacf50d7
noncomputable def a8G:=AB 0x9e70310ce195236
noncomputable def a3D:=AB 144900688438
noncomputable def a3C:=AB 0x675856bd81d7
noncomputable def b2F:=AB 0x9e5f5b26f203217
noncomputable def c0L:=AB 27169787094
noncomputable def a1d:=AB 0x2289b5b3c93a8b65
noncomputable def Y8:=AB 769325994333
noncomputable def c0K:=AB 0x488403fd65cbf8da565e6a3ea64ff6f091dd37cc83d8a364e5221d10a2b0
noncomputable def b2E:=AB 0x70f77092e797
noncomputable def c0J:=AB 0x2260e846e79fb701c9bd2f752239
noncomputable def c0I:=AB 0x2260e846e78cae5237ba47752239
noncomputable def a8F:=AB 144888813974
noncomputable def a5Q:=AB 0x5bc25c72379eb64cabd6
noncomputable def c0H:=AB 0x141265e731a4c9e605a357
noncomputable def c0G:=AB 0x424b2ebcea1c84998
noncomputable def a5P:=AB 0x25d7e66cf7d551d8
noncomputable def c0F:=AB 0x79aef5b07dd6
noncomputable def b2D:=AB 0x110182f857a19eb4346957
noncomputable def c0E:=AB 0xcef898c40917cea9d7d514f2a536f8595658182a8768
noncomputable def b2C:=AB 0x9c8e1800dfc2125
noncomputable def b2B:=AB 0xb4da95e581797
noncomputable def b2A:=AB 0x482873c8becb23062183f7e6e
noncomputable def b2z:=AB 0xbc72b1b687f8bfdcaa64d6
noncomputable def c0D:=AB 0x7f7eb796fb65
noncomputable def c0C:=AB 0x74bcaf091dd6
noncomputable def c0B:=AB 0x18c7ff9581b164a5c0b58
noncomputable def c0A:=AB 0x46f57eb49b9d0268a6e
noncomputable def c0z:=AB 0x5f3c4c5922a36d32d16d2cae6d
noncomputable def c0y:=AB 0x346f104144506f0a0d6
noncomputable def c0x:=AB 0x6baf40fa964e95ccdbbd6
noncomputable def b2y:=AB 0x182b90fcef282f9b4a75c027080e6
noncomputable def c0v:=AB 84053650568336151
noncomputable def c0u:=AB 0x66a26de2f2ac59a147b28b39
noncomputable def a8E:=AB 0xaa9e3788a11d7
noncomputable def c0t:=AB 0xd9611f237c5abf9861b18
noncomputable def c0s:=AB 0x107789e8c0bdaed6
noncomputable def b2x:=AB 0x14be69a978ba0e7fb103aae0ede
noncomputable def b2w:=AB 0x4217822c9d2a3f237
noncomputable def c0r:=AB 0x3ca76c7930e00ad98
noncomputable def c0q:=AB 0x9e702b8f4116236
noncomputable def c0p:=AB 0x346f0d4f75f31a08e6d
noncomputable def c0o:=AB 0x44e9554cb418534f355cb7500b15be164b1d5abf11f17d70
noncomputable def c0n:=AB 0x1e89567ef79c52acf6ec0e7119239
noncomputable def b2v:=AB 4435037299254
noncomputable def c0m:=AB 0x5a894099a5cf96
noncomputable def c0l:=AB 0x293bb6fa4570ef6165c82a36
noncomputable def a5O:=AB 157452382614
noncomputable def c0k:=AB 0x6352ccff9b65
noncomputable def c0j:=AB 144901260758
noncomputable def c0i:=AB 0xab054c2e0e9d56ca5d1c48771175f7a8e5221d10a2af
noncomputable def a2r:=AB 769280510573
noncomputable def a1c:=AB 0x25d403fe3fab12a6
noncomputable def c0h:=AB 0xca63c6d13e45b6b12a6
noncomputable def c0g:=AB 0x3d88b76bacba23f5bbd6
noncomputable def c0f:=AB 0xb513880cd1997
noncomputable def c0e:=AB 0x13c5d0795e2eba0dc8226
noncomputable def b2u:=AB 0x1ebc78b08b20a222183f817e
noncomputable def c0d:=AB 0xd76c38ec76e856e658766
noncomputable def b2t:=AB 0x16f807a4ef7ff25d7
noncomputable def b2s:=AB 0x714920dbe8d7
noncomputable def b2r:=AB 4435082775958
noncomputable def c0c:=AB 0x245826cd69ebe073d9e4319c95d6
noncomputable def a2q:=AB 158394231606
noncomputable def c0b:=AB 206570917141
noncomputable def b2q:=AB 0x25c44a62a2f391d7
noncomputable def c0a:=AB 0x236354bf47898caaae0ede
noncomputable def b9Z:=AB 0x178fd825f76589bc673f558
noncomputable def a8D:=AB 0x16b5b582023af60fd5e3aa312a7
noncomputable def b9Y:=AB 0x70f7709291d7
noncomputable def Y7:=AB 0x6cb97565e8327e160fbc80e6
noncomputable def a8C:=AB 0x172b97b4569533d57
noncomputable def a5N:=AB 0xb7c2afa073acae36
noncomputable def b2p:=AB 0x6c602aea18de2c7abaae0ede
noncomputable def b9X:=AB 0xbfb09e935c0822f66ceabefd99
noncomputable def b9W:=AB 0x25e1be12b2e825d7
noncomputable def b9V:=AB 0x236354650b65a90eae0ede
noncomputable def b9U:=AB 0x20a93efbe3153317
noncomputable def b2o:=AB 27474311005
noncomputable def b2n:=AB 0x238079d3484c5f55c1de26
noncomputable def b9T:=AB 0x293bb7095db0e1eb3b119238
noncomputable def a8B:=AB 0x839a5686ce36
noncomputable def b2m:=AB 0x800e5f2d166d
noncomputable def b9S:=AB 0x172d6e8e249bbe357
noncomputable def b9R:=AB 899312715515734
noncomputable def b2l:=AB 0x89ad3f99645d
noncomputable def b2k:=AB 158393616950
noncomputable def b9Q:=AB 0x182b90fcef282f641173ae59c95d6
noncomputable def b9O:=AB 0x14be69751e0aff9ad45d6ae0ede
noncomputable def b9N:=AB 0x288f8178d1cb167d57
noncomputable def b2j:=AB 0xb208e33320b65
noncomputable def b2h:=AB 32118344927062
noncomputable def b2g:=AB 0x238079d3484c5f55bd8366
noncomputable def b9M:=AB 0x6c60235c09d8f0fe16ae0ede
noncomputable def b2f:=AB 0x172b97b9735581397
noncomputable def U5:=AB 0x172d6f1d49958d957
noncomputable def b9L:=AB 0x8a3c2a173587bccdacea65aff21917
noncomputable def b9K:=AB 0x6c80d3603b5ffd8db6f080e6
noncomputable def b9J:=AB 0xca65c96b0ddc318fb26
noncomputable def b9I:=AB 144439478486
noncomputable def b9H:=AB 0x7fd6ae585125
noncomputable def b9G:=AB 0xb985cdd2ad21fbb63a7
noncomputable def b9F:=AB 0x9eda9cec3cd6
noncomputable def b9E:=AB 84052912174707479
noncomputable def a8A:=AB 7171781
noncomputable def b9D:=AB 0x67725e0ff625
noncomputable def b9C:=AB 0x6cb974c83285df0e7ddc80e6
noncomputable def b9B:=AB 6557125
noncomputable def b9A:=AB 0x6421a1d3a90ced34e5
noncomputable def b9z:=AB 0x20a77db3edc369d6
noncomputable def b9y:=AB 0x46fb2449b0f43d55ed7
noncomputable def a3B:=AB 97357957335552678
noncomputable def b2e:=AB 0x16f80705e67efa1d7
noncomputable def b9x:=AB 0x62a2df7d45a5
noncomputable def b9w:=AB 0x229ab7556ac4cfc74bb6a5
noncomputable def b9v:=AB 0x14cf7f69699144a231d1f70b826
noncomputable def b9u:=AB 0x714920dc3e97
noncomputable def a3A:=AB 769379053605
noncomputable def b9t:=AB 0x73a90811be779b12a6
noncomputable def b9s:=AB 5029156809686
noncomputable def b9r:=AB 5406958829974
noncomputable def b2d:=AB 0x696e11a66fe76e0edd
noncomputable def a8z:=AB 21542665123925
noncomputable def b9q:=AB 0xecea926b025ad016865
noncomputable def a2p:=AB 0xebc0913cf6236
noncomputable def b9p:=AB 221527175382
noncomputable def b9o:=AB 0x696ad8a3c841b17d6d
noncomputable def b9n:=AB 0x2d58e6067b736e696480e5
noncomputable def b9m:=AB 0x226c080b3c6523cd
noncomputable def b9l:=AB 603129183358885
noncomputable def a8y:=AB 0x69679fa3dfa56e0edd
noncomputable def b9k:=AB 0x20b2ce15d36a2125
noncomputable def a8x:=AB 0x4c8dc09a5e8216865
noncomputable def b9j:=AB 0x697483a900296e0edd
noncomputable def b9i:=AB 0x69679fa3debf76a0ad
noncomputable def b2c:=AB 0x226afaa78d5523cd
noncomputable def b9h:=AB 32496130329686
noncomputable def b9g:=AB 769297720157
noncomputable def b2b:=AB 0x2289b5b3c93a35a5
noncomputable def b9f:=AB 234949
noncomputable def b9e:=AB 0x1861d376767851fc6bb20b46480e6
noncomputable def b9d:=AB 0x839a558087f6
noncomputable def b9c:=AB 0x143ed912b3244b604ace5
noncomputable def a0w:=AB 0x6421a1d3a915236be5
noncomputable def b2a:=AB 0x696ad8a527c66e0edd
noncomputable def b9b:=AB 0x6977bcaa484a6e0edd
noncomputable def b9a:=AB 10091397
noncomputable def b8Z:=AB 0x6901786fb26ce6d
noncomputable def b1Z:=AB 0x20008c7bf484f1a4ff9a0c140a24edf02d25
noncomputable def a2o:=AB 0x66f4c71853917f6be5
noncomputable def b8Y:=AB 0x226afaa958500dad
noncomputable def b8W:=AB 174587420
noncomputable def b1Y:=AB 176429820
noncomputable def b1X:=AB 176433740
noncomputable def a5M:=AB 173971980
noncomputable def a3z:=AB 173356540
noncomputable def b8V:=AB 175818300
noncomputable def b1W:=AB 175202860
noncomputable def b1V:=AB 0x25a7241abb8523cd
noncomputable def b8U:=AB 177049180
noncomputable def b1U:=AB 178280060
noncomputable abbrev qA:=@List
noncomputable abbrev qB:=@PySem.Value
noncomputable abbrev qC:=@PySem.Shared
noncomputable abbrev qD:=@Option
noncomputable abbrev qE:=@PySem.Addr
noncomputable abbrev qF:=@PySem.W.Frag
noncomputable abbrev qG:=@PySem.Program
noncomputable abbrev qH:=EK PySem.Value PySem.Shared
noncomputable abbrev qI:=CW
noncomputable abbrev qJ:=Option Nat
local macro_rules|`(def $i:declId $b*:$t $v:declVal)=>`(theorem $i:declId $b*:$t $v:declVal)
noncomputable def L2.nd(l:qA PySem.Str)(h:l.Nodup:=by rw[ZC]):l.Nodup:=h
namespace L2
open PySem PySem.Spec PyProof.Rows
variable {A:Around}{C a b dx:qE}{E Q:qH}{K:qF}{M:Model}{P:qG}{base h h':Heap}{body:IY}{c e l tg:Expr}{ch fp:EI}{es:BN}{f:ECK}{fd:FuncData}{i k n t':Nat}{kw:qS}{mA mg:BJ}{op:CmpOp}{qK:DC}{pl:A00}{pos:Pos}{ps:AC}{s:qC}{u:qB}{us:AN}{w:World}{x:Str}
noncomputable abbrev Key:=Sum Int Str
noncomputable def a7s:AD9 Key qB
 |BS1,v=>Value.isInt k v
 |AZW,v=>D2E v
noncomputable def c9C(w:World):Key->Int
 |BS1=>hashInt k
 |AZW=>hashStr w x
def E5:∀{k:Key}{v:qB},AW (a7s k v)->(∃i t,k=Sum.inl i/\v=A66)∨(∃x t,k=Sum.inr x/\v=B3A)
 |EL i,v,h=>by
  rw[OU t (Value.isInt_shape (k:=i) (v:=v) h)];rw[nW (A3X i t e)]
 |AZW,v,h=>by
  rw[OU t (Value.isStrOf_shape (x:=x) (v:=v) h)];rw[kE (A3X x t e)]
def b5R(i:Int)(t:Tok):EH0 a7s:=xB a7s Value.isInt
def b5Q(x:Str)(t:Tok):EH1 a7s:=xB a7s Value.isStrOf
def c7E(a b:Int):AXO DT8 a b:=by
 rw[GD a b]
 rw[BSL]
 .have h:¬DT8:=λq=>e (Sum.inl.inj q);rw[AVQ];exact aD beq_eq_false_iff_ne.mpr e
def c7B(a b:Str):eY (CJ DT9) (a=b):=by
 rw[GD a b]
 rw[BSL]
 .have h:¬DT9:=λq=>e (Sum.inr.inj q);rw[AVQ,AHS]
def c7D(a:Int)(b:Str):iV (CU1 Sum.inr):=E4B
def c7C(a:Str)(b:Int):iV (CU2 Sum.inl):=E4B
noncomputable def D5(prog:qG)(w:World):ABK PySem.KeyKind Key where
 is:=a7s
 hash:=c9C w
 inj:=λv a b ha hb=>by
  rw[EUS ha]
  .rw[F2V]
   .rw[ARP _];rw[e1]
   .exact AFF
  .rw[F2V]
   .exact AFF
   .rw[ARP _];rw[e1]
 byValue:=λk v h=>by
  rcases E5 h with⟨i,t,rfl,rfl⟩|⟨x,t,rfl,rfl⟩<;>rfl
 pyHash:=λhv h=>by
  rw[ADV (E5 hv) i t rfl x t rfl]
  .exact wpAny_pyHash_int h
  .exact wpAny_pyHash_str h
 eqBool:=λhu hv h=>by
  rw[EUS hu]
  .rw[EW0]
   .rw[B1D c7E wpAny_eqBool_int]
   .rw[c7D]at h;exact ZI (SeqAt.EqAt.int_str i t y u) h
  .rw[EW0]
   .rw[c7C]at h;exact ZI (SeqAt.EqAt.str_int x t j u) h
   .rw[B1D c7B wpAny_eqBool_str]
 «strs»:=λk x t v h=>by
  rw[ADV (E5 h) i u e y u e]
  .exact AFF
  .rw[ARP _]
   subst e1;cases v<;>rfl
def b0o(prog:qG)(w:World)(i:Int)(t:Tok):EH0 DT0:=b5R i t
def b0n(prog:qG)(w:World)(x:Str)(t:Tok):EH1 DT0:=b5Q x t
inductive V where
 |non|bl (b:Bool)|int (i:Int)|str (x:Str)|byt (b:D2L)|flt (b:UInt64)|ref (a:qE)|ty (n:String)
 deriving DecidableEq
variable {v:V}{vs xs:AA}
noncomputable def RelV:DQL
 |.non,u=>C2V
 |bX,u=>B1B b
 |SX,u=>AOW A66
 |QR,u=>AOW B3A
 |.byt b,u=>DC9 Value.bytes
 |.flt b,u=>DC9 Value.float
 |CC,u=>AO6
 |.ty n,u=>E1H
noncomputable abbrev Vals:EK AA AN:=Paired RelV
def Vals.length{xs:AA}{us:AN}(r:aZ):A2H us.length:=BTH
def Vals.get:∀{xs:AA}{us:AN}{i:Nat}{x:V},aZ->aT->∃u,CB us u/\bS
 |_,_,_,_,.nil,e=>BKW
 |_,_,0,_,BE6 _,e=>by simp at e;rw[CK];exact DK r
 |_,_,AO,x,B6I,e=>by
  rw[OP u h1 h2 (BI Vals.get i i x x t D41) u BJM h2]
def Vals.set{x:V}{u:qB}(r:bS):BP4 i (ML (xs.set i x) (us.set i u))
 |_,_,_,.nil=>.nil
 |_,_,0,B6I=>ALS
 |_,_,AO,.cons q t=>.cons q (Vals.set r i t)
def Vals.append{ys:AA}{ws:AN}(h:aZ)(s:ML ys ws):ML AXM (us++ws):=by
 induction h with
 |nil=>exact s
 |cons r t a=>exact .cons r a
def Vals.take:EC5 xs.take us.take
 |_,_,0,_=>.nil
 |_,_,_+1,.nil=>.nil
 |_,_,CS,ALS=>A5S r Vals.take n t
def Vals.drop:EC5 xs.drop us.drop
 |_,_,0,r=>r
 |_,_,_+1,.nil=>.nil
 |_,_,CS,B6I=>Vals.drop n t
noncomputable def RelO:EK fG U3
 |RX,BQT=>NV
 |none,none=>True
 |_,_=>False
noncomputable def KV{κ:Type}:EK KJ A06:=Paired λ(p:C2X) (q:κ×qB)=>CV=ED/\E39
noncomputable def kV:Key->V
 |EL i=>SX
 |AZW=>QR
inductive HO where
 |lst (xs:AA)
 |tup (xs:AA)
 |dK (qL:KZ)|dT (qL:YP)
 |set (S:A36 Int) (n:Nat)
 |ins (C dx:qE) (fs:OY)
 |own (x:qE)
 |xd (fs:OY)
 |met (f x:qE)
 |rng (lo hi:Int)
 |frz (o:Obj) (u:HO)
 |tbl (ps:CY)
 |ext (φ:OX Heap)
variable {o:HO}
noncomputable abbrev Hp:=qE->qD HO
variable {H H':Hp}
noncomputable def upd(H:Hp)(a:qE)(o:HO):Hp:=λb=>AFE (b=a) o (H b)
def A0:BQB H o o:=AYQ upd EJ
def A4(h:BSC):upd H a o b=H b:=AYQ upd kX
def a2F{u:HO}:upd A7T a u=yZ u:=by
 funext b;unfold upd;split<;>rfl
def I0{u:HO}(h:B1Y)(h':BTY)(d:o≠u):AKG:=by
 intro e;rw[CK];rw[h]at h';exact d (Option.some.inj h')
def A5(h:B1Y)(h':KW):AKG:=by
 intro e;rw[CK];rw[AX h h' h']
noncomputable def IsTp(h:Heap)(a:qE)(items:CY):Prop:=∃o:Obj,qZ/\(o.cls,o.dict)=(dU,none)/\∃n,o.data=CGZ
def IsTp.tup{items:CY}(x:IsTp h a items):IsTup h a items:=let ⟨o,e,c,d⟩:=x;⟨o,e,AWH c,d⟩
def IsTp.new(h:Heap)(items:CY):IsTp (oU h.push items) h.objs.size items:=E6P
section
variable (P:qG)(w:World)
noncomputable def ObjOk(H:Hp)(h:Heap)(a:qE):OX HO
 |AVK=>bH/\CC9 (pQ/\XY AEX)
 |B0E=>bH/\∃its:AN,pQ/\IsTp h a its.toArray
 |B43=>C9U
 |B44=>BHW A5A (∃xs:ALZ,
   Paired (λ(p:WP×V) (q:CXS)=>EXA) qL xs /\
   ∃o es ep,qZ/\o.ExactDict/\o.data=B5U/\es.toList=xs.map (entryOfKey (tupleKind A49))/\C0B)
 |E0D=>h.SetOf D65 a S n
 |iY=>DNJ/\D4S/\dx≠a/\XY C05 /\
   ∃mA,CAJ/\(CC7)/\DU6
 |.own _=>∃o,qZ
 |.xd fs=>∃mA,h.Ns1 a mA/\CC7
 |.rng lo hi=>∃t u v,XY CP8
 |AUF=>qZ/\ObjOk H h a u
 |.tbl ps=>DBF
 |.met f x=>XY (C3K ATB)
 |.ext φ=>φ h/\(∃o,qZ)/\∀h1 h2:Heap,φ h1->(∀o,A27 h1.get?->A27 h2.get?)->φ h2
noncomputable def HOk(H:Hp)(h:Heap):Prop:=∀a o,B1Y->B4W
#where
def ObjOk.lt(x:B4W):B36:=by
 cases o with
 |lst xs=>rw[DX7];rw[fT]
 |tup xs=>rw[BPV p];exact p.tup.lt
 |dK qL=>rw[B8K];rw[fT]
 |dT qL=>rw[B8K];rw[fT]
 |set S n=>rw[EG3];rw[fT]
 |ins C dx fs=>rw[DX8];rw[fT]
 |own y=>obtain⟨_,e⟩:=x;rw[fT]
 |xd fs=>rw[DX9];rw[fT]
 |rng lo hi=>rw[BPV e];rw[fT]
 |frz ob u=>obtain⟨e,_⟩:=x;rw[fT]
 |tbl ps=>rw[EOQ]
 |met f y=>rw[EOQ]
 |ext φ=>obtain⟨_,⟨_,e⟩,_⟩:=x;rw[fT]
def Paired.mapP{α β:Type}{F G:EK α β}{l₁:CL}{l₂:A6V}(h:Paired F l₁ l₂)(f:∀a b,F a b->G a b):Paired G l₁ l₂:=by
 induction h with
 |nil=>rw[A4J]
 |cons r t c=>exact .cons (AH f r) c
def ObjOk.stay(x:B4W)(k:BNV ((b=a∨DNI)) h.get?)
  (i:∀b,DNI->A1G b .own a) (j:CC5):B8U H' a o:=by
 induction o with
 |lst xs=>rw[B9F x];rw[EB z its n r fC]
 |tup xs=>obtain⟨z,its,r,g,e,c⟩:=x;rw[GZ z its r g fC c]
 |dK qL=>rw[F54 vs vs r]
 |dT qL =>
  rw[F54 xs xs (ERD p q (rH z.2.1))]
 |set S n=>obtain⟨g,es,ep,t,e,c⟩:=x;rw[GZ g es ep t fC c]
 |ins C dx fs =>
  obtain⟨d,z,ne,e,mA,⟨od,es,ep,e2,c⟩,r⟩:=x;exact⟨i _ d,z,ne,fC,mA,EQP (AK k (DP d) e2),r⟩
 |own y=>rw[OU g x];rw[AY g fC]
 |xd fs=>obtain⟨mA,⟨od,es,ep,e,c⟩,r⟩:=x;rw[BA mA (EQP fC) r]
 |rng lo hi=>obtain⟨t,u,v,e⟩:=x;rw[EF t u v fC]
 |frz g u l=>rw[SI e x];exact GH fC l q
 |tbl ps =>
  rw[ESK DBF CVL]
 |met f y =>
  rw[ESK (XY (C3K (AM y))) (C3K (AM y))]
 |ext φ=>obtain⟨p,⟨o,e⟩,st⟩:=x;rw[BA (AH st p λo q=>AK k NA q) (jS fC) st]
def HOk.lt(x:TN)(e:B1Y):B36:=(x a o e).lt
def HOk.fresh(x:TN)(e:BWA):yN:=by
 cases q:H a with
 |none=>rfl
 |some u=>rw[EV (Nat.lt_of_lt_of_le (x.lt q) e) fE]
def HOk.kept(x:TN)(k:B59):u6 H h':=λa o e =>
 EY2 x (AKQ _ B87)
def HOk.laid(x:TN)(k:B59)(hp:BWA)(new:B8U A7T a o):u6 A7T h':=kK (by
 have f:=x.fresh hp;rw[BM d b a]
 .subst d;rw[FH A0];exact new
 .rw[A4 d]at e;exact AGM x u (λc v _ q=>k c v q) (λc q=>B39 f) λc xs q=>B39 f)
noncomputable def Rd(H:Hp)(a:qE)(u:HO):Prop:=WV u∨∃o,WV AUF
def Rd.ok{u:HO}(r:C6K)(x:TN):AT5 u:=by
 rcases r with r|⟨o,r⟩
 .exact x a u r
 .obtain⟨_,q⟩:=x a _ r;exact q
noncomputable def Mut:OX (qD HO)
 |AHD .lst=>True
 |AHD .dK=>True
 |AHD .dT=>True
 |AQ (BS .set)=>True
 |AQ (nN .ins)=>True
 |AHD .ext=>True
 |_=>False
section
variable {x e:qE}{o':HO}
def HOk.write(ok:TN)(j:C6E)(m:CAA)(k:DU3)(l:CBP)
  (new:B8U DRH x o'):u6 DRH h':=iP u (by
 have d:∀c y,ACN c y->c≠x:=ESR y
 have f:∀c xs,DRC->c≠x:=ESR xs
 rw[BM g b x]
 .subst g;rw[AX A0 q q];exact new
 .rw[A4 g]at q;rw[BM a b e]
  .have q':ACN b x:=by
    rw[BW m]
    .exact AFN a.trans z g
    .rw[AD a z]
   rw[AX q q' q'];rw[eR n l];rw[AY v (AG a n)]
  .refine(ok b u q).stay (λc v i r=>BO8 r) (λc r=>IH (d c b r) r) λc xs r=>IH (f c xs r) r
   rw[WR i i]
   .exact a
   .rw[XH];rw[BW m]
    .exact d c b i z
    .rw[A3J i];exact g rfl)
#where
structure Un(fs ex:EI)(H H':Hp)(h h':Heap):Prop where
 keep:EDM (b∉fs) UQ
 slot:EDM D97 EB5
 free:BKU (KW->AWC->vE)
 there:AB6 h.get? AWC EB4
 tups:CC5
 frzs:EYB
 tbls:ERO
section
variable {fs fs' ex ex':EI}{H1 H2:Hp}{h1 h2:Heap}{x e:qE}
def Un.any(u:BIO H1 h1){a:Obj}(q:WB h.get? a)(n:KW)(d:AWC):DG0 sl {a with slots:=sl}:=by
 rw[YI D97]
 .exact EXP u.slot
 .rw[AY a.slots (EXP u.keep)]
def Un.kept(k:B59):C2R H :=
 ⟨B88 a CB1,B88 a ⟨a.slots,CB1⟩,λ_ _ _ n _=>n,λb a q _=>⟨a,CB1⟩,iF q q,VB _ q q,λ_ ps q=>C0U q⟩
def Un.refl:BIO H h:=Un.kept λ_ _ q=>q
def Un.laid(k:B59)(hp:BWA)(c:yN):C2R A7T where
 keep:=B88 u B87
 slot:=B88 u (D1B B87)
 free:=EPS (A4 (Nat.ne_of_lt (oC q hp)))
 there:=λb u q _=>⟨u,B87⟩
 tups:=iP xs (B39 c)
 frzs:=AKQ xs (B39 c)
 tbls:=iP ps (C0V (aO q c) q)
def Un.write(c:C6E)(j:CAA)(k:DU3)(d:CBP):C2R BVZ:=by
 have i:∀b,KW->IB x:=λb n z=>CSI n c c
 have g:∀b,KW->AVX:=λb n z=>by
  subst z;rcases j with r|r
  .exact i b n r
  .rw[AX n r r]
 have f:∀b u,BTY->¬Mut (some u)->IB x:=λb u q nm z=>by subst z;rw[q]at c;exact nm c
 refine⟨EZX EJT,EZX (D1B EJT),EPS (A4 (i b n)),BT b u q _,
  iP xs DDO,AKQ xs DDO,iP ps (C0V (A4 CXR) q)⟩
 rw[BM a b e]
 .subst a;exact d
 .rw[AY u (k b u a q)]
#where
noncomputable def trk(h:Heap)(H:Hp):EI:=BEE h.objs.size λa=>DLB H
noncomputable def a8T(h:Heap)(H:Hp):Heap:=PySem.W.hideAll h (trk h H)
def b6a(h:Heap)(H:Hp):(a8T h H).objs.size=h.objs.size:=BS PySem.W.hideAll_size
def c1I{o:Obj}(e:pY)(n:KW):C9E h :=
 PySem.W.hideAll_get _ e λa=>by
  have q:AW (H b).isSome:=(List.mem_filter.mp a).2;rw[n]at q;simp at q
def c3W{o:Obj}(e:C9E h):pY/\KW:=by
 have e':pY:=PySem.W.of_hideAll C6T e;rw[HS e'];cases q:H b with
 |none=>rfl
 |some x =>
  have a:b∈C6T:=List.mem_filter.mpr ⟨D1M List.mem_range.mpr e',IF q⟩;have z:EY (a8T h H).get? b:=PySem.W.hideAll_none C6T a;rw[FH z]
noncomputable def c5g(g h:Heap)(L:qE):DC:=C1M h.objs.size λa=>if a=L∨AW (DLB g.get?) then none else(DJ6 a (a,o))
noncomputable def rest(g h:Heap)(L d:qE):DC:=(c5g g h L).filter λp=>CJ (CV≠d)
structure Mod(K:qF)(mg:BJ)(base:Heap):Prop where
 kin:BXY
 glob:CJD
 blt:∃mb,base.Ns builtinsNs mb/\EEU mb
 nolimit:base.NoLimit
structure Cx where
 prog:qG
 w:World
 K:qF
 mg:BJ
 base:Heap
 A:Around
 N:AC
 s₀:qC
 H₀:Hp
 env:Env
 outer:IL
 stack:IL
 ex:EI
 fn:Str->Bool
 calm:Bool
 pn:DC
 xe:qH
variable {X:Cx}
noncomputable def frs(l:IL):EI:=l.filterMap (·.frame)
noncomputable abbrev Cx.fs(X:Cx):EI:=frs X.outer
noncomputable def Vis(sc:Scope)(x:Str):Prop:=CV6 (CTM∨B0B sc.names.lookup)
noncomputable def Loc(sc:Scope)(x:Str):Prop:=DU5
noncomputable def c9O(env:Env)(h:Heap)(m:BJ)(x:Str)(u:qB):Prop :=
 (APE env.kindOf/\GQ m u)∨((AE9 env.kindOf∨B0B env.kindOf)/\∃c,BTQ/\hY h.IsCell c u)
structure Cx.Ok(X:Cx):Prop where
 mod:EKC
 kind:D0W X.env.scope.kind
 glob:X.env.globals=mainGlobals
 blt:X.env.builtins=builtinsNs
 above:BPE X.env.locals
 inj:CDN A2C X.env.cells.lookup
 has:∀x,(AE9 X.env.kindOf∨B0B X.env.kindOf)->∃c,A2C
 cab:∀x c,BDC->A2C->X.s₀.heap.objs.size<=c
 hd:DV->MQ X.A.handled
 frames:X.A.frames=some X.stack
 stk:X.stack=X.outer∨(X.stack=CNS/\B6H)
 exf:ZV X.ex (ADJ/\AET (c≠b))
 bs:B2Q (GP X.s₀.heap.get?/\DAJ)
 bsz:X.base.objs.size<=X.s₀.heap.objs.size
 noex:B2Q D7E
 exfs:ZV X.ex B1E
 funs:X.s₀.heap.FunFrames X.base X.outer
 frf:ZV X.fs DAJ
structure Inv(X:Cx)(qK:DC)(σ:AI3)(H:Hp)(s:qC):Prop where
 ok:X.Ok
 os:s.os=X.s₀.os
 bare:DBP
 base:Un X.fs X.ex X.H₀ H X.s₀.heap s.heap
 loc:∃m,DSD/\∀(i:Nat) (x:Str) (v:V),fN->B5G->AKK->∃u,NV/\c9O X.env s.heap m x u
 cell:AET (C55 s.heap.IsCell)
 free:EC X.env.locals
 freeC:AET (EC c)
 pin:BFX F1T
 hok:EHZ s.heap
 len:σ.length=X.N.length
section
variable {σ:AI3}
def Cx.Ok.nofr(ok:X.Ok){o:Obj}(e:GP X.base.get?):B1E:=λa=>by
 have:=(ok.funs.mem a).1;rw[C6L]
def Inv.bs(I:AL):B2Q DQ0:=λb o e =>
 ⟨I.base.keep b o BY7 DLY (I.ok.nofr e) D85,I.base.free b o BY7 DLY D85⟩
def Inv.bk(I:AL):B2Q ZP:=ID o (AC3 I.bs)
def Inv.mod(I:AL):EKC:=I.ok.mod
def Inv.kIn(I:AL):X.K.In s.heap:=I.ok.mod.kin.keeps I.bk
def Inv.lt(I:AL):mW X.env.locals:=let ⟨_,hn,_⟩:=I.loc;hn.lt
def Inv.sz(I:AL):BPE s.heap.objs.size:=Nat.le_trans I.ok.above (Nat.le_of_lt I.lt)
def Inv.nofs(I:AL)(h:DAD):a∉X.fs:=λb=>by
 rw[AZ1 c (I.ok.funs.mem b)];rw[EV (oC c (D7G I.sz)) fE]
def Inv.cne(I:AL):C07 X.env.locals:=λx c e z=>by
 rw[EMJ d];obtain⟨m,⟨o',es,ep,b,a,_⟩,_⟩:=I.loc;rw[WX z b d d];rw[AX a hd hd]
def Inv.funs(I:AL):DQ5 X.outer:=by
 have all:∀(l:IL),DX b AEG D98->X.s₀.heap.FunFrames X.base l->s.heap.FunFrames X.base l:=by
  intro l;induction l with
  |nil=>intro _ _;trivial
  |cons env r k =>
   intro hs g;obtain⟨f,⟨L,o,d,h,i,hd⟩,j⟩:=g;have a:L∈X.fs:=hs L (EQO List.mem_cons_self);rw[OU sl (E0U (I.base.slot L o i (I.ok.frf L a) a) L)];rw[BA f ⟨L,_,d,h,e,hd⟩ (k (λb c=>hs b (EQO BS9)) j)]
 exact all X.outer (EH c c) I.ok.funs
def Inv.stack(I:AL):DQ5 X.stack:=by
 rw[EG4 a]
 .rw[AD e I.funs]
 .rw[e];rw[BPW b I.loc];refine .cons (D0X I.ok.kind) a b ?_ I.funs;exact Heap.get?_none_of_le (CSL I.ok.above)
def Inv.stkSub(I:AL):AG6 oO (X.env.locals::X.fs):=λb a=>by
 rw[EG4 c]
 .rw[e]at a;exact jK
 .rw[e]at a;unfold frs at a;rw[List.filterMap_cons,c]at a;exact a
def Inv.stkFree(I:AL):ZV oO KW:=λb a=>by
 rw[EG5 a e a]
 .rw[AD e I.free]
 .rw[AZ1 ho (I.ok.funs.mem a)];exact E0U (I.base.free b o ho (I.ok.frf b a)) b
def Inv.step{g':wN}{d':Drawn}(I:AL)
  (g:CD7)
  (keep:EIC B1E UQ)
  (t:EIC D98 EB5) (free:A9S wU (ZP->KW->vE))
  (there:gT wU ZP EB4)
  (D:CC5) (A:EYB) (C:ERO)
  (ns:∀m,DSD->CSU h'.Ns) (E:BZL) (L:DBQ) :
  F47:=by
 have B:iL X.s₀.heap.get? ADJ:=ID o B4R;have j:AB6 X.s₀.heap.get? D7E wU:=λb o e a w=>by
  rcases A41 g w with z|z
  .exact a z
  rw[FJ (oC e z) fE]
 have f:AET (∀v,s.heap.IsCell c v->h'.IsCell c v):=λx c e v (UV y hd)=>by
  have h:c∉ch:=λz=>EUM;by_cases G:c∈X.fs
  .rw[SI sl (F2Y t)];exact FP q hd
  .rw[BA o (F2Y keep) hd]
 refine⟨I.ok,I.os,L,⟨E82,E82,DW b o e n a,ACX e a,AG0 (D b xs (I.base.tups b xs e)),QC o xs (A b o xs (UM I.base.frzs xs)),C0I⟩,?_,B5W,?_,B5W,vT J,E,I.len⟩
 .exact keep b o D86 w BLV (pF I.base.keep w a) DV8
 .rw[kS sl e1 (pF I.base.slot w a) F e2 (t b _ D86 w BLV e1 DV8)];rw[AY F e2]
 .rw[E72];exact E9V free (aR I.base.free n a)
 .rw[E72];exact E9V there
 .rw[kS m1 e1 (BT3 I.base.tbls) M e2 (C b _ e1)];rw[AY (m1++M) (KA e2 Array.append_assoc)]
 .obtain⟨m,hn,hl⟩:=I.loc;rw[FY m (ns m hn) (EPQ K)];rw[YJ r l (hl i x v e1 e2 K)];rw[LT u r];rcases l with l|⟨k,c,e,z⟩
  rw[HF l]
  rw[HG ⟨k,c,e,EUK _⟩]
 .rw[eR z BL1];rw[AY v (EUK v)]
 .obtain⟨m,⟨o,_,_,y,_⟩,_⟩:=I.loc;exact free _ o (DQU g) y I.free
 .rw[EMJ y];exact free c o (λz=>EUM) y (jF I.freeC)
 .obtain⟨e,n,ne,nf,d⟩:=yV J;have h:CV∉ch:=λz=>(v9 (g CV z)).2 p J rfl;rw[EB (keep CV GW ne nf h e n) (free CV GW h e n) ne nf d]
def Inv.un(I:AL)(u:BFO X.fs [] h')(f:BZL):AB0 AG4:=by
 rw[F2E g (u.any g I.free AJ)];exact BP1 (ch:=[]) QJ (F0K u.keep) (F0K u.slot) (λb o _ e n=>u.free b o e n AJ) (QC o _ (aR u.there AJ)) u.tups u.frzs u.tbls (λk i=>by
  obtain⟨o',es',c,a,j⟩:=i;rw[AX g a a];rw[EB _ es' c h j]) f I.bare
def Inv.call{g':wN}{d':Drawn}(I:AL)(u:BFO oO ch h')(i:BZL)(l:DBQ)
  (d:CD7) :
  F47:=by
 rw[F2E j (u.any j I.free λz=>(d _ z).2.1 rfl)];exact I.step (ch:=ch) d (λb o h k a e n=>pF u.keep (λz=>(List.mem_cons.mp (I.stkSub b z)).elim h k) a) (AF8 a n (u.any e n a)) (λb o a e n=>CYG u.free) (QC o a (aR u.there a)) u.tups u.frzs u.tbls (λv q=>by
  obtain⟨o',es',g,f,t⟩:=q;rw[AX j f f];rw[EB _ es' g h t]) i l
def Inv.turned{it:qE}(I:AL)(k:BB6 BSD)(j:EC it)(f:D19 it)
  (h1:it∈X.ex∨BPE it) (h2:C07 it) (g:BFX (CV≠it)):D3L:=by
 have d:AKC BSD:=DPH j
 refine BP1 (ch:=[it]) (iU h) (DO4 C9D) (DO5 C9D) (A9D n n)
  (DRN C9D) CAQ E6L (ID ps (C0U e)) (AHM i) (kK ?_) I.bare
 .rw[SF e b it h]
  rw[CK];rw[EF h1 f h2 g]
 .rw[wF es ep ho r i];rw[CD6 (Ne.symm f)]
 .rw[EQ8 BN7 _ _]
  .rw[AD z (AED d)]
  .exact d c _ z
def Inv.tok(I:AL)(t:Nat):gG (A1H t):=BI I.un h' s.heap t' t Un.refl I.hok
def Inv.kept{t':Nat}(I:AL)(k:DHO):D3L:=I.un (Un.kept k) (I.hok.kept k)
def Inv.laid{a:qE}{o:HO}{t':Nat}(I:AL)(k:DHO)(hp:DAD)(new:B62 A7T h' a o) :
  JK A7T AG4:=I.un (Un.laid k hp (I.hok.fresh hp)) (I.hok.laid k hp new)
def Inv.write{x e:qE}{o:HO}{t':Nat}(I:AL)(d:C6E)(c:CAA)(k:BNV AVX s.heap.get?)(a:CBP)
  (new:ObjOk X.prog X.w BVZ h' x o):JK BVZ AG4:=I.un (Un.write d c k a) (I.hok.write d c k a new)
def Inv.weak{σ':AI3}(I:AL)(b:σ'.length=σ.length)(w:∀(i:Nat) v,DI2->B5G):lS σ' H s :=
 (CII I.ok (jR m hn hl' I.loc m hn (λi x v e1 e2 a=>hl' i x v e1 (w i v e2) a)) I.pin (b.trans I.len))
def Inv.pins_of{pins':DC}(I:AL)(h:∀p∈pins',F1T):CC0 pins' :=
 CKD I.ok (λp a=>E9P (λz=>yV BW3) (h p))
def b0k{N:AC}(c:N.Nodup){j:Nat}(a:OD N)(b:GU N x):jN:=by
 obtain⟨h1,e1⟩:=D2T;obtain⟨h2,e2⟩:=D3Q;exact QO List.getElem_inj c (e1.trans e2.symm)
def a7d{Q:A7D}(I:AL)(U:X.N.Nodup)(hi:fN)(l:A8B)(r:NV)
  (h:∀s',ECW->(∃a,CO7 s'.heap/\(a=X.env.locals∨GQ X.env.cells.lookup a))->CM3) (Z:A8S:=by rw[TV]):EPJ:=by
 rw[BX m L W id I.loc];have D:(D18 .class || (D18 .module && X.env.locals != X.env.globals))=false:=by rw[I.ok.kind];rfl
 have hiσ:i<σ.length:=by rw[A7F I.len hi]
 have cne:=I.cne;have f:∀{a:qE}{h':Heap},(∃o,DA6/\yN)->C4K->EHZ h':=λ{a h'} Y hs b ob e=>by
  obtain⟨_,_,t⟩:=Y;refine AGM I.hok ob (λc J g q=>(APW c ?_).trans q) BN7 λ_ _ q=>q;rw[XH];rw[WR g g]
  .rw[FH t]
  .rw[AX t g g]
 rw[AM8 l]
 .refine wpAny_storeName_local w L (DS h' N hs) D;obtain⟨oL,_,_,O,_⟩:=id L;refine h _ (F31 (FP N EZA) (A2J y c) oL O I.free) (FP hs NA)
  rw[EHU B4R]
  rw[ENZ B4R]
  rw[ENY B4R]
  .rw[BM hj j i]
   rw[F3E (EL ⟨w,AJ⟩)]
   .rw[F45];rcases q with⟨k,e⟩|⟨k,c,e,z⟩
    .refine .inl (HR k);have:y≠x:=λe=>hj (b0k U e1 (e ▸ hi));simp[this,e]
    rw[HG ⟨k,c,e,E52⟩]
  .obtain⟨J,z⟩:=I.cell y c e;rw[AY J E52]
  .obtain⟨e,n,ne,nf,d⟩:=yV P;rw[EB (EHC ne) n ne nf d]
 .have hfn:BDC:=by
   rw[BW Z]
   rw[NQ]
   .rw[AX z w w]
  rw[kS c g (I.ok.has x (.inl w)) J z (I.cell x c g)];refine wpAny_storeName_cell I.ok.kind w g z (DS h' C hs);rw[BX oc F G id z];refine h RP (F31 ⟨m,L.sameBut hs (Ne.symm (cne x c g)),EZA⟩ (A2J y c') oc F (I.freeC x c g)) ⟨c,hs,.inr g⟩
  rw[EHU CCZ]
  rw[ENZ CCZ]
  rw[ENY CCZ]
  .rw[BM hj j i]
   rw[F3E (DP ⟨EL w,c,g,C⟩)]
   .rw[F45];rcases q with q|⟨k,c',e,z'⟩
    rw[HF q]
    .rw[AC1 ⟨k,c',e,z'.sameBut hs ?_⟩];rw[XH];exact hj (b0k U e1 (A1B I.ok.inj e g ▸ hi))
  .rw[BM hcc c' c]
   .subst hcc;rw[RW C]
   .obtain⟨w2,z2⟩:=I.cell y c' e;rw[AY w2 (z2.sameBut hs hcc)]
  .rw[kD e n ne nf d (yV P) ⟨EHC ?_,n,ne,nf,d⟩];intro q;rw[q,F]at e;have q':oc=GW:=D33;exact d J (RZ q' G)
def a0P{Q:A7D}(I:AL)(b:X.N.Nodup)(hi:fN)(d:A8B)(r:NV)
  (h:C1P ECW) (c:A8S:=by rw[TV]):EPJ :=
 EXO a7d (λs' a _=>h s' a)
def Inv.call'{s':qC}(I:AL)(i:BYK)(u:BMC oO ch)(d:ALF)(h:x6)
  (a:CD7):sL:=by
 rw[AAR h' f t' o' s'];have e:o'=s.os:=i;rw[CK];exact BI I.call g' g t' t' (d':=f) u d h a
#where
noncomputable abbrev XK:=qB->ZD IM
noncomputable abbrev St:=AI3
variable {σ:St}
noncomputable abbrev VK:=BS3
noncomputable abbrev TE:=St->A1R
variable {ta te:TE}
noncomputable abbrev TT:=B4X VZ
noncomputable abbrev TA:=B4X A2V
variable {t:TA}
structure Ends where
 nx:RG
 rt:VK
 bk:RG:=AK8
 ct:RG:=AK8
variable {D:Ends}
noncomputable abbrev TS:=Ends->RG
variable {tb:TS}
inductive EP(X:Cx)(qK:DC)(σ:St)(Q:VK)(u:qB)(s':qC):Prop
 |mk (v H':_) (_:sL) (_:NV) (_:A2B):DHK
noncomputable def TP(X:Cx)(qK:DC)(σ:St)(Q:VZ)(b:Bool)(s':qC):Prop:=∃H',sL/\UE b
inductive AP(X:Cx)(qK:DC)(σ:St)(Q:A2V)(us:AN)(s':qC):Prop
 |mk (vs H':_) (_:sL) (_:A7L) (_:UE vs):AP X qK σ Q us s'
noncomputable def SP(X:Cx)(qK:DC)(D:Ends)(f:Flow)(s':qC):Prop :=
 match f with
 |.next=>AV4 (D.nx σ' H')
 |.brk=>DIG D.bk
 |.cont=>DIG D.ct
 |.ret u=>∃v σ' H',BDN/\NV/\D.rt v H'
noncomputable def PE(X:Cx)(e:Expr)(t:TE):Prop :=
 AD6 Q VK (B2Y (bT lW))
noncomputable def PT(X:Cx)(e:Expr)(t:TT):Prop :=
 AD6 Q VZ (B2Y (EAH lW))
noncomputable def PW(X:Cx)(e:Expr)(t:TT):Prop :=
 BP6 whole BH2 Q VZ (B2Y (EAH whole))
def PW.pt{t:TT}(h:DH7):DH6:=h _
noncomputable def PA(X:Cx)(es:BN)(t:TA):Prop :=
 BP6 pos Pos Q A2V (B2Y (AAI (EH6 A9E) AP))
noncomputable def PS(X:Cx)(st:Stmt)(t:TS):Prop :=
 EKB (ZY (cK exec st) B7P)
noncomputable def PSs(X:Cx)(st:IY)(t:TS):Prop :=
 EKB (ZY (CQT st) B7P)
def thn{α:Type}{t:BW0}{Q b:BSU}(h:DDK)(c:EMW):EA1:=A94 h c
section
inductive tVar(i:Nat)(σ:St)(H:Hp)(Q:VK):Prop
 |mk (v:_) (_:B5G) (_:AIY):sS tVar i
noncomputable def tC(v:V):TE:=A1C _ AIY
def b7V(g:fN)(o:AKK)(hd:FK:=by decide)(d:C67:=by decide):DLZ:=by
 rw[MZ];rw[rC v e h];obtain⟨m,n,j⟩:=I.loc;rw[YJ r l (j i x v g e o)];have fin:nT u s:=C8E;rcases l with⟨b,k⟩|⟨b,c,f,a⟩
 rw[C5Y (wpAny_loadName_local I.ok.kind b n k fin)]
 .rcases b with b|b
  rw[C5Y (wpAny_loadName_cell I.ok.kind b f a fin)]
  rw[C5Y (wpAny_loadName_free I.ok.kind b f a fin d)]
def c6S{i j pos}:B75 SX (BWT .int):=EBA wpAny_Constant_int SX
def c9a{b j pos}:B75 AZZ (tC (.bl b)):=DO8 Constant_bool bX
def c6Q{j pos}:B75 .none DPQ:=DO8 Constant_none .non
def c6O{x j pos}:B75 QR C6F:=EBA Calls.Constant_str QR
noncomputable def Gl(X:Cx)(x:Str):Prop:=GQ X.env.kindOf .globalImplicit
def K6(I:AL)(a:JC)(b:BZV)(h:Q u s)
  (hd:FK:=by decide):DID :=
 Calls.Name_function_global I.ok.kind a (Calls.loadGlobal_global ED9 b h) hd
def a2t(I:AL)(a:JC)(b:AIT)(d:BZU)(h:Q u s)
  (c:A6B:=by decide) (hd:FK:=by decide):DID:=by
 rw[A4K h1 h2 I.mod.blt];exact Calls.Name_function_global I.ok.kind a (Calls.loadGlobal_builtin ED9 b (IU I.ok.blt h1.keeps I.bk) ((h2 x c).trans d) h) hd
def c3C(a:JC)(b:BZV)(r:NV)(hd:FK:=by decide):DM0 :=
 A3K H I (K6 I a b C8E hd)
def c3G(a:JC)(b:AIT)(d:BZU)(r:NV)(c:A6B:=by decide)(hd:FK:=by decide):DM0 :=
 A3K H I (a2t I a b d C8E c hd)
variable {a b:Expr}{tb:TE}
noncomputable def PC(X:Cx)(op:CmpOp)(a b:Expr)(t:TE):Prop :=
 B5E VK (ASY ->
  EZD (compareOp op v u) BKL)
inductive tBI(Q:VZ)(x:V)(H1:Hp):Prop
 |mk (c:_) (_:B5T) (_:Q c H1):C6U tBI
noncomputable def tB(t:TE):TT:=B6S t tBI
def c6U{t:TE}(h:EV2)(h1:AKV:=by rw[EWT]):DJ B22 t:=lQ Q hw (wpAny_Compare1 (VI h Q I hw) h1)
def b7E{t:TE}(h:EV2)(h1:AKV:=by rw[EWT]):nX B22 (tB t):=by
 rw[lY Q hw];refine wpAny_isTrue_Compare1 (thn E0Q λv s1 h1=>thn h1 λu s2 h2=>FC h2 c j i) h1;rw[SL x e g f i];rw[GV d q f];rw[C2Z g H1 e q]
variable {tA tB':TT}{rest:BN}
noncomputable def c8T(t u:TT):TT:=NI t c (BXS u (Q false H1))
noncomputable def tOr(t u:TT):TT:=NI t c (OO c (Q true H1) (AUB u))
noncomputable def c8O(t:TT):TT:=NI t c DJD
def pw_and1(b:ALU):C0Q KG tA:=by
 rw[EVD isTrue_and];cases c with
 |true=>exact isTrue_and_nil e
 |false=>exact e
def pw_or1(b:ALU):C0R KG tA:=by
 rw[EVD isTrue_or];cases c with
 |false=>exact isTrue_or_nil e
 |true=>exact e
def pw_and(f:ALU)(g:C0Q iM tB'):C0Q xR (c8T tA tB'):=by
 rw[EYR isTrue_and];cases c with
 |true=>rw[F3J]
 |false=>rw[BA H1 d e]
def pw_or(f:ALU)(g:C0R iM tB'):C0R xR (tOr tA tB'):=by
 rw[EYR isTrue_or];cases c with
 |true=>rw[BA H1 d e]
 |false=>rw[F3J]
def c6C(b:ALU):gZ PT .UnaryOp .Not a DVR:=by
 rw[B1M isTrue_not (VI b (λc H1=>DJD) I h)]
inductive tAndVI(tb:TE)(σ:St)(Q:VK)(x:V)(H1:Hp):Prop
 |mk (c:_) (_:B5T) (_:BXS tb (yD false H1)):EUY tAndVI
noncomputable def c5o(ta tb:TE):TE:=F08 tAndVI
inductive tOrVI(tb:TE)(σ:St)(Q:VK)(x:V)(H1:Hp):Prop
 |mk (c:_) (_:B5T) (_:OO c (yD true H1) (AUB tb)):EUY tOrVI
noncomputable def c8N(ta tb:TE):TE:=F08 tOrVI
inductive tNotVI(Q:VK)(x:V)(H1:Hp):Prop
 |mk (c:_) (_:B5T) (_:yD (! c) H1):C6U tNotVI
noncomputable def c9W(ta:TE):TE:=B6S ta tNotVI
def c6P{op}{t:TE}(h:DJ a t):AJJ op KG t:=lQ Q hw (BoolOp_one (VI h Q I hw))
def c6W(f:W1)(g:AJJ .And iM tb):AJJ .And xR DOB:=by
 rw[F3P BoolOp_and];cases c with
 |true=>rw[C49 d]
 |false=>exact GJ (.bl false) H1 e d
def c8Y(f:W1)(g:AJJ .Or iM tb):AJJ .Or xR DOC:=by
 rw[F3P BoolOp_or];cases c with
 |false=>rw[C49 d]
 |true=>exact GJ (.bl true) H1 e d
noncomputable def tIf(t:TT)(ta tb:TE):TE:=NI t c (BXS ta (AUB tb))
def b7Z(j:nX c tA)(g:W1)(i:sV):DJ DOZ E0V:=by
 rw[ATR wpAny_IfExp EIJ];rw[wE H1 e k];cases d with
 |true=>rw[C49 f]
 |false=>exact bJ i Q e f
#where
noncomputable def SqL(K:qF)(H:Hp)(a:qE)(xs:AA):Prop :=
 Rd H a (.lst xs) ∨
  EZY (DA7/\ACZ "list"/\D6H/\o.data=D9Y/\D2I/\DZV)
noncomputable def SqT(K:qF)(H:Hp)(a:qE)(xs:AA):Prop :=
 Rd H a (.tup xs) ∨
  EZY (DA7/\DEQ/\o.data=D9Y/\D2I/\DZV)
noncomputable def c9M:qB->fG
 |.none=>AQ .non
 |AZZ=>BU .bl b
 |C5S=>DZ i
 |DYO=>ACK x
 |.bytes b _=>BU .byt b
 |.float b _=>BU .flt b
 |CC=>dD
 |LC n=>BU .ty n
 |_=>none
def RelV.abs{x:V}(r:bS):D2 c9M u x:=by
 cases x with
 |non=>rw[A7Z]
 |bl _=>rw[A7Z]
 |int _=>rw[A8A]
 |str _=>rw[A8A]
 |byt _=>rw[A8A]
 |flt _=>rw[A8A]
 |ref _=>rw[A7Z]
 |ty _=>rw[A7Z]
def RelV.inj{x y:V}{u:qB}(r:bS)(q:MB):x=y:=CQK r.abs.symm.trans q.abs
def Vals.inj{xs ys:AA}{us:AN}(h:aZ)(h':A7M):B3Z:=by
 induction h generalizing ys with
 |nil=>cases h';rfl
 |cons r t a=>cases h' with|cons r' t'=>rw[r.inj r',a t']
section
variable {ys:AA}
def SqL.of(h:uC a):fU:=wV h
def SqT.of(h:zW):cE:=wV h
def Inv.list(I:AL)(h:DSZ):DV0 PlainL:=by
 rcases h with h|⟨o,its,n,c,b,hd,hs,d,r⟩
 .rw[B9F (h.ok I.hok)];rw[EF its r (IQ n e rfl rfl rfl) z]
 rw[F2S ⟨o,n,EII,b,hd,D42⟩]
def Inv.tuple(I:AL)(h:DNV):DV0 IsTup:=by
 rcases h with h|⟨o,its,n,c,b,hs,d,r⟩
 .rw[DR z its r p h.ok I.hok];rw[EF its r p.tup z]
 rw[F2S ⟨o,EII,b,n,D42⟩]
def Inv.list_inj(I:AL)(h:DSZ)(h':CTP ys):B3Z:=by
 obtain⟨its,r,⟨o,n,e,_,_,d⟩,_⟩:=D3W;obtain⟨b,f,⟨o',g,e',_,_,c⟩,_⟩:=I.list h';rw[EWB]
 rw[EIZ]
 rw[EDB]
def Inv.tuple_inj(I:AL)(h:DNV)(h':BM0 ys):B3Z:=by
 obtain⟨its,r,⟨o,e,_,n,d⟩,_⟩:=D3X;obtain⟨b,f,⟨o',e',_,g,c⟩,_⟩:=AYL h';rw[EWB]
 rw[EIZ]
 rw[EDB]
#where
noncomputable abbrev Cx.wish(X:Cx)(E:qH):Cx:={X with xe:=E}
noncomputable abbrev Cx.nox(X:Cx):Cx:=X.wish λ_ _=>False
def Cx.Ok.wish(ok:X.Ok)(E:qH):EGX :=
 F5V
def Cx.Ok.unwish(ok:EGX):X.Ok :=
 F5V
def Inv.wish(I:AL)(E:qH):DPJ:=B63 (I.ok.wish E)
def Inv.unwish(I:DPJ):AL:=B63 I.ok.unwish
def SP.unwish{D:Ends}{f:Flow}{s':qC}(h:SP CTK qK D f s'):BFZ f:=by
 cases f with
 |next=>rw[CE9]
 |brk=>rw[CE9]
 |cont=>rw[CE9]
 |ret u=>obtain⟨v,σ',H',I,r,q⟩:=h;rw[GZ v σ' H' I.unwish r q]
def PSs.nox{st:IY}{t:TS}(h:PSs X.nox st t):DJH:=λqK s σ H D I hw =>
 BMF (VI h D (I.wish _) hw) (iF q q.unwish)
section
variable {st:Stmt}{rest:IY}{t u:TS}
noncomputable def c5j:TS:=A32 A30
noncomputable def c6o(t u:TS):TS:=A32 DJX
def c3f:PSs X [] c5j:=F17 (AYM C4M)
def b7G(h1:C1U)(h2:PSs X rest u):PSs X (st::rest) (c6o t u):=by
 rw[ESW CXF];cases f with
 |next =>
  obtain⟨σ',H',a,q⟩:=q;exact h2 qK s1 σ' H' D a q
 |ret v=>exact q
 |brk=>exact q
 |cont=>exact q
def c3e(h1:C1U):PSs X [st] t:=by
 rw[ESW D];cases f with
 |next=>rw[AZB q]
 |ret v=>exact q
 |brk=>exact q
 |cont=>exact q
noncomputable def b7g:TS:=A32 (D.bk σ H)
def b7L:EHS PS:=F17 (wpAny_Break C4M)
def Inv.quiet(I:AL):JL interactive X.env:=xB interactive I.ok.kind
noncomputable def c5k(te:TE):TS:=A0A te _ DA9
def c3h(b:sP)(hs:E3P:=by rfl):PS X E1B (c5k te):=by
 rw[VU];exact wpAny_Expr_any (EU1 (wD H1 a c)) I.quiet hs
noncomputable def c6p(te:TE):TS:=A32 (WU te D.rt)
def c6E(b:sP):PS X DV2 (c6p te):=by
 rw[VU];exact wpAny_Return_some (EU1 ⟨x,σ,H1,a,d,c⟩)
noncomputable def c9V:TS:=λD _ H=>D.rt .non H
noncomputable def c8P(c:TT)(t u:TS):TS:=A0A c b (OO b (t D σ H1) (u D σ H1))
def c8W{a b:IY}{tc:TT}(j:DS5)(g:PSs X a t)(i:PSs X b u):PS X DP0 (c8P tc t u):=by
 rw[VU];refine wpAny_If EIJ;rw[wE H1 e k];cases d with
 |true=>exact bJ g D e f
 |false=>exact bJ i D e f
#where
noncomputable abbrev TG:=V->St->DED
noncomputable abbrev TGs:=AA->St->DED
noncomputable def PG(X:Cx)(target:Expr)(t:TG):Prop :=
 AN8 v V u qB RG NV (sS t v ->
  ZY (assign target X.env u) (EH s' DIF))
noncomputable def PGs(X:Cx)(ts:BN)(t:TGs):Prop :=
 AN8 vs AA us AN RG A7L (sS t vs ->
  ZY ((assignInOrder ((assignEach ts X.env).map (·.2)) us)) (EH s' DIF))
noncomputable abbrev c2v:=V->V->V->ACS D9U
noncomputable def c8y(X:Cx)(t:c2v):Prop :=
 ∀(qK:DC) (s:qC) (σ:St) (H:Hp) (o i v:V) (ov iv u:qB) (Q:D9U),AL->E1P->DYX->NV->ESV t ->
  ZY (setItem ov iv u) (EH s' (∃H',sL/\Q H'))
noncomputable abbrev TIp:=AKA
noncomputable def PIp(X:Cx)(op:Operator)(t:TIp):Prop :=
 EZS (YW t ->
  bT (inplaceOp op v u))
noncomputable def B0(i:Nat):TG:=λv σ H Q=>Q BNW H
def c3A(b:X.N.Nodup)(hi:fN)(d:A8B)(c:A8S:=by rw[TV]):DY3 PG:=by
 rw[aA v u r];exact wpAny_assign_Name (EXO a0P (λs' a=>GT H a h))
noncomputable def b2R:TGs:=λvs σ H Q=>vs=[]/\Q σ H
inductive gCons(t:TG)(u:TGs)(vs:AA)(σ:St)(H:Hp)(Q:RG):Prop
 |mk (v r:_) (_:vs=v::r) (_:XG t v λσ' H'=>u r σ' H' Q):gCons t u vs σ H Q
def c3y:PGs X [] b2R:=by
 rw[aA vs a r];rw[jH e h];rw[CK];cases r;exact assignInOrder_nil C4M
def b7U{t:TG}{u:TGs}(h1:ATF PG)(h2:PGs X es u)
  (hs:ENO:=by rfl):PGs X LD (gCons t u):=by
 rw[aA vs d r];rw[SK v f e1 h];subst e1;cases r with
 |cons r rr =>
  rw[hs];refine assignInOrder_cons (FC (VI h1 _ _ _ I r h) _ s1 c);obtain⟨σ1,H1,a,b⟩:=c;exact EEO h2 _ _ Q a rr b
inductive gTup(K:qF)(n:Nat)(t:TGs)(v:V)(σ:St)(H:Hp)(Q:RG):Prop
 |mk (a xs:_) (_:AEL) (_:cE) (_:xs.length=n) (_:sS t xs):WU (gTup K n t v) Q
def c6L{t:TGs}(g:DV)(h:DM3)
  (j:CC3:=by rfl) (c:CCH:=by rfl):EP6 (gTup X.K n t):=by
 intro qK s σ H v u Q I r hw;obtain⟨a,xs,e1,l,i,hw⟩:=hw;subst e1;cases r;rw[RK d m q I.tuple l];refine KH (assign_Tuple_tuple D61 m (by simp[j,<-i,d.length]) c) h' p;have f:AVN:=I.kept (t':=s.toks) λb o e=>UM p BNJ;exact E55 H xs _ Q f B03 hw
noncomputable def c9q(to ti:TE)(t:c2v):TG:=λv σ H Q=>cR to o (VJ ti i (t o i v H2 λH3=>Q σ H3))
def c6M{o i:Expr}{to d:TE}{t:c2v}(l:AK7)(hi:DJ i d)(hs:c8y X t)
  (k:ESP (do
   let a <-holding [v] (eval o X.env)
   let b <-holding [v,a] (eval i X.env)
   standAt pos
   holding [v,a,b] (setItem a b v)
   release [v,a,b] []):=by rw[gA]):gZ PG .Subscript o i (c9q to d t):=by
 rw[aA v u r];rw[k];rw[AE8 (dC l a c)];rw[SL x f q m c];rw[AE8 (A6A hi f m b c)];rw[A5M y g w n c];rw[OA wpAny_standAt (DQ6 (FC (AD4 hs x y v a b u _ g q w r n) _ z c))];rw[A4K j p c];exact wpAny_release (wD e j p)
noncomputable def b4X(te:TE)(g:TG):TS:=A0A te x (g x σ H1 D.nx)
def c6H{g:TG}(b:sP)(c:DNX)(hs:EJ7:=by rfl)(hw:EXH:=by rfl)
  (h1:EBC:=by rfl):EKF PS:=by
 rw[VU];refine wpAny_Assign_stores (eN b i) hs hw;rw[SL x a f d i];rw[AD h1 (thn (bJ c x v _ a f d) λ_ s2 q=>q)]
def c6D{pos':Pos}(c:X.N.Nodup)(hi:fN)(g:A8B)(d:sP)(hs:E4A:=by rfl)(f:A8S:=by rw[TV]) :
  ELO PS:=by
 rw[VU];refine wpAny_Assign_Name (eN d l) hs;rw[SL y a k j l];exact a0P a c hi g k (λs2 b=>GT H1 b j) f
noncomputable def c5n(to ti te:TE)(tget:AKA)(tip:TIp)(tset:c2v):TS:=A0A to o (VJ ti i (tget o i H2 λx H3=>te σ H3 λy H4=>tip x y H4 λz H5=>tset o i z H5 λH6=>AAK H6))
noncomputable def c8z(X:Cx)(t:AKA):Prop :=
 D0I o i ov iv (AL->E1P->DYX->t o i H Q ->
  bT (getItem ov iv))
def c3j{o i:Expr}{to m:TE}{b:AKA}{g:TIp}{c:c2v}{op:Operator}{tpos:Pos}(G:AK7)(hi:DJ i m)(F:c8z X b)(E:sP)(hp:PIp X op g)(hs:c8y X c)
  (C:∀f d new,augStore i f d new=(do holding [new,f,d] (setItem f d new);release [new,f,d] [];pure .next):=by intros;rfl):PS X (EJS op) (c5n to m te b g c):=by
 rw[VU];refine wpAny_AugAssign_SubscriptAny (dC G f a) C;rw[SL n w k J a];refine A6A hi w J d a;rw[A5M p x l K a];refine thn (AD4 F n p f d _ x k l K) λj S a=>?_;obtain⟨W,q,y,P,L⟩:=a;refine FC (LG E S q _ y L) v T a;obtain⟨Y,r,z,Q,M⟩:=a;refine thn (LG hp T r W Y j v _ z P Q M) λnew U a=>?_;obtain⟨Z,t,A,R,N⟩:=a;exact thn (LG hs U t n p Z f d new _ A k l R N) λ_ s6 (AYV B O)=>wD u B O
inductive ipI(f:A0B)(x:V)(y:V)(H:Hp)(Q:VK):Prop
 |mk (i j:_) (_:AL8) (_:BYC) (_:QM (f i j)):ipI f x y H Q
def c7X:PIp X .Add E1Q:=by
 rw[NH a b];rw[QG i j e1 e2 q];subst e1;subst e2;rw[HN a];rw[hH b];exact iadd_int (kM YL)
noncomputable def b6Y(c:TT)(tb:TS):TS:=A32 (∃W:A7A,(∃m,E2J)/\∀m σ H,E2J ->
 cR c b (OO b (BEZ (∃m',m'<m/\W m' σ' H') (tb (CFL N N) σ H1)) DA9))
def b7H{tc:TT}(hp:B9E)(r:DS5)(q:E8R):PS X (EHM body) (b6Y tc tb):=by
 rw[VU];obtain⟨W,⟨t,u⟩,turn⟩:=h;refine wpAny_While (codeAny_whileLoop (λn s'=>AV4 (W n σ' H')) ?_ t (wD H I u));rintro n s1 ⟨σ1,H1,p,w⟩;rw[A0S (FC (EEO r _ p (turn n σ1 H1 w)) b s2 x)];rw[oW H2 m x];cases b with
 |true =>
  rw[oW N o d];rw[EJ];rw[A0S (FC (q qK s2 σ1 H2 _ m d) f y e)];cases f with
  |next =>
   rw[F58]
  |cont =>
   rw[F58]
  |brk=>exact e
  |ret v=>exact e
 |false =>
  rw[BB (BC Bool.false_ne_true) wpAny_execs_nil ⟨σ1,H2,m,d⟩]
structure It where
 go:D4I
 yld:Nat->Hp->BS3
 stop:D4I
noncomputable def a3W(X:Cx)(qK:DC)(H:Hp)(b:qE):Prop :=
 KW/\ADJ/\B1E/\CP5/\COO/\CNA
def Inv.fpOk(I:AL)(a:s.heap.objs.size<=b)(d:vE):C4N:=by
 refine⟨d,CQY Nat.ne_of_gt I.lt a,I.nofs a,DJC I.sz a,BT x c e z,DS p f z⟩
 .rw[SI v BL1];rw[EV (Nat.lt_of_lt_of_le q.lt C3C) fE]
 rw[FJ (oC (yV f).1 C3C) fE]
structure Turn(P:qG)(w:World)(K:qF)(tg:Expr)(J:It)(fp:EI)(it:qE)(tn:DFA):Prop where
 mem:it∈fp
 obj:∀i h,A44 h->E4M pY
 keep:∀i h h',A44 h->A3I (∀o,pY->UQ)->A44 h'
 item:EZV (J.go i H ->
  EHK (λr s1=>∃u,r=some u /\
   FN A4Q X.A (letOwnedTupleGo tg wG u) (EH s2 (∃x H',DBB/\bS/\J.yld i H x H'/\tn AO s2.heap/\pB vE)) E s1))
 done:EZV (J.stop i H ->
  EHK (λr s1=>r=none/\gG s1))
 self:EW6 A Around i Nat (CT0->DR1->LI A4Q (PU pyIter it) Q)
noncomputable abbrev TI:=B4X fH
inductive PIE(X:Cx)(qK:DC)(σ:St)(tg:Expr)(R:fH)(itv:qB)(s2:qC):Prop
 |mk (it:qE) (fp:EI) (tn:DFA) (J:It) (H':Hp) (_:LH itv it) (_:DBB) (_:ANK Turn X.K tg J fp it tn) (_:tn 0 s2.heap) (_:(A3I C4N)) (_:R J H'):A9Z PIE tg R itv s2
noncomputable def PI(X:Cx)(tg iter:Expr)(wi:TI):Prop :=
 AD6 R fH (AL->WU wi R ->
  ZY (QY iter) (λv s1=>pS (pyIter v) ERC s1))
def b4v{it:qE}{o:Obj}{n:String}{vs:CY}{Q:A7D}(d:D5L it)(b:ACZ n)(hd:C36 vs)
  (c:JL F3C n) (a:Q () s):LI M (letOwnedTupleGo tg wG u) Q:=by
 unfold letOwnedTupleGo;cases tg<;>first
  |rw[TD a]
  | (cases u <;> first
    |rw[TD a]
    | (rw[AZ (wpAny_load d ?_)]
       rw[b,hd];show LI M (jP (iE (F3C n) (vs[0]? == AHD rawInt)) _) Q;rw[pL (LK (by intro h;rw[c,Bool.false_and]at h;cases h)) a]))
noncomputable def Itl(K:qF)(a:qE):It :=
 EQ0 fU fU fU
noncomputable def Itt(K:qF)(a:qE):It :=
 EQ0 cE cE cE
noncomputable def Itr(lo:Int)(n:Nat):It:=⟨B0X LR,AGW x (H'=H/\ARG (lo+i)),B0X (n<=i)⟩
def b4T(a it:qE):EC2 AJN h.IsListIter where
 mem:=AJ
 obj:=AM2 b (by
  rw[C2C]
  rw[CE2])
 keep:=EKZ
 item:=by
  rw[F53 I.list wpAny_pyNext_list_item p.isList I.list_inj]
 done:=by
  rw[F3X I.list wpAny_pyNext_list_end p.isList]
 self:=B8B wpAny_pyIter_listiter
def b1i(a it:qE):EC2 AEN h.IsTupleIter where
 mem:=AJ
 obj:=AM2 b (by
  rw[C2C]
  rw[CE2])
 keep:=EKZ
 item:=by
  rw[F53 I.tuple wpAny_pyNext_tuple_item E9A I.tuple_inj]
 done:=by
  rw[F3X I.tuple wpAny_pyNext_tuple_end E9A]
 self:=B8B wpAny_pyIter_tupleiter
def b1j(it:qE)(lo:Int)(n:Nat):BOU DJM (IsRangeIter h it (lo+PN i*1) (FE-PN i) 1) where
 mem:=AJ
 obj:=λi h st b a=>by
  rw[SF e b it a]
  rw[CK];exact FP st (λv z=>by
   have y:Data.fields _=Data.cell v:=z;cases y)
 keep:=xZ k (AKJ it st)
 item:=by
  rw[F4Z];have W:=BI Walks.range prog X.prog w X.w D6R it lo 1 n;refine AL3 i s q st (DT v h' tk x st' kk);rw[HN x];have r:D3K:=I.turned (v4 a kk rO) d f1 f g j;rw[cA (BI b4v s aJ n "range_iterator" st' rfl rfl AI ⟨BR3,H,r,HR t,ATI,st',λb a=>A41 c a⟩)];rw[Int.mul_one]
 done:=by
  rw[F4Z];exact wpAny_pyNext_range_end D6R st (by have:n<=i:=q;rw[QN 0x17f14d72c2debd6]) λh' u=>EQ (AUZ (v4 a u a) d f g j)
 self:=B8B wpAny_pyIter_rangeiter
inductive iListI(K:qF)(R:fH)(x:V)(H1:Hp):Prop
 |mk (a:_) (_:IW) (_:ENH SqL) (_:R AJN H1):iListI K R x H1
noncomputable def c1G(K:qF)(tl:TE):TI:=E8D iListI
inductive iTupI(K:qF)(R:fH)(x:V)(H1:Hp):Prop
 |mk (a:_) (_:IW) (_:ENH SqT) (_:R AEN H1):iTupI K R x H1
noncomputable def c4P(K:qF)(tl:TE):TI:=E8D iTupI
def c3x{tl:TE}(f:AMB):DHZ c1G:=by
 rw[F5L c.list wpAny_pyIter_list p.isList b4T]
 rw[EBX]
def c6K{tl:TE}(f:AMB):DHZ c4P:=by
 rw[F5L c.tuple wpAny_pyIter_tuple (show s1.heap.IsTuple a its.toArray from p) b1i]
 rw[EBX]
def b7B{R:fH}{lo hi:Int}{t u v:Tok}{tk:Nat}(I:AL)(h1 : C3U lo)(h2:lo<ATE)(c : C3U hi)(d:hi<ATE)
  (q:R (Itr lo BK4) H):AOX (CLG pyIter) ERC E F0J:=by
 refine wpAny_pyIter_range (IsRange.new ..) (small_one h1 h2 c d) ?_;have a:gG F0J:=I.kept λb o e=>WZ;refine⟨BXM,[BXM],_,_,H,rfl,
  a.kept (t':=tk) λb o e=>WZ,b1j _ lo BK4,?_,iU f,q⟩
 .rw[pZ e1 DQT lo]
  have e2:EFO=Builtin.Range.rangeSize lo hi 1:=by rw[rangeSize_one];split<;>omega
  show IsRangeIter _ _ DQT EFO 1;rw[CM e1 e2 JV]
 .rw[SF e b BXM f]
  rw[BOI a.fpOk BK3]
inductive iRng1I(R:fH)(vs:AA)(H1:Hp):Prop
 |mk (j:Int) (_:QB aW) (_ : C3U j) (_:j<ATE) (_:R (Itr 0 j.toNat) H1):iRng1I R vs H1
noncomputable def c5X(ta:TA):TI:=DI9 ta iRng1I
def b5t{a:Expr}{ta:TA}{p:Pos}(f:D5U)(g:D7O)(d:PA X KG ta)(hs:E8X:=by rfl):ALC E49 (c5X ta):=by
 rw[AW4];refine Call_ (a2t I f g boot_range (PyProof.Rows.callWith_type1 (FC CJL l s1 (RU vs c k b)) hs rfl));obtain⟨j,e,b,i,q⟩:=b;rw[CK];cases k with
 |cons r rr =>
  cases rr;rw[HN r];exact call_range_1 (b7B c AF AF b i (BL q))
noncomputable def c8Q(wi:TI)(g:TG)(tb:TS):TS:=A0A wi J (CID (W 0 m σ H1) (A8C ->
 AM7 J.stop J.go m' m' (W AO m' σ' H') J.yld))
noncomputable def a5z(fp:EI)(h:Heap):DC:=fp.filterMap λb=>DJ6 b ASV
def a0v{o:Obj}(a:b∈fp)(e:pY):ASV∈E1J:=DB3 b a DAU
def b5I{p:qE×Obj}(hp:p∈E1J):CV∈fp/\kF CV GW:=by
 rw[BX b a e List.mem_filterMap.mp hp];cases q:D3P with
 |none=>rw[FH q]
 |some o =>
  rw[q]at e;have e':ASV=p:=D33;subst e';rw[AY a q]
def Inv.pinned(I:AL)(f:BXR)(g:E4M ZP):CC0 (DUM s.heap) :=
 I.pins_of λp h=>(List.mem_append.mp h).elim (λz=>yV BVB) λz=>by
  rw[OU a (b5I z)];obtain⟨c,f1,f2,_⟩:=f CV a;rw[oW o e' (g CV a)];rw[aS e' e'];rw[EB e c f1 f2 d]
def Inv.unpinned{pl:DC}(I:CC0 (qK++pl)):AL:=I.pins_of λp a=>yV (iB (XQ a))
def c6F{R:TI}{g:TG}(hp:B9E)(O:DV)(hi:AUJ R)(hg:DNX)(k:E8R)
  (hs:AUL (foldedSetIterable l X.env x):=by rw[gA]):PS X (.For tg l body [] pos) (c8Q R g tb):=by
 rw[VU];refine wpAny_For (EET a0) hs;rw[F5S U K];have p:∀{H':Hp},AKM->pB C4N:=λhn b k=>⟨hn b k,(f2 b k).2⟩;refine codeAny_forLoop_any (λn s'=>∃i σ' H',BDN/\DE4/\AKM/\W i n σ' H') ?_ m0 ⟨0,σ,H2,U,K,λb k=>A41 f2 k,w0⟩;rintro n P ⟨i,σ3,B,M,z,w,w3⟩;rcases turn i n σ3 B w3 with⟨stop,qn⟩|⟨go,N,hN,step⟩
 .rw[A0S (FC (F40 T.done stop) r s4 ⟨F,V⟩)];rw[mH F wpAny_execs_nil ⟨σ3,B,V,qn⟩]
 .rw[A0S (FC (F40 T.item go) r s4 A)];rw[YJ F h4 A];subst F;rw[A0S (FC h4 _ Q A)];obtain⟨x,L,Y,r5,y5,t,E⟩:=A;have C:=Y.pinned (p E) (AH T.obj t);rw[A0S (FC (EPD (hg _ Q σ3 L) C L) _ s6 A)];obtain⟨σ6,S,Z,q6⟩:=A;rw[A0S (FC (k _ s6 σ6 S _ Z q6) f G q)];have j:∀{σ7:St}{a:Hp},Inv X (DUM Q.heap) σ7 a G->N σ7 a->BMM (∃i σ' H',CG3 G/\A44 G.heap/\AKM/\W i m σ' H'):=λ{σ7 a} c y=>by
   obtain⟨m',hm,w7⟩:=hN σ7 a y;refine⟨m',hm,AO,σ7,a,c.unpinned,C4I t k (B7S c.pin DZS).1,iU k,w7⟩;rw[oW o e (C88 t k)];exact(B7S c.pin DZS).2.1
  cases f with
  |next=>rw[EQ6]
  |cont=>rw[EQ6]
  |brk=>rw[A3Y σ7 a q q];rw[EF σ7 a c.unpinned q]
  |ret v=>obtain⟨x7,σ7,a,c,r7,q⟩:=q;rw[GZ x7 σ7 a c.unpinned r7 q]
def O4{g:TG}(c:A7A)(h0:C0L)(f:C9N fU)
  (hs:ETT) (hd:C2I) :
  AM6 (A8C ->
   AM7 (C0Z stop) (C0Z go) d d (W AO d σ' H') (C0Z yld)):=by
 rw[EQD]
 rw[EVZ]
 .rw[C93]
  rw[AN4 (AX5 q)]
def b4z{g:TG}(c:A7A)(h0:C0L)(f:C9N cE)
  (hs:ETT) (hd:C2I) :
  AM6 (A8C ->
   AM7 (C10 stop) (C10 go) d d (W AO d σ' H') (C10 yld)):=by
 rw[EQD]
 rw[EVZ]
 .rw[C93]
  rw[AN4 (AX5 q)]
def a3O{lo:Int}{g:TG}(b:A7A)(h0:XG b 0)
  (hs:∀i σ H,LR->DJP->XG g BR3 λσ2 H2=>APU BUU BUU) (hd:AU2 (b n σ H) A30) :
  AM6 (A8C ->
   AM7 (C6J stop) (C6J go) c c (W AO c σ' H') (C6J yld)):=by
 rw[AV9 σ n B15 DJP ⟨n,AJ,F1,h0⟩ σ];rw[fD LR]
 .rw[AY6 a BUU ENT];rw[EYH σ a]
 .have e:i=n:= ~~~a5Q hi a
  rw[AN4 BO]
noncomputable abbrev R2:=AKA
variable {r:R2}
noncomputable def OpR(X:Cx)(f:ECK)(r:R2):Prop :=
 EZS (YW r ->
  bT C61)
noncomputable def UnR(X:Cx)(f:DKS)(r:BYJ):Prop :=
 AN8 x V v qB VK bG (E3W ->
  bT (f v))
noncomputable def D9(X:Cx)(f:qB)(r:AKX):Prop :=
 AN8 xs AA us AN VK aZ (fZ r ->
  bT (call f us))
noncomputable def c9N(X:Cx)(r:V->ACS VZ):Prop :=
 AN8 x V v qB VZ bG (E3W ->
  AAI (truthy v) TP)
noncomputable def tOp(r:R2)(ta tb:TE):TE:=DNG (r x y H2 Q)
noncomputable def tUn(r:BYJ)(ta:TE):TE:=NI ta x (r x H1 Q)
inductive rI(C:DYE)(g:B3G)(x:V)(y:V)(H:Hp)(Q:VK):Prop
 |mk (i j:_) (_:AL8) (_:BYC) (_:C i j) (_:D8F):rI C g x y H Q
inductive rI0(g:B3G)(x:V)(y:V)(H:Hp)(Q:VK):Prop
 |mk (i j:_) (_:AL8) (_:BYC) (_:D8F):rI0 g x y H Q
inductive rU(g:DAB)(x:V)(H:Hp)(Q:VK):Prop
 |mk (i:_) (_:AL8) (_:Q (g i) H):rU g x H Q
section
variable {a b:Expr}{tb tc:TE}
def c8p(g:W1)(i:sV){R:V->BS3}(I:AL)
  (h:(cR ta x (VJ tb y EJD)))
  (j:∀v u s2 x y H2,DYU->bG->MB->EJD->pS C61 Q s2) :
  EZD C61 Q:=by
 refine eN g c;rw[SL x d m k c];refine A6A i d k u c;rw[A5M y e n l c];exact j v u s2 x y H2 e m n l
def V9{op:Operator}(f:uP op r)(d:W1)(e:sV):DJ (CF6 op) BTK:=by
 rw[B1M wpAny_BinOp (CEF g i (AXK f Q c g i q))]
def c8X{op:UnaryOp}{r:BYJ}(d:DZY op r)(c:W1):nA .UnaryOp op a (tUn r ta):=by
 rw[B1M UnaryOp_ (thn (UH c) λv s1 (RU x b f e)=>bJ d x v Q b f e)]
def opI{C:DYE}{g:A0B}
  (a:D0J (C i j->E9T->AUY CYZ)) :
  OpR X f (rI C λi j=>BMG):=by
 rw[NH c d];rw[ELJ b];rw[jL];rw[hH d];exact CY0 s _ _ b DDT
def c9e{g:A0B}
  (a:DVN E9T) :
  DTP BMG:=by
 rw[EVA DDT]
def c3N{g:BBG Bool}
  (a:DVN (A39 BH3 s)) :
  DTP DIC:=by
 rw[EVA (uV DIC q)]
noncomputable def c9w(i j:Int):Prop:=0<j/\j<1073741824
noncomputable def c9v(i j:Int):Prop:=0<=j/\j<=1000000/\i.natAbs<eZ
noncomputable def CMul(i j:Int):Prop:=(DIR<i/\i<eZ)∨(DIR<j/\j<eZ)
def CMul.ok{i j:Int}(h:CMul i j):IntMulOk i j:=by
 rw[EVG]
 rw[DZ7 .of_left]
 rw[DZ7 .of_right]
def c7k:AJO C26:=BG0 c9e add_int
def c6Z:uP .Sub DJZ:=BG0 c9e sub_int
def c7e:AJP E4Y:=AN7 _ _ (mul_int q a.ok)
def c3L:EAK c9w:=AN7 i j (by
 rw[EW8 1073741824];exact floordiv_int DDG EDN (tU PyProof.noPylong_small AF))
def c7f:uP .Mod (w9 DZF (i % j)):=AN7 i j (by
 have h1:MX<j:=a;exact mod_int' (OJ a5N) (AG (Int.fmod_eq_emod_of_nonneg i (OJ a8B)) q))
def c7b:uP .Pow (w9 c9v DXF):=AN7 _ _ (pow_int_small QK a.2.1 a.2.2 q)
def unI{f:DKS}{g:Int->Int}
  (a:EW6 i Int t Tok (Q (.int (g i) s.toks) dW->AUY (f (.int i t)))) :
  UnR X f (rU λi=>E3S):=by
 rw[aA x v b];rw[GV i q h];rw[oZ];exact a i t s _ _ (kM E3S)
def c6i:DZY .USub DSE:=unI λ_ _ _ _ _ q=>neg_int q
#where
noncomputable def c8U:E3A
 |.non,.non=>true | .non,YL=>true | YL,.non=>true | .non,dO=>true | dO,.non=>true | .non,YB=>true | YB,.non=>true
 |YL,YL=>true | dO,dO=>true | YB,YB=>true | BQM,BQM=>true
 |YL,YB=>true | YB,YL=>true | dO,YB=>true | YB,dO=>true
 |_,_=>false
noncomputable def rEq:R2:=E66 (BGY (x=y))
noncomputable def rNe:R2:=E66 (CT2 (x=y))
def b4G{i j:Int}:AXO (eB (DI i) j) i j:=by
 rw[BUP]
def c2c{i j:Bool}:EE8 V.bl V.bl:=by
 rw[BUP]
def b4F{i j:Str}:EE8 V.str V.str:=by
 rw[BUP]
def b4H{i j:D2L}:AXO (V.byt i=V.byt j) i.toList j.toList:=by
 rw[BJ2];rw[pI i j];simp
section
variable {a b:Expr}{tb tc:TE}
def C4{Q:VK}{k k':Bool}(I:AL)(q:ACQ k)(e:k=k'):nT (.bool k') s:=by
 rw[CK];exact uV (.bl k) q
def c5z:BUY rEq:=by
 rw[EL9];cases x with
 |non =>
  cases b;cases y with
  |non=>rw[YT PySem.EqNone.eq_none_none]
  |bl j=>rw[YT PySem.EqNone.eq_none_bool]
  |int j=>rw[fW PySem.EqNone.eq_none_int]
  |str j=>rw[fW PySem.EqNone.eq_none_str]
  |_=>rw[fX]
 |bl i =>
  cases b;cases y with
  |non=>rw[YT PySem.EqNone.eq_bool_none]
  |bl j=>cases a;exact eq_bool (A1K c2c)
  |str j=>rw[fW PySem.EqMixed.eq_bool_str]
  |_=>rw[fX]
 |int i =>
  rw[oZ];cases y with
  |non=>rw[YT PySem.EqNone.eq_int_none]
  |int j=>rw[A7V eq_int b4G]
  |str j=>rw[fW PySem.EqMixed.eq_int_str]
  |_=>rw[fX]
 |str i =>
  rw[oZ];cases y with
  |non=>rw[YT PySem.EqNone.eq_str_none]
  |bl j=>rw[YT PySem.EqMixed.eq_str_bool]
  |int j=>rw[fW PySem.EqMixed.eq_str_int]
  |str j=>rw[A7V eq_str b4F]
  |_=>rw[fX]
 |byt i =>
  rw[oZ];cases y with
  |byt j=>rw[A7V PySem.W.eq_bytes b4H]
  |_=>rw[fX]
 |_=>rw[EG8]
def c5y:BUZ rNe:=by
 rw[EL9];cases x with
 |non =>
  cases b;cases y with
  |non=>rw[YT PySem.EqNone.ne_none_none]
  |bl j=>rw[YT PySem.EqNone.ne_none_bool]
  |int j=>rw[fW PySem.EqNone.ne_none_int]
  |str j=>rw[fW PySem.EqNone.ne_none_str]
  |_=>rw[fX]
 |bl i =>
  cases b;cases y with
  |non=>rw[YT PySem.EqNone.ne_bool_none]
  |bl j=>cases a;exact ne_bool (A1K (B2A c2c))
  |str j=>rw[fW PySem.EqMixed.ne_bool_str]
  |_=>rw[fX]
 |int i =>
  rw[oZ];cases y with
  |non=>rw[YT PySem.EqNone.ne_int_none]
  |int j=>rw[A7V ne_int (B2A b4G)]
  |str j=>rw[fW PySem.EqMixed.ne_int_str]
  |_=>rw[fX]
 |str i =>
  rw[oZ];cases y with
  |non=>rw[YT PySem.EqNone.ne_str_none]
  |bl j=>rw[YT PySem.EqMixed.ne_str_bool]
  |int j=>rw[fW PySem.EqMixed.ne_str_int]
  |str j=>rw[A7V ne_str (B2A b4F)]
  |_=>rw[fX]
 |byt i =>
  rw[oZ];cases y with
  |byt j=>rw[A7V PySem.W.ne_bytes (B2A b4H)]
  |_=>rw[fX]
 |_=>rw[EG8]
def c9b:UT .Lt (v5 (i<j)):=B5K lt_int
def a7l:UT .LtE A05:=B5K le_int
def c9c:UT .Gt (v5 (j<i)):=B5K gt_int
def c9d:UT .GtE (v5 (j<=i)):=B5K ge_int
def b8k:UT .Is C2D:=by
 rw[ENU is_none_gen];cases x<;>first
  |(cases a;rfl)
  |(rw[HN a];rfl)
def c3K:UT .IsNot E98:=by
 rw[ENU isnot_none_gen];cases x<;>first
  |(cases a;rfl)
  |(rw[HN a];rfl)
def K9(b:Expr)(h:op≠.In:=by decide)(h2:op≠.NotIn:=by decide):AKV:=by
 have e1:(op==CmpOp.In)=false:=by cases op<;>first|rfl|rw[AID h]
 have e2:(op==CmpOp.NotIn)=false:=by cases op<;>first|rfl|rw[AID h2]
 cases b with
 |Set elts k p=>show PR ((k==0 && (op==CmpOp.In || op==CmpOp.NotIn) && elts.all (constantsAlone 8)));rw[e1,e2,Bool.or_false,Bool.and_false,Bool.false_and]
 |_=>rfl
def a0t(g:B6Y)(d:W1)(e:sV)(f:AKV):DJ B22 BTK:=by
 rw[MZ];exact wpAny_Compare1 (CEF i j (AXK g Q c i j q)) f
inductive tTestI(Q:VZ)(x:V)(H':Hp):Prop
 |mk (k:_) (_:x=.bl k) (_:UE k):tTestI Q x H'
noncomputable def O0(t:TE):TT:=B6S t tTestI
def J0(n:B6Y)(j:W1)(l:sV)(m:AKV):nX B22 (O0 (A1E r)):=by
 rw[BUC wpAny_isTrue_Compare1 j f t o (A8Q l f o (λu s2 (VX y g w p) =>
  thn (AXK n _ g t w p) λc B ⟨z,d,i,A,k,e,q⟩=>?_)) m]
 rw[CK];rw[C2Z A d i q]
inductive tChainI(r':R2)(tc:TE)(σ:St)(Q:VK)(y:V)(z:V)(H3:Hp):Prop
 |mk (k:_) (_:z=.bl k) (_:(MW (AW k) (tc σ H3 λw' H4=>r' y w' H4 Q) (yD false H3))):tChainI r' tc σ Q y z H3
noncomputable def a7T(r r':R2)(ta tb tc:TE):TE:=DNG (r x y H2 (tChainI r' tc σ Q y))
def b8f{f:CmpOp}{m:R2}(D:B6Y)(g:E27)(w:W1)(A:sV)(B:DZ4)
  (C:DOX:=by rw[lZ]):DJ DMV (a7T r m ta tb tc):=by
 rw[BUC Compare_chain w p J E (chain_link (A8Q A p E (λu s2 (VX y q n F) =>
  EW1 D q J F M K))) C]
 rw[CK];rw[BN0 K];cases k with
 |false=>exact ite_ff (GJ (.bl false) i j l)
 |true=>exact ite_tt (chain_last (thn (LG B M i _ j l) λO N ⟨P,o,t,L,G⟩=>LG g N o y P u O Q t n L G))
def b7F{f:CmpOp}{m:R2}(F:B6Y)(g:E27)(B:W1)(C:sV)(D:DZ4)
  (E:DOX:=by rw[lZ]):nX DMV (O0 (a7T r m ta tb tc)):=by
 rw[BUC isTrue_chain B q N J (test_link (A8Q C q J (λu s2 (VX y t n K) =>
  EW1 F t N K S O))) E]
 rw[CK];rw[BN0 O];cases k with
 |false =>
  obtain⟨k',e',G⟩:=l;cases e';exact ite_ff ⟨i,j,G⟩
 |true =>
  refine ite_tt (test_last (thn (LG D S i _ j l) λU T ⟨V,o,w,P,L⟩=>thn (LG g T o y V u U _ w n P L) λY Z W=>?_));obtain⟨z2,p,A,R,k2,e2,M⟩:=W;subst e2;rw[C2Z R p A M]
noncomputable def c8x(K:qF)(x:V)(H:Hp)(k:Bool):Prop :=
 match x with
 |.non=>PR k
 |bX=>k=b
 |SX=>k=(i != 0)
 |BSO=>EBS
 |.byt y=>EBT
 |FZ=>BOJ ALB (BOJ BZG ELV)
 |_=>False
def b2N{κ:Type}{qL:KJ}{vs:A06}(r:eV):(! vs.isEmpty)=! qL.isEmpty:=by
 cases r<;>rfl
def a6e{its:AN}(r:pQ):(! its.toArray.isEmpty)=! xs.isEmpty:=by
 cases r<;>simp
def a1i:D3H<dQ:=D0Y
def c6l:c9N X (A1C x (∃k,c8x X.K x H k/\Q k H)):=by
 rw[aA x v c];rw[rC k e q];have n:=a1i;have hs:sizeLine=16777216:=sizeLine_eq;cases x with
 |non =>
  cases c;have e':k=false:=e;rw[C69 truthy_none]
 |bl b =>
  cases c;have e':k=b:=e;rw[C69 wpAny_truthy_bool]
 |int i =>
  rw[jL];have e':k=(DG2):=e;rw[C69 PySem.P.truthy_int]
 |str y =>
  rw[ET4 EBS];exact PySem.P.truthy_str AF DK7
 |byt y =>
  rw[ET4 EBT];exact PySem.W.truthy_bytes (AU 0x2e0f444d1df83ebde1414bf72a9909854c6f90fbfc9d1266 hs g) DK7
 |ref p =>
  cases c;have e':DPD SqL (DPD SqT ELV):=e;rcases e' with⟨xs,d,e'⟩|⟨xs,d,e'⟩|⟨qL,d,e'⟩
  .subst e';rw[A85 f j d];rw[ENG wpAny_truthy_list f.isList]
  .subst e';rw[A86 f j d];rw[ENG truthy_tuple f]
  .subst e';obtain⟨j,l,vs,r,m⟩:BHW (BAW p) (∃vs,eV/\s.heap.DictOf AXG p vs):=AWU d;have a:qL.length=vs.length:=BTH;exact wpAny_truthy_dict l m AF (CU8 b2N)
 |_=>rw[A0L e]
def b7D(d:W1)(e:CDD) :
  nX a (ES3 (c8x X.K x H' k)):=by
 rw[MZ];exact isTrue_plain (thn (UH d) λv s1 (RU x c g f)=>bJ c6l x v Q c g f) (e _)
def b1J:AJO (BDR (∃i j,xO i/\E7B/\E6G/\DFK)):=by
 rw[NH b c];rw[ELJ a];rw[BLB];exact add_str (λt' tk=>kM (xA (i++j))) a
def a3Z{x:V}(r:D7Z):EEE:=by
 cases r with
 |cons r1 r2=>cases r2;exact DK r1
def c8F{x y:V}(r:D80):∃u a,us=[u,a]/\bS/\RelV y a:=by
 cases r with
 |cons r1 r2 =>
  cases r2 with
  |cons r3 r4=>cases r4;rw[EB _ _ rfl r1 r3]
def b6x(b:DV):mZ "min" (ADK (∃i j,xs=CVQ/\DUK)):=by
 rw[kB c];rw[SK i j rfl q];obtain⟨u,d,rfl,⟨t,rfl⟩,⟨t',rfl⟩⟩:=c8F r;refine min_two_ints (I.ok.hd b) λh' tk k=>⟨_,H,I.kept k,?_,q⟩;rw[fD (j<i)]
 .rw[YN,YN];rw[RW rfl]
 .rw[YM,YM];rw[RW rfl]
def b6F:B32 AVJ ERP:=by
 rw[kB a];rcases h with⟨i,rfl,q⟩|⟨k,rfl,q⟩
 .rw[CDS];exact call_int_int ⟨SX,H,I,RH,q⟩
 .rw[BMU r1];cases r1;exact call_int_bool (kM (BQ CTQ))
def a8Z:B32 D2G (∃i,xs=[SX]/\i.natAbs.log2<1920/\Q (tV toString i) H):=by
 rw[kB b];rw[SK i rfl a q];rw[CDS];exact PySem.P.str_of_int a (kM YB)
#where
structure ObjM(h:Heap)(x dx C:qE)(mA:BJ):Prop where
 obj:GQ h.get? C05
 ns:CAJ
 ne:BZR
def b5P(n:CAJ):F04 (kF dx od):=by
 obtain⟨o,es,ep,g,hd,d,_,f⟩:=n;rw[FY o g (MN name)];have e:=f name;unfold nsFind findBy at e;rw[<-Array.find?_toList]at e;rw[GO PySem.W.lookIn hd];dsimp only;split
 .rename_i y q;rw[q]at e;exact congrArg some e
 .rw[BE2 q q];have a:JL es.toList.any ((·.refKey)):=by
   rw[List.any_eq_false];intro y i;obtain⟨z,t,b⟩:=d y (Array.mem_toList_iff.mp i);simp[DictEntry.refKey,b]
  rw[ER c (¬DY es.toList.any ((·.refKey))) a Bool.false_ne_true]
  rw[AD yS (D6X some)]
def ObjM.look{x:qE}(I:BIN h mA):F04 (PySem.W.InstAt h x C05 C (some od)) :=
 let ⟨od,ho,hl⟩:=b5P I.ns
 ⟨od,OI I.obj rfl ho,hl⟩
section
variable {prog:qG}{x f:qE}{name:Str}{v:qB}
def c4Q{a:Bool}(X:A8D)(I:C4H)(d:DOS)(e:BZB)
  (c:AAA OK name) (g:D2 mA name v) (b:D45 v) (h:Q v dW) :
  EE (getAttr ATB name a):=by
 rw[wE od J I.look];exact PySem.W.get_value X J (PySem.W.plainGet_of d).1 (PySem.W.findObj_own e c rfl (KA f g)) b h
def c1K{Q:E0A}(X:A8D)(I:C4H)(a:DOS)
  (b:BLZ name) (d:BWN) (e:EY mA name) (h:Q (mQ,A1Y x) s) :
  E4L getMethod pl:=by
 rw[ECF c];exact PySem.W.method_fn X J (PySem.W.plainGet_of a).1 (PySem.W.plainGet_of a).2 b (beq_iff_eq.mp d) (by show(PySem.W.lookIn name od).map (·.isSome)=some false;rw[c,e];rfl) h
def c2N{ns:AC}{Q:A7D}(X:A8D)(I:C4H)
  (hs:E6Q) (hp:DFJ) (n:E0X name) (m:BZB)
  (hw:CV8 ns) (hsz:D2J)
  (h:∀h',BIN h' (λy=>if y=name then RX else mA y)->DDU dx->Q () (A1I (s.toks+2))) :
  E4L setAttr v:=by
 rw[ECF p];refine PySem.W.set_plain X J hs (gJ (PySem.W.osa_open (s:=dW) (r:=none) X J hp n) b);rw[BX cd l f PySem.W.any_some m];have o:GQ s.heap.get? ⟨OK,CQW,.plain,#[]⟩:=I.obj;rw[OA wpAny_pure (dS wpAny_bind (wpAny_loadPart o (wpAny_bind (PySem.W.Looks.here (s:=dW) (PySem.W.looks_clsIn X l) ?_))))];rw[f];refine wpAny_pure (a:=CQW) (wpAny_bind (CLP wpAny_bind));refine wpAny_nsSet1 (s:=dW) I.ns λh' c d=>?_;obtain⟨q,k,j,i,g,e⟩:=c.count (PySem.Within.cons name v hw);rw[AZ (wpAny_lookBehind i (IU g pastItsLine_dict (Nat.le_trans e (IU List.length_cons a8I hsz))) ?_)];rw[TD (h _ ⟨nK (d.2 _ (Ne.symm I.ne)) I.obj,c,I.ne⟩ d)]
def b8P{R:rV}{vs:AN}(X:A8D)(b:BZC)
  (hi:DNU) (a:PySem.W.typeIn K mQ=BU .type "function")
  (h:codeAny KK (EH8 (DAG OK)) (ATL f (DAG D1W)) (PySem.W.InitBack GM R)
   ERL) :
  BMT (ATL C (aX vs)):=by
 rw[AAR c d t os s];exact PySem.W.make_core (PySem.W.makes_of X b) (PySem.W.looks_findIn X hi) (λself=>PySem.W.bind_fn X self a) NA h
#where
noncomputable def C5(f:Str)(v:V):OY->OY
 |[]=>E19
 |dE g x=>EMD
def a4c(f g:Str)(v:V):C57 (EJN v g=if g=f then RX else fs.lookup g)
 |[]=>by
  show List.lookup g E19=_;rw[BM h g f]
  rw[CD4 f yL]
  .rw[C9R f];rw[BI5 kX]
 |AUG=>by
  have b:=a4c f g v r;rw[CEB]
  .rw[jX YN h g k]
   rw[CD4 k (if_pos (h.trans a))]
   .rw[C9R k];rw[BI5 (DZN (h (e.trans a.symm)))]
  .rw[jX YM h g k]
   rw[CD4 k (DZN (a (h.symm.trans e)))]
   .rw[C9R k];simp only[List.lookup,hb];exact b
def a3K(f:Str)(v:V):C57 (f∈ABY EST/\∀g,g∈ABY fs.map->g∈ABY EST)
 |[]=>⟨D6V,λg h=>sJ⟩
 |AUG=>by
  obtain⟨b,c⟩:=a3K f v r;rw[CEB]
  .rw[YN];subst a;rw[AY AJ (λg h=>yM)]
  .rw[YM];rw[GN ?_ g h]
   .rw[AD List.map_cons A2K]
   .rw[List.map_cons]at h⊢;rcases List.mem_cons.mp h with e|e
    .exact List.mem_cons.mpr (.inl e)
    .exact KN (c g e)
def a4d(f:Str)(v:V):C57 (EUG (fs.length+1))
 |[]=>D6V
 |AUG=>by
  have b:=a4d f v r;rw[CEB]
  .rw[C1I YN];rw[VY 3819009365109]
  .rw[C1I YM];rw[DN 0x20938ef9aeb5c4d6 b]
def RelO.some_of{o:U3}(r:RelO (some v) o):∃u,o=some u/\NV:=by
 cases o with
 |none=>rw[A0L r]
 |some u=>rw[QQ u r]
def RelO.none_of{o:U3}(r:RelO none o):MQ o:=by
 cases o with
 |none=>rfl
 |some u=>rw[A0L r]
def b6b(r:NV):D45 u:=by
 cases v with
 |non=>rw[B71 C2V]
 |bl b=>rw[B71 (B1B b)]
 |int i=>rw[B5D A66]
 |str x=>rw[B5D B3A]
 |byt b=>rw[B5D (Value.bytes b t)]
 |flt b=>rw[B5D (Value.float b t)]
 |ref a=>rw[B71 AO6]
 |ty n=>rw[B71 E1H]
section
variable {fs fs':OY}
def a4P(b:TN)(e:AJ1):∃mA,ObjM h a dx C mA/\(CC7)/\DU6/\D4S/\DNJ:=by
 obtain⟨d,z,ne,c,mA,n,r,q⟩:=CBE iY (b a _ e);rw[GZ mA ⟨c,n,ne⟩ r q z d]
#where
structure Cls(K:qF)(C:qE):Prop where
 pg:BN6 Str.empty
 hd:BZB
 po:DFJ
 sa:E6Q
def Cls.get(c:W0)(f:Str):BN6 f:=c.pg
noncomputable def NoAttr(K:qF)(C:qE)(f:Str):Prop:=DRV
def NoAttr.taker{f:Str}(n:BWP):E0X f:=by
 rw[oH PySem.W.takerIn (show DRV from n)]
structure Meth(K:qF)(C:qE)(m:Str)(f:qE):Prop where
 at_:BLZ m
 fn:BWN
 kp:AWN
section
variable {fs:OY}{f:Str}
def b2P{b:Bool}(I:AL)(e:AJ1)(c:t5)(n:DKM)(l:ECO)
  (h:∀u s',A5R->NV->nO u):oM (getAttr CC f b):=by
 rw[EQW];rw[YJ g d (CYU CJ6 (AFB l r f))];exact c4Q I.kIn O (c.get f) c.hd n g (b6b d) (CW7 u)
def a2z{m:Str}{g:qE}{Q:E0A}(I:AL)(e:AJ1)(c:t5)(k:Meth X.K C m g)(l:C3D)
  (h:Q (AZC,aM) s):oM (getMethod CC m pl):=by
 rw[EQW];have b:EY mA m:=RelO.none_of (by rw[nM l r m]);exact c1K I.kIn O (c.get m) k.at_ k.fn b h
def b1s{y:V}{Q:A7D}(I:AL)(e:AJ1)(c:t5)(n:DKM)(i:DAS)(t:MB)
  (h:C1P (JK (yZ E83) s')):oM (setAttr CC f u):=by
 obtain⟨mA,O,r,k,_,j⟩:=CSD;have p:BZ (VD ((fs.map (·.1)))):=by rw[List.length_map,sizeLine_eq];rw[DN 0xb64b094d961220419a53580e5 i]
 refine c2N I.kIn O c.sa c.po n.taker c.hd k p λh' d v=>B3P;have hd:∃o,BE7 dx:=CAE o e' d.ns (jS e')
 refine B85 a dx AX3 (DP j) (λb q l z=>A2T v.2 b l z) hd ?_;refine⟨IH O.ne j,?_,O.ne,d.obj,_,d.ns,MN g,BK g m⟩
 .rw[PD (a4d f y fs) 0xbde171e867e61948b65b180e6 i]
 .show RelO (EJN y g) (AFE (g=f) u (mA g));rw[jX a4c q g f]
  .rw[CM B0R B0R t]
  .rw[F2 AI4 AI4 r g]
 .rw[BM q g f]
  .rw[q];exact(DUJ).1
  .refine(DUJ).2 g (k g λz=>m ?_);show MQ (MW (g=f) BQT (mA g));rw[AD AI4 z]
def Inv.made(I:AL):A9Z Inv (AF4 (PM H s.heap.objs.size .own GM) GM s.heap.objs.size [])
  ERL:=by
 have e1:A3N (D6C get?) PySem.W.emptyDict:=AR7 Heap.get?_push_size rfl;have e2:AVG CSS BLW GM BLW:=by
  have:=Heap.get?_push_size CSN (o:=BLW) rfl;rwa[Heap.size_push]at this
 have d:D6C Ns s.heap.objs.size B0J:=⟨PySem.W.emptyDict,#[],_,e1,rfl,(λe f=>AIV f),A3C⟩;have c:=EZ7 (.own GM) CSN DEJ BO (eX e1);refine c.laid (a:=GM) (o:=.ins C s.heap.objs.size []) (t':=s.toks) DEJ (DVS Heap.size_push) ?_;have ne:s.heap.objs.size≠GM:=A3V;refine⟨C65 ne,F1,ne,e2,B0J,(Heap.Ns1.of_empty d).at λo q=>mU,DF True.intro,λy g=>B2I g⟩
def c5d{prog:qG}{env:Env}{f:Str}(a:CXA env BZD BZD)
  (h:E7I BZD (fY (getAttr o f true) Q E s₁)):EE (BY1 (.Attribute e f pos)) :=
 Attribute_any_ h (KA arm_eval_Attribute a)
#where
inductive tFldI(K:qF)(f:Str)(Q:VK)(x:V)(H1:Hp):Prop
 |mk (a C dx fs v:_) (_:IW) (_:C3M) (_:W0) (_:BWP) (_:ECO) (_:Q v H1):tFldI K f Q x H1
noncomputable def c8R(K:qF)(ta:TE)(f:Str):TE:=gR (WU ta (tFldI K f Q))
inductive sFldI(K:qF)(f:Str)(D:Ends)(σ:St)(y:V)(x:V)(H2:Hp):Prop
 |mk (a C dx fs:_) (_:IW) (_:PY H2 iY) (_:W0) (_:BWP) (_:DAS) (_:AAK (upd H2 a E83)):sFldI K f D σ y x H2
noncomputable def c8V(K:qF)(ta tv:TE)(f:Str):TS:=A0A tv y (ta σ H1 (sFldI K f D σ y))
section
variable {o value:Expr}{f:Str}{pos' tpos:Pos}{tv:TE}
def c6T(j:DJ e ta)(i:EQ9):nA .Attribute e f (c8R X.K ta f):=by
 rw[MZ];refine c5d i (dC j u o);obtain⟨x,H1,b,m,a,C,dx,fs,v,ex,g,c,n,l,q⟩:=o;rw[ABV m];exact b2P b g c n l λp s2 d k=>RU v d k q
def c6G(i:BW5)(j:DQZ)(hs:DND):B5F PS BNE (c8V X.K ta tv f):=by
 rw[VU];refine plainObj_wpAny_Assign_Attribute (thn (UH j) λu s1 (RU y b r q)=>A6A i b q k t) hs;obtain⟨x,H2,d,p,a,C,dx,fs,ex,g,c,n,l,m⟩:=t;rw[AOF ex (k=Value.ref a) p];exact b1s d g c n l r λv e=>wD _ e m
#where
section
variable {c:qB}{b:Bool}
inductive TyOf(K:qF)(H:Hp):DQL where
 |non:A69 .non "NoneType"
 |bl (x:Bool):A69 (.bl x) "bool"
 |int (i:Int):A69 SX "int"
 |str (x:Str):A69 QR "str"
 |flt (x:UInt64):A69 (.flt x) "float"
 |lst {a:qE}{xs:AA}(e:uC a):DNA
 |frz {a:qE}{o:Obj}{xs:AA}(e:WV (CAN o)):DNA
 |tup {a:qE}{xs:AA}(e:zW):BL5 dU
 |dK {a:qE}{qL:KZ}(e:AK3):E6O
 |dT {a:qE}{qL:YP}(e:A0X):E6O
 |ins {a C dx:qE}{fs:OY}(e:AJ1) (cl:W0) (ha:AQ0 OK "__class__" (A2P "object.__class__"))
   (hn:PySem.W.specialIn K (.builtin "object.__class__") "__get__"=some (A2P "getset_descriptor.__get__")) (htk:PySem.W.takesIn K (.builtin "object.__class__")=some true)
   (hm:PySem.W.mroIn K C (.type "object")=some true):BL5 OK
def b5Y{x:V}{t:qB}(I:AL)(d:bS)(ty:TyOf X.K H x t)(e:PySem.W.kitOne X.K t c=some b)(h:∀tk,A39 b (A1H tk)) :
  BL4 "isinstance" [u,c]:=by
 cases ty with
 |non=>cases(mI C2V d);rw[BHE PySem.W.kitx_none]
 |bl y=>cases(mI (B1B y) d);rw[BHE PySem.W.kitx_bool]
 |int i=>rw[CCN A66 PySem.W.kitx_int]
 |str y=>rw[CCN (Value.str y t) PySem.W.kitx_str]
 |flt y=>rw[CCN (Value.float y t) PySem.W.kitx_float]
 |@lst a xs ea =>
  rw[DI3 n h1 AVK];rw[E4P]
 |@frz a ob xs ea =>
  rw[AGQ];obtain⟨_,_,_,n,_,h1⟩:=(AXE (CAN ob));rw[E4P]
 |@tup a xs ea =>
  rw[AGQ];obtain⟨_,_,_,p⟩:=AXE B0E;obtain⟨o,h1,h2,_⟩:=p.tup;rw[ABX PySem.W.kitx_tuple (BH1 h2)]
 |@dK a qL ea =>
  rw[DI3 vs p B43];obtain⟨o,es,ep,h1,h2,_⟩:=p;rw[EDR]
 |@dT a qL ea =>
  rw[AGQ];obtain⟨_,_,xs,_,o,es,ep,h1,h2,_⟩:=(AXE B44);rw[EDR]
 |@ins a C dx fs ea cl g k f j =>
  rw[AGQ];obtain⟨mA,O,_⟩:=a4P I.hok ea;obtain⟨od,J,_⟩:=O.look;rw[ABX (PySem.W.kitx_own (cl.get _) cl.hd g k f j) J]
#where
structure Room(k:Nat)(A:Around):Prop where
 hd:PH
 dp:A.depth+3*k+5<recursionLimit
 un:gM (A.units+16*k) 200
def Room.mono{j:Nat}(r:B1L)(h:AJK):Room j A:=⟨r.hd,by rw[PD r.dp 0x64415643430504fa7ff1b38302ede09cb659d8 h],by rw[PD r.un 0x14b6e7c2a987b01575a26b10db66f41a4a661675b6aaceddb6e849c29d8 h]⟩
def Room.deeper(r:BEY A)(env:Env):Room k (A.deeper env) :=
 ⟨r.hd,by have:=r.dp;show A.depth+1+3*k+5<_;exact c0P this,by have:=r.un;show A.units+3+16*k+200<_;rw[QN 0xdb249e9b697533b97f4cb9a712c4506337d27]⟩
def b1T:E8H depth A.depth:=by
 first|rfl|simp[Around.under,Code.weight,Code.isCreation,Code.isGuard,Code.isCaller,Code.frames,Code.isFrame,guardIds]
def b1S:E8H units A.units:=by
 first|rfl|simp[Around.under,Code.cUnits,Code.frames,Code.isFrame]
def Room.make(r:BEY A)(C:qE)(us:AN)(kw:qS):Room k (A.under CX3) :=
 ⟨r.hd,by have:=r.dp;rw[BB b1T c0P this],by have:=r.un;rw[AD b1S (lq 0x478e91d4b4b88e647596796a3ae06337d27 this)]⟩
def Room.depth(r:B1L):A.depth<recursionLimit:=AFC r.dp 0x497e2cc6bcadd448b33ef9667
noncomputable def X0:TA:=C0H []
noncomputable def a2H(ta:TE)(tr:TA):TA:=NI ta x (VJ tr xs (Q IO H2))
def c6X:PA X [] X0:=λ_ _ _ _ H Q I h=>EFK Calls.spliced_nil
def c3H(c:sP)(d:B2S)(hs:CI:=by rfl):C1N PA a2H:=by
 rw[BIT pos];rw[hs];show KF _ (spliced (AND (BHS A9E)));refine Calls.spliced_cons (dC c u k);rw[SL x a i f k];exact thn (AY7 d pos a f) λl s2 (VX xs b j g)=>VX IO b (.cons i j) g
noncomputable def c6n(t:TA):TE:=E5G (mC (AG3 p xs))
noncomputable def b4W(t:TA):TE:=E5G (D6A xs)
def c6N{x1}(h:B2S):nA .Tuple es x1 (c6n t):=by
 rw[F4M wpAny_Tuple_spliced (AG3 s1.heap.objs.size xs)];rw[EF z f r E6P]
def c6R(h:B2S):DJ E38 (b4W t):=by
 rw[F4M wpAny_List_spliced (EZ H1 s1.heap.objs.size xs)];rw[EB z f 0 r JV]
noncomputable abbrev Sp:=AA->Hp->EK VK XK
variable {sp:Sp}
noncomputable abbrev CXT:=IL->Hp->qC->XK->qH
variable {CX:CXT}
structure Env0(P:qG)(w:World)(K:qF)(mg:BJ)(base:Heap)(A:Around)(outer:IL)(s:qC)(H:Hp):Prop where
 frames:A.frames=some outer
 mod:Mod K mg base
 bs:iL base.get? DQ0
 bsz:base.objs.size<=s.heap.objs.size
 funs:CQJ base outer
 frf:ZV AEH KW
 hok:u6 H s.heap
 bare:DBP
inductive CE(outer:IL)(P:qG)(w:World)(H:Hp)(s:qC)(Q:VK)(u:qB)(s':qC):Prop
 |mk (v H':_) (_:BYK) (_:x6) (_:EB9) (_:DMZ) (_:NV) (_:A2B):CE7
noncomputable def CR(CX:CXT)(outer:IL)(P:qG)(w:World)(H:Hp)(s:qC)(Q:VK)(E:XK)(r:Result)(s':qC):Prop :=
 match r with
 |APK u=>CE7
 |rK=>False
 |BR8=>C4O e s'
structure FnOk(P:qG)(w:World)(K:qF)(mg:BJ)(base:Heap)(CX:CXT)(k:Nat)(f:qE)(fd:FuncData)(ps:AC)(sp:Sp):Prop where
 len:lR
 run:∀(A:Around) (outer:IL) (s:qC) (H:Hp) (args:Args) (us:AN) (vs:AA) (Q:VK) (E:XK),B1L->C4S->BFV args (ps.zip us)->A7L->dM ->
  codeAny A4Q A (ATL f args) (CR CX outer P w H s Q E) s
def Env0.make{outer:IL}(e:C4S)(C:qE)(us:AN)(kw:qS) :
  CPT (EH8 (aX CM7)):=⟨by first|exact e.frames | (simpa[Around.under,Code.envs,Code.isFrame,pushEnvs]using e.frames),e.mod,e.bs,e.bsz,e.funs,e.frf,e.hok,e.bare⟩
section
variable {s':qC}
def Inv.env0(I:AL):AA5 Env0 X.base X.A X.stack s H :=
 ⟨I.ok.frames,I.ok.mod,I.bs,DS4,I.stack,I.stkFree,I.hok,I.bare⟩
def Inv.after{Q:VK}(I:AL)(h:CE X.stack X.prog X.w H s Q u s'):DHK:=by
 obtain⟨v,H',os,a,un,c,r,q⟩:=h;rw[AAR f d t e s'];obtain rfl:e=s.os:=os;rw[EB v H' (BI I.call h' f g' g (d':=d) (t':=t) (ch:=[]) un c a C02) r q]
#where
noncomputable def b3H(sp:Sp)(dvs:AA)(E:XK)(t:TA):TE:=NI t vs (sp B5N H1 Q E)
inductive tMethI(C:qE)(m:Str)(sp:Sp)(dvs:AA)(E:XK)(t:TA)(σ:St)(Q:VK)(x:V)(H1:Hp):Prop
 |mk (a dx fs:_) (_:IW) (_:C3M) (_:C3D) (_:(VJ t vs (sp (x::(vs++dvs)) H2 Q E))):ES5 E t σ Q x H1
noncomputable def a2G(C:qE)(m:Str)(sp:Sp)(dvs:AA)(E:XK)(ta:TE)(t:TA):TE:=gR (WU ta (ES5 E t σ Q))
noncomputable def b3F(C:qE)(sp:Sp)(dvs:AA)(E:XK)(t:TA):TE:=NI t vs (∀x dx,AFQ x->AFQ dx->BZR ->
 ENS (AF4 (PM H1 dx .own x) x dx []))
noncomputable def Binds(K:qF)(fd:FuncData)(ps:AC)(ds:AN):Prop :=
 ∀(s:qC) (us:AN),A8D->BAQ DS3->BFV BD7 (ps.zip (us++ds))
def Binds.all(h:∀us:AN,CHQ->CIF fd):rA:=λs us _ a=>by
 rw[List.append_nil]at a⊢;exact .of_eq (h us a)
noncomputable def a0G(CX:CXT)(X:Cx)(E:XK):Prop:=∀(qK:DC) (σ:St) (H:Hp) (s:qC) (e:qB) (s':qC),AL->CX X.stack H s E e s'->X.xe e s'
section
variable {f:qE}{dvs:AA}{ds:AN}{E:XK}{m:Str}{p qO:Pos}{o:Expr}
def b1E{Q:VK}(F:A15)(g:QU)(c:A18)(hd:A0T)(i:A10)
  (I:AL) (r:A7L) (h:sp B5N H Q E):bT (IR call f us):=by
 have b:ML B5N (us++ds):=r.append hd;rw[BIJ d DS3 b.length h]
 rw[AS4 (AT3 (F.run X.A X.stack s H BD7 (us++ds) B5N Q E g I.env0 (c s us I.kIn d) b h) a)];cases r with
 |error e=>exact i qK σ H s e s' I a
 |ok fl =>
  cases fl with
  |ret u=>exact I.after a
  |next=>rw[HU a]
  |brk=>rw[HU a]
  |cont=>rw[HU a]
def b3Y(F:A15)(n:QU)(j:JC)(m:A65 x f)(l:uE PySem.W.keepIn X.K mQ)(g:A18)(hd:A0T)(o:A10)
  (d:YV) (a:FK:=by decide) (i:CI:=by rfl) (b:HV:=by rfl) :
  AXI (EHY dvs):=by
 rw[MZ];rw[AN2 j m a l (BOM u r q D71) i b];exact b1E F n g hd o c r q
def b3X(w:BW5)(c:t5)(j:EP3)(F:A15)(y:QU)(v:A18)(hd:A0T)(A:A10)(p:YV)
  (d:CI:=by rfl) (b:HV:=by rfl)
  (z:QY B1R=(do
   let ov <-eval o X.env
   standAt qO.atName
   let (f,first) <-holding [ov] (getMethod ov m pl)
   callWith pos f first (backTo pos (starEach (e::es) X.env)) (backToKw pos (keywordEach [] X.env))):=by rfl) :
  DJ (A9X AQ5) (EXF t):=by
 rw[EUA w J z g D n J];rw[CCT D g n j];rw[EZ6 j.kp (thn (AY7 p pos g q) λG s2 (VX vs i r B)=>HR i.kIn) d b];exact BI b1E us (CC::G) vs CSF F y v hd A i DN3 B
def b7W(i:BW5)(c:t5)(d:EP3)(F:A15)(j:QU)(g:A18)(hd:A0T)(p:A10)
  (n:QY B56=(do
   let ov <-eval o X.env
   standAt qO.atName
   let (f,first) <-holding [ov] (getMethod ov m pl)
   callWith pos f first (backTo pos (starEach [] X.env)) (backToKw pos (keywordEach [] X.env))):=by rfl) :
  DJ B56 (EXF X0):=by
 rw[EUA i t n b r e t];rw[CCT r b e d];exact PySem.W.callWith_K0 (first:=aM) b.kIn d.kp (BI b1E us aM vs aM F j g hd p b DN4 q)
structure Mk(K:qF)(C f:qE):Prop where
 makes:BZC
 init:DNU
 fn:BWN
 kp:DJN
def a9Q{Q:VK}(M:C2O)(F:A15)(m:ALW)(j:A18)(hd:A0T)
  (n:A10) (I:AL) (r:A7L)
  (h:∀x dx,EC x->EC dx->BZR->ENS CA1) :
  bT (IR call C us):=by
 rw[AE c (h GM s.heap.objs.size E01 aY A3V) b (Inv.made (C:=C) I)];have d:ML (CWJ DDW) EL2:=.cons rfl (r.append hd);have l:uT BXH ds=ps.length:=by
  have e:=d.length;rw[CHK c]at e;exact e.symm
 rw[AS4 (b8P (f:=f) I.kIn M.makes M.init (BP9 M.fn) (AT3 (F.run _ X.stack _ _ (JY BXH) EL2 _ _ E (m.make C us [])
  (b.env0.make C us []) (j _ BXH b.kIn l) d c) a))]
 cases r with
 |error e=>exact n qK σ _ _ e s' b a
 |ok fl =>
  cases fl with
  |ret u =>
   obtain⟨v,H',g,p,i,o⟩:=b.after a;subst i;rw[AY p (GJ DDW H' g o)]
  |next=>rw[HU a]
  |brk=>rw[HU a]
  |cont=>rw[HU a]
def c3B(M:C2O)(F:A15)(m:ALW)(j:JC)(l:DSX)(g:A18)(hd:A0T)(n:A10)
  (d:YV) (a:FK:=by decide) (i:CI:=by rfl) (b:HV:=by rfl) :
  AXI (EUX t):=by
 rw[MZ];rw[AN2 j l a M.kp (BOM o r q D71) i b];exact a9Q M F m g hd n c r q
def b7X(M:C2O)(F:A15)(e:ALW)(c:JC)(d:DSX)(b:A18)(hd:A0T)(g:A10)
  (a:FK:=by decide):DJ DHI (EUX X0):=by
 rw[MZ];rw[CIJ c d a];exact PySem.W.callWith_K0 I.kIn M.kp (a9Q (us:=[]) M F e b hd g I .nil h)
#where
section
variable {f:qE}{ks:AC}{E:XK}{m:Str}{p qO kpos:Pos}{o:Expr}{kws:A9T}{tk:TA}{nm:D2F}
variable {g:EGU}{gV:E9O}
#where
structure FnScope(N P:AC)(sc:Scope):Prop where
 kind:D0W sc.kind:=by rfl
 co:PR sc.isCoroutine:=by rfl
 gen:PR sc.isGenerator:=by rfl
 nd:N.Nodup:=by rw[ZC]
 pre:N.take P.length=P:=by rfl
 par:FW P DU5:=by rw[ZC]
 nofree:RB sc.names (y.2≠.free):=by rw[ZC]
def a7H{kindOf:B0O}{x:Str}:EW2 bindL
 |[],_,_=>rfl
 |DJV,m,h=>by
  rw[EI7 bindL a7H]
  .rw[EOZ]
   simp[this]
  .rfl
def a7J{kindOf:B0O}{x:Str}:EW2 bindC
 |[],_,_=>rfl
 |DJV,m,h=>by
  rw[EI7 bindC a7J]
  .rfl
  .rw[EOZ]
   simp[this]
def a7I{kindOf:B0O}{x:Str}{v:qB}:F3Y (APE kindOf ->
  EXZ bindL)
 |[],_,_,_,_,h,_,_=>sJ
 |HI,[],_,_,_,_,h,_=>sJ
 |B4H,B2L,0,m,nd,h1,h2,a=>by
  rw[F1X bindL bindL a7H YN]
 |B4H,B2L,AO,m,nd,h1,h2,a=>by
  rw[EYW bindL bindL a7I]
def a7K{kindOf:B0O}{x:Str}{v:qB}:F3Y (kindOf x≠AQ .local ->
  EXZ bindC)
 |[],_,_,_,_,h,_,_=>sJ
 |HI,[],_,_,_,_,h,_=>sJ
 |B4H,B2L,0,m,nd,h1,h2,a=>by
  rw[F1X bindC bindC a7J YM]
 |B4H,B2L,AO,m,nd,h1,h2,a=>by
  rw[EYW bindC bindC a7K]
noncomputable def start(N:AC)(vs:AA):St:=vs.map some++List.replicate (N.length-vs.length) none
noncomputable def G1(CX:CXT)(P:qG)(w:World)(K:qF)(mg:BJ)(base:Heap)(N:AC)(qual:Str)(scope:Scope)(f:qE)(cd:qB)(A:Around)(outer:IL)(s:qC)(H:Hp)(E:XK):Cx where
 prog:=P
 w:=w
 K:=K
 mg:=mg
 base:=base
 A:=EGS
 N:=N
 s₀:=s
 H₀:=H
 env:=BVN
 outer:=outer
 stack:=BVN::outer
 ex:=[]
 calm:=true
 fn:=DF true
 pn:=[]
 xe:=λe s'=>FN A4Q EGS (leaving BVN e) (EH s'' (C4O e s'')) (λe' s''=>C4O e' s'') s'
def b0U{a:Scope}(h:AE9 a.names.lookup):∃c,ASC n a.names []:=by
 have q:=PySem.W.cellsFrom_some a.names n [] (.inl h);exact Option.isSome_iff_exists.mp q
def b5Z{N:AC}{qual:Str}{scope:Scope}{f:qE}{cd:qB}{outer:IL}{s1:qC}{E:XK}
  (S:EJ3) (hd:PH) (d:C4S) (B:CFS) (r:A7L)
  (x:InCallC s s.heap.objs.size (F3K bindL) (BN4 GM []) (F3K bindC) s1) :
  ELD DCO:=by
 have o:ps.length<=N.length:=by rw[AWY S.pre];rw[WD List.length_take];rw[QN 0xd3c6d869c5cf4d6]
 obtain⟨h1,tk,rfl,t⟩:=x.done;have j:∀b:qE,b∉(DCO).ex:=λb z=>AIV (C5B z);refine⟨⟨d.mod,S.kind,rfl,rfl,BO,DW y z c h1 h2,CTT,BT y c _ h,DF hd,Around.frames_deeper d.frames,DP ATI,EU0,d.bs,d.bsz,λb _ _=>j b,EU0,d.funs,d.frf⟩,
  rfl,d.bare,Un.kept t,(FP x.toInCall.ns (DT i y v h1 h2 G)),λy c h=>eX (x.cell y c h),D77,DS y c h,λp l=>AIV (show p∈([]:DC)from l),d.hok.kept t,?_⟩
 .exact name_of_addr x.apart (PySem.mem_of_lookup h1) (PySem.mem_of_lookup h2)
 .have g:D2 scope.names.lookup y .cell∨D2 scope.names.lookup y .free:=g;rcases g with g|g
  .exact b0U g
  rw[FJ rfl (S.nofree _ (PySem.mem_of_lookup g))]
 .exact Nat.le_of_lt EV0
 .have hi:i<vs.length:=by
   unfold start at h2;rw[BYD]
   .exact hi
   .rw[AZI (by simpa using hi)]at h2;rw[List.getElem?_replicate]at h2;split at h2<;>cases h2
  have D:A4B:=by
   unfold start at h2;rw[D23 (by simpa using hi),List.getElem?_map]at h2;cases e:vs[i]? with
   |none=>rw[aS h2 h2]
   |some a=>rw[aS h2 h2];rfl
  rw[BX u C F r.get D];have l:CB ps y:=by
   rw[<-S.pre,List.getElem?_take_of_lt (XD a8C B)];exact h1
  have m:ps.Nodup:=by rw[nM S.pre S.nd.sublist (BS List.take_sublist)]
  rw[LT u F];rcases XJ S.par y l with k|k
  rw[HF ⟨k,a7I m l C k⟩]
  .rw[OU c (b0U (n:=GM) k)];rw[AC1 ⟨BS1,c,e,?_⟩];rw[GL q (x.cell y c e) (a7K m l C (by show scope.names.lookup y≠_;rw[ZE k])) q];exact q
 .exact d.hok.fresh (Nat.le_of_lt EV0)
 .unfold start;show _=N.length;rw[AVC List.length_append List.length_replicate];rw[DL 0x350de526138b42d14bddebdf838457 B o]
def c1O{f:qE}{name qual:Str}{c:Arguments}{scope:Scope}{D kV h pm a ct oc:qB}{an od:IM}
  {p:YX}{N:AC}(lk:B96 F3R p) (l:C6Z a) (S:EJ3)
  (len:lR)
  (d:∀(A:Around) (outer:IL) (s:qC) (H:Hp) (vs:AA) (Q:VK) (E:XK),CGK CYV (dM ->
   BDY PSs C82 body)) :
  AC4 base CX CF f F3R ps sp:=by
 rw[FT len (λA outer s H C T vs Q E m i F r j=>?_)];have L:=ZI len j;have B:A8D:=DT7 i.mod.kin.keeps;have lim:s.heap.NoLimit:=DT7 i.mod.nolimit.keeps;have g:RB (ps.zip T) (DY5 .local∨(DY5 .cell/\AW (BCO GM scope.names [] bN).isSome)):=λ⟨n,v⟩ R=>by
  rw[XW (S.par n (List.of_mem_zip R).1)]
  rw[HF q]
  rw[HG (A6R (GX PySem.W.cellsFrom_some (EL q)))]
 refine codeAny_call_function m.depth (AH B lk) rfl S.co S.gen rfl (PySem.W.codeRec_of B l) (ZI F ?_);rw[EX (wpAny_newFunctionEnv_cells S.kind g) env G s1 x];subst G;refine GH (lim.keeps x.toInCall.keep) codeAny_func ?_;obtain⟨t,O,M⟩:=d A outer s H vs Q E (m.deeper _) j;have I:ELD C82:=b5Z S m.hd i L r x;refine gX (O [] s1 BBX H _ I M) (DS fl s' hs) e s' hs hs;have fin:∀{σ':St}{H':Hp}{v:V}{u:qB},EJF C82 []->NV->A2B->CE7 :=
  λ{σ' H' v u} J z q=>⟨v,H',J.os,J.bare,J.base,J.hok,z,q⟩
 cases fl with
 |ret u =>
  obtain⟨v,σ',H',J,z,q⟩:=hs;exact fin J z q
 |next =>
  obtain⟨σ',H',J,q⟩:=hs;exact fin (v:=V.non) (u:=Value.none) J rfl q
 |brk =>
  rw[EQR]
 |cont =>
  rw[EQR]
section
variable {p:Pos}{id T:String}{r:AKX}
noncomputable def tCB(r:AKX)(t:TA):TE:=NI t vs (r vs H1 Q)
def F5(f:mZ id r)(i:JC)(j:AIT)(l:lH x id)(d:YV)(k:A6B:=by decide)(a:FK:=by decide)
  (g:CI:=by rfl) (b:HV:=by rfl):E9C:=by
 rw[F3O PyProof.Rows.callWith_builtin1]
def L8(f:eJ A5Q r)(i:JC)(j:AIT)(l:qY x T)(d:YV)(k:A6B:=by decide)(a:FK:=by decide)
  (g:CI:=by rfl) (b:HV:=by rfl):E9C:=by
 rw[F3O PyProof.Rows.callWith_type1]
#where
universe L2
namespace HT
open PySem PyProof.Rows
variable {Q:qH}
noncomputable def lexLt:E5T
 |[],[]=>false
 |[],HI=>true
 |HI,[]=>false
 |IO,NU=>DOP
def lexLt_cons(x y:Int)(xs ys:qI):lexLt IO NU=DOP:=rfl
def a6S:E11 []:=rfl
def a5S(y:Int)(ys:qI):uE lexLt [] NU:=rfl
def a5T(x:Int)(xs:qI):E11 IO:=rfl
def eqAt_int(A:Around)(s:qC)(a:Int)(t:Tok)(c:Int)(u:Tok):∃e,SeqAt.EqAt A s ALR BX7 e/\(AW e↔a=c) :=
 ⟨(a==c),SeqAt.EqAt.int_int a t c u,AJ⟩
def rcLt_int(A:Around)(s:qC)(a:Int)(t:Tok)(c:Int)(u:Tok)(prog:qG)(w:World)(E:qH)(Q:qH)(h:Q (ANN .bool (a<c)) s) :
  EE (richCompare .Lt ALR BX7) :=
 (PyProof.Rows.lt_int h:DSB ALR BX7)
section
open PySem.SeqAt
open PySem.AutoSeq1 (wpAny_loadPart')
open PySem.MeetsSeq PySem.MeetsSeq2 PySem.MeetsSeq3
def a6C(l b:qE)(items f:CY)(n L:Nat)(dd D:IM)(sl F:YX)(ns ms:qI)(hi:DEL)(G:BWF f.toList) :
  EEP
   (λ_ R s=>AGT/\AZR (v2 dU D (.seq f L) F) /\
    A82 (lexLt ns ms) s) :=
 (tG (by
  rw[cJ C];rw[rC K I h];have f2:=AutoSeq1.sub_tuple_tuple;have M:items.size=ns.length:=by rw[<-hi.length];simp
  have N:f.size=ms.length:=by rw[<-G.length];simp
  rw[EGB (wpAny_loadPart' K) (wpAny_loadPart' I) (dX=none/\s'=B34/\∃(vs ws:AN) (k j:qI),rest=vs.zip ws /\
   IntsAre vs k/\IntsAre ws j/\k.length+f.size=j.length+items.size/\A82 DZT B34)]
  case turn =>
   rintro⟨y,x⟩ rest b s' ⟨r,rfl,vs,ws,k,j,o,v,m,i,hR⟩;cases v with
   |nil=>rw[AX List.zip_nil_left o o]
   |cons a t z =>
    cases m with
    |nil=>rw[AX List.zip_nil_right o o]
    |cons c u B =>
     rw[List.zip_cons_cons]at o;rw[C54 o]
     rw[CAC]
     subst hy hx;rw[lexLt_cons]at hR;simp only[List.length_cons]at i;rw[A4K J p (eqAt_int A.in1 B34 a t c u)];rw[CAV J];cases e with
     |true =>
      rw[AZ9 p.mp rfl]at hR
      wp_walk
      exact⟨rfl,rfl,_,_,_,_,hrest,z,B,BH 0xa4b974d602c1b300f00b9c27b38 i,hR⟩
     |false =>
      rw[EKL p.mpr];have E:=rcLt_int A.in1 B34 a t c u prog w
      wp_walk using E
      rw[BUH]
  case fin =>
   rintro⟨O,P⟩ s' ⟨r,rfl,vs,ws,k,j,o,v,m,i,hR⟩;simp only at r;subst r;have H:eY DZT (items.size<f.size):=by
    cases v with
    |nil =>
     cases m with
     |nil =>
      rw[D1D i];rw[a6S];exact aD decide_eq_false (BH 0x5bc710b9018ffd0f1c5e i)
     |cons c u hw =>
      rw[EQX a5S decide_eq_true 0x9a71248677a6c8dd905f]
    |cons a t H =>
     cases m with
     |nil =>
      rw[EQX a5T decide_eq_false 0xd94ff433e6e4df61d6b37]
     |cons c u hw =>
      rw[AX List.zip_cons_cons o o]
   rw[H]at hR
   wp_walk
   rw[EIF]
  case h =>
   exact⟨rfl,rfl,items.toList,f.toList,ns,ms,rfl,hi,G,AU 0x9e6dd2a2a10e63ecaec5a36158 M N,h⟩))
#where
section
variable {prog:qG}{w:World}{A:Around}{E:qH}{s:qC}
def lt_tupInts{l b:qE}{items a:CY}{ns ms:qI}(q:IsTup s.heap l items)(o:IsTup s.heap b a)(hi:DEL)(p:BWF a.toList)
  (r:C4V) (h:DT6):DSB HQ F0:=by
 rw[F2F m k];rw[AS2 j g f i e c t d o];rw[B6D k c d k c d];exact F2K m qT (a6C l b items a n t dd g sl i ns ms hi p)
  ⟨m,e,EGC (Value.bool (lexLt ns ms)) DT6⟩ r
def cat_tup{t b:qE}{vs ws:AN}(q:E2N vs.toArray)(p:IsTup s.heap b ws.toArray)(m:IE vs)
  (h1:ws=[]->NZ t s) (h2:B17->vW (BMN E6N))
  (j:BZ (vs.length+ws.length)):EE (binaryOp .Add II F0):=by
 rw[F2F h l];obtain⟨⟨k,c,i,g⟩,a,d,o,f⟩:=id p;rw[B6D l d f l d f];rw[pZ e (vs.toArray++ws.toArray) E6N]
 rw[BM hw ws []]
 .exact EFH
   (EZQ tuple_addW1 sl g D40 (IF hw)) ⟨h,a,h1 hw⟩
 .refine EFH
   (EZQ tuple_addW2 sl g D40 CJ0 (DMN j)) (y6 h a)
  rw[BB e h2 hw]
noncomputable def sIx(n d:Nat):FF->Nat
 |none=>d
 |RX=>if v<0 then(vL v FE) else CUI
def sIx_none(n d:Nat):A3Q d none=d:=rfl
def sIx_nat(n d k:Nat):EJY kH=AX9:=by
 show AC0 (kH<0) (vL kH FE) (min (kH).toNat n)=AX9;rw[CR9,Int.toNat_natCast]
def c6w(n d:Nat)(hd:d<=n)(o:FF):A3Q d o<=n:=by
 cases o with
 |none=>exact hd
 |some v =>
  show EUO<=n;rw[fD (v<0)]
  .rw[PZ YN]
  .rw[AD YM BR6]
def clip_eq(v:Int)(n d:Nat):EIA=EA (EJY v):=by
 show EIA=EA (EUO);rw[fD (v<0)]
 .rw[YN,YN];exact B1W Int.ofNat_toNat
 .rw[YM,YM];rw[MK k (Int.eq_ofNat_of_zero_le (Int.not_lt.mp a))];show min kH FE=EA AX9;rw[YI (k<=n)]
  .rw[Nat.min_eq_left c,Int.min_eq_left (Int.ofNat_le.mpr c)]
  .rw[Nat.min_eq_right (Nat.le_of_not_le c),Int.min_eq_right (Int.ofNat_le.mpr (Nat.le_of_not_le c))]
def b3j(lo hi:FF)(n:Nat):EJH=(B7W,E7J):=by
 rw[AHE h1 (¬(RV<0))]
 unfold Builtin.Slice.sliceAdjust;simp only[h1,if_false];rw[JZ Prod.ext ?_]
 .cases lo with
  |none=>rfl
  |some v=>exact clip_eq v n 0
 .cases hi with
  |none=>rfl
  |some v=>exact clip_eq v n n
def b1H(i j:Nat):Builtin.Slice.slicePlaces RO rJ 1=ASF:=by
 unfold Builtin.Slice.slicePlaces;rw[AHE h1 CRU]
 simp only[h1,if_true,Int.ediv_one];split<;>omega
def a5b{v:qB}{o:FF}{Q:MM FF}(p:IsPart v o)(h:Q o s):EE (Builtin.Slice.slicePartIndex v):=by
 cases p with
 |none=>exact slicePart_none h
 |int i t=>exact slicePart_int h
def a3n{sl:qE}{c d:qB}{lo hi:FF}{n:Nat}{Q:MM (Int×Int×Nat)}(hs:s.heap.IsSliceOf sl c d .none)(pl:IsPart c lo)(f:IsPart d hi)
  (h:Q (B7W,1,A3Q n hi-A3Q 0 lo) s):EE (IR Builtin.Slice.sliceApplied sl (eH FE)):=by
 rw[DR os b e a id hs];rw[A6S Builtin.Slice.sliceApplied Builtin.Slice.sliceFields (dS (AMY a c) (dS (AMY a d) (uU (AMY a .none))))];rw[OE slicePart_none];show KF _ (jP (AEE RV) _);rw[A7O];rw[AZ (a5b pl (wpAny_bind (a5b f (uU wpAny_bind))))];show KF _ (match EJH with | (lo,hi)=>eH (lo,RV,Builtin.Slice.slicePlaces lo hi 1));rw[b3j lo hi n];show KF _ (eH (B7W,RV,Builtin.Slice.slicePlaces B7W E7J 1));rw[pL b1H h]
def b7S(xs:CY)(i k:Nat):BQA ((List.range k).filterMap λ(PN m)=>DF3)=ACA xs.toList.drop i k toArray:=by
 have e:(λ(PN m)=>DF3)=DKT:=by
  funext m;have:CYX=i+m:=AF
  rw[this]
 rw[e];rw[MR (pick_run xs i k) List.filterMap_map];have e2:((λx=>xs[x]?) ∘ λx=>i+x)=DKT:=rfl;rw[WD e2];rw[this]
def getItem_tuple_cut{t sl:qE}{items:CY}{j k:qB}{lo hi:FF}(b:E2N items)(hs:s.heap.IsSliceOf sl j k .none)(pl:IsPart j lo)(n:IsPart k hi)
  (hw:¬(A2R=0/\BOL=items.size))
  (h:vW (BMN DVK))
  (g:BZ items.size):EE (IR getItem t D1U):=by
 have a:sizeOk (.seq DVK):=by
  show BZ (D06 toArray.size);rw[List.size_toArray,List.length_take,List.length_drop,Array.length_toList];rw[DN 0xf67a5586ad54be2fa9373fd357298a78851a5e3bdacb3975d8 g]
 have p:BOL<=items.size:=AK c6w BO hi;rw[DR os f d l id hs];have c:vK sl "slice":=⟨os,f,d⟩;unfold getItem
 rw[D1H]
 first|rw[rW]|skip
 rw[u7 wpAny_sequenceKey b.typeIs AI];rw[AZ (AT1 (KO "__getitem__") b.typeIs PyProof.Rows.slot_tuple_getitem
  (wpAny_call_entry PyProof.Rows.slot_tuple_getitem b.typeIs entry_tuple_getitem ?_ (BS args_tuple_getitem)))]
 show KF _ (PU Builtin.Tuple.tupleItemsOf t>>=_);rw[vB (tupleItemsOf_ b ?_) (wpAny_typeOf c ?_)];rw[A58];rw[AZ (a3n hs pl n ?_)];have e:¬(EZE):=by
  intro q;rw[Bool.and_eq_true,Bool.and_eq_true]at q;have i:CRL=0:=BPB ED.1;have o:sIx items.size items.size hi-A2R=items.size:=BPB DB;exact hw ⟨BH 0x346f1040d2e312d8455 i,AU 0x7299abaece81d0dc9c1b5808f0402497e1457 i o⟩
 show KF _ (jP EZE _);rw[IX,b7S]
 first
  |rw[DYA EEQ]
  |rw[DYA (CVC wpAny_bind DK3)]
  |rw[A6Y (AUS BD2 (wpAny_newObj_type DK3 a))]
  |rw[A6Y (AUS BD2 EEQ)]
#where
universe HT
namespace L2
open PySem PySem.Spec PyProof.Rows
variable {H:Hp}{X:Cx}{n:Nat}{qK:DC}{s:qC}{us:AN}{x:V}{xs:AA}{α:Type}{σ:St}
noncomputable abbrev TO:=B4X BS4
noncomputable def PO(X:Cx)(e:rL)(t:TO):Prop :=
 B5E BS4 (ASY ->
  ZY (cK evalPart e) (λu s'=>∃o H',sL/\IsPart u o/\UE o))
noncomputable def M3:TO:=C0H none
inductive tPartI(Q:BS4)(x:V)(H1:Hp):Prop
 |mk (i:_) (_:AL8) (_:oX i H1):C6U tPartI
noncomputable def b3E(t:TE):TO:=B6S t tPartI
def a2y{ns:qI}:∀{us:AN},DSO us->IntsAre us ns:=by
 induction ns with
 |nil=>intro us r;rw[C5R r r]
 |cons n ns a =>
  intro us r;rw[AYX r];cases r with
  |cons r1 r2 =>
   rw[OU t r1];rw[CK];exact .cons n t (a r2)
section
variable {e:Expr}{te:TE}{lo hi:rL}{tl th:TO}{pos p2:Pos}
def c3n:PO X none M3:=by
 rw[MZ];rw[pL evalPart_none (BFN none .none)]
def c3m(h:sP):PO X D2A DGT:=by
 rw[lY Q hw];rw[evalPart_some];refine FC E0Q u s1 d;rw[SL x a c b d];rw[GV i q b];rw[jL];rw[EB (AQ i) H1 a ABT q]
noncomputable def SlR(X:Cx)(r:CC2):Prop :=
 ∀(qK:DC) (s:qC) (σ:St) (H:Hp) (x:V) (v vl vu:qB) (lo hi:FF) (sl:qE) (Q:VK),AL->bG->s.heap.IsSliceOf sl vl vu .none->IsPart vl lo->IsPart vu hi->r x lo hi H Q ->
  ∃T id,EF3/\DZU/\bT (getItem v D1U)
noncomputable def tSl(r:CC2)(te:TE)(tl th:TO):TE:=NI te x (VJ tl l (BN8 th u (r x l u H3 Q)))
def a9X{r:CC2}(t:SlR X r)(n:sP)(p:E7C)(y:E7D):BVX e BLG (CYN r):=by
 rw[ATR Subscript_ (eN n d)];rw[SL x g E B d];rw[DY6 (thn (AAQ p g B) λc s2 (VX l i z C)=>FC (AXJ y i C) vu a d) u f j A D d];have k:JK f C1A:=EMB j.kept F;obtain⟨T,id,m,w,o⟩:=LG t C1A f x v c vu l u a.heap.objs.size Q k E D8O z A D;show FN UA X.A (subscriptTail e BLG v AZD) BKL X.xe C1A;exact tail_any (ops:=[AZD,v]) w m o CG
noncomputable def a0e(xs:AA)(lo hi:FF):AA:=CZ6 xs.drop
def a4i(xs:AA)(lo hi:FF):vU a0e xs lo hi<=xs.length:=by
 unfold a0e;rw[F2 List.length_take List.length_drop lq 0x889ddb398b0a9203f8af42d478e50ebcd191fce7b57]
inductive rSlT(K:qF)(x:V)(lo:FF)(hi:FF)(H:Hp)(Q:VK):Prop
 |mk (a xs:_) (_:IW) (_:cE) (_:¬(BEP=0/\HT.sIx xs.length xs.length hi=xs.length)) (_:AAL (AEO AUN)):ELS rSlT
def b7i:AKN SlR rSlT:=by
 rw[F5X];obtain⟨a,xs,rfl,f,hw,q⟩:=h;cases j;rw[A86 d e f];rw[E4K c xs.length r.length.symm]
 refine bD "tuple" PyProof.Rows.slot_tuple_getitem.lookup d.typeIs ?_;refine HT.getItem_tuple_cut d hs g i (AG c hw) ?_ (wJ c);rw[c];refine C4G AUN k AIX;rw[EF E16 _ DVC AFS]
inductive rCatT(K:qF)(x:V)(y:V)(H:Hp)(Q:VK):Prop
 |mk (a b xs ys:_) (_:IW) (_:A84) (_:cE) (_:DHU) (_:BTL) (_:DNP) (_:(ys=[]->NZ a H)) (_:(IE ys->AAL (AEO AXM))):B4V rCatT
def Vals.nil_iff(r:aZ):us=[]↔xs=[]:=by
 cases r with
 |nil=>simp
 |cons _ _=>simp
def c3M:AJO (rCatT X.K):=by
 rw[NH m n];obtain⟨a,b,xs,ys,rfl,rfl,g,i,j,e,k,l⟩:=h;rw[pI m n];rw[AD3 its d D60 f c D4M];refine HT.cat_tup p1 p2 (AVM j d.nil_iff.mp) (λz=>uV CC (k (c.nil_iff.mp z))) AZX (by rw[<-d.length,<-c.length];exact e);refine C4G AXM p (l (λw=>z (c.nil_iff.mpr w)) _ aY);rw[EF (wJ List.length_append) _ (d.append c) AFS]
#where
noncomputable def ixN(n:Nat)(i:Int):qJ:=if B08 then(MW LR (AQ i.toNat) none)else AFE C3L E1G none
noncomputable def atI{α:Type}(xs:CL)(i:Int):qD α:=(ixN xs.length i).bind λj=>xs[j]?
def b4r{i:Int}{j:Nat}(h:ixN n i=some j):CVB n j/\j<n /\ C3L/\LR:=by
 rw[v6 ixN];rw[fD B08]
 .rw[YN]at h;by_cases h1:LR
  .rw[ES4 i.toNat];rw[EF (KA (CL6 h1) e) AF (bY 0x1e537b77ce345f5237) h1]
  .rw[AX AI5 h h]
 .rw[YM]at h;by_cases h1 : C3L
  .rw[ES4 E1G];rw[EF (KA (DXQ h1) e) AF h1 (bY 0x1e537c1eeedf416237)]
  .rw[AX AI5 h h]
def a4S{xs:CL}{i:Int}{v:α}(h:C7B):∃j,DU9 j/\DMF/\kY /\ -AFP<=i/\AHX:=by
 rw[v6 atI];cases e:ixN xs.length i with
 |none=>rw[AMK]
 |some j =>
  rw[e]at h;obtain⟨h1,h2,a,b⟩:=b4r e;rw[GZ j h1 h h2 a b]
def N9{xs:CL}{j:Nat}{v:α}(h:DMF):DT5 rJ:=by
 have a:kY:=DLQ;have e:UY ixN xs.length rJ j:=by
  unfold ixN;rw[CRG,CO (OJ b9r)];simp
 unfold atI;rw[AD e h]
def a1u(xs:CL)(v:α):UY atI BKR (-1) v:=by
 rw[pZ a D5M AZA]
 have e:UY ixN D5M (-1) xs.length:=by
  rw[eW ixN a YF (CO (KP 0x3bffc5e69fbc35))];congr 1;omega
 rw[GO atI e];show yC BKR xs.length v;simp
noncomputable def a1O(b:Expr):Prop:=∀o i,subscripted b false o i=C5V [o,i] o i
noncomputable def IxR(X:Cx)(r:R2):Prop :=
 ∀(value slice:Expr) (qK:DC) (s:qC) (σ:St) (H:Hp) (x y:V) (v u:qB) (Q:VK),BHN MB (YW r ->
  subscripted slice false v u=C5V [v,u] v u->bT (subscriptTail value slice v u))
noncomputable def MtR(X:Cx)(id:String)(r:A09):Prop :=
 F5Z (E64 ->
  EJP)
section
variable {a b:Expr}{ta tb:TE}{pos:Pos}
def b7Y{r:R2}(f:IxR X r)(d:W1)(e:sV)(hs:B00):BVX a b BTK:=by
 rw[B1M Subscript_ (CEF g i (f a b qK s2 σ H2 x y v u Q c g i q (BS hs)))]
inductive rIxL(K:qF)(x:V)(y:V)(H:Hp)(Q:VK):Prop
 |mk (p xs i v:_) (_:D7Y) (_:BYA) (_:ALB) (_:C7B) (_:AIY):B4V rIxL
inductive rIxT(K:qF)(x:V)(y:V)(H:Hp)(Q:VK):Prop
 |mk (p xs i v:_) (_:D7Y) (_:BYA) (_:BZG) (_:C7B) (_:AIY):B4V rIxT
inductive rIxS(x:V)(y:V)(H:Hp)(Q:VK):Prop
 |mk (z i c:_) (_:xO z) (_:BYA) (_:BR0) (_:atI z.cps.toList i=some c) (_:A4X GY):YW rIxS
def c4L:AKN IxR rIxL:=by
 rw[CEM d n o];obtain⟨p,xs,i,z,rfl,rfl,m,l,q⟩:=h;rw[A6P n o];rw[A85 b C m];rw[C4P A f k (a4S l) e c];rw[CDJ g B c];rw[fD B08]
 .have hj:i.toNat=j:=by
   rw[C6R k]
  exact item_listR b.isList a AF DWO fin hs
 .have hj:BXQ i=j:=by
   rw[C6Q (DXQ f) g]
  exact EHQ b.isList.typeIs slot_list_getitem.lookup
   (wpAny_getItem_list_neg (Q:=CPD) b.isList A64 (C50 (b9Z f g)) AF DWO D5P) hs
def c1B:AKN IxR rIxT:=by
 rw[CEM b k l];obtain⟨p,xs,i,z,rfl,rfl,g,e,q⟩:=h;cases k;rw[HN l];rw[A86 c B g];rw[C4P m n o (a4S e) d a];rw[CDJ f A a];exact EHQ c.typeIs slot_tuple_getitem.lookup
  (BI getItem_tuple j j Q CPD c AF AF (AYS f h1) B03 D5P) hs
def c7V:IxR X rIxS:=by
 rw[CEM a g k];obtain⟨z,i,c,rfl,rfl,n,e,q⟩:=h;rw[HN g];rw[hH k];obtain⟨j,h1,h2,l,b,d⟩:=a4S e;have f:z.cps.toList.length=z.length:=by simp[Str.length]
 rw[f]at h1 b d;have m:=a1i;exact tail_any EI6 slot_str_getitem.lookup (getItem_str (c:=c) (by
  have e1:iV (i < -BG dQ):=B06;have e2:iV (BQ2 i):=B06;rw[e1,e2,Bool.or_false]) (CQF h1 h2) (kM (xA GY))) hs
def b1R(its:AN)(n j:Nat)(u:qB):Obj.mapSeq (·.setIfInBounds j u) AEX=BCM (its.set j u).toArray:=by
 simp[Obj.mapSeq]
def Inv.lst{p:qE}(I:AL)(h:BVK) :
  CC9 (pQ/\E3H/\bH):=by
 rw[B9F (AWU h)];rw[EB its n r e z]
def Inv.lstUpd{p:qE}{ys:AA}{its its':AN}{a:Nat}{f:DW1}(I:AL)(h:BVK)
  (g:E3H) (c:f AEX=E2Q) (r:DR7) (i:kT) (t:Nat) :
  JK (RD p ys) (cM s (D6F f) t):=by
 have e:D2 (DG3 p f) p E2Q:=by
  rw[BUR f g (by rw[c]<;>rfl),c]
 refine B85 p p (by rw[h];trivial) NA (AKQ d (AWM (Ne.symm d) q)) (eX e) ?_;rw[EB i its' a r e]
inductive rSetL(o:V)(i:V)(v:V)(H:Hp)(Q:(OX Hp)):Prop
 |mk (p xs k j:_) (_:LH o p) (_:i=.int k) (_:BVK) (_:ixN xs.length k=some j) (_:Q E2R):ESV rSetL
def a9K:c8y X rSetL:=by
 intro qK s σ H o i v B A u Q I x w y h;obtain⟨p,xs,k,j,rfl,rfl,g,l,q⟩:=h;rw[A6P x w];obtain⟨its,n,r,c,m⟩:=I.lst g;rw[DR h1 h2 e f b4r l];rw[AE b r.length z a1i];have d:JK E2R (GI (D6F ((Obj.mapSeq (·.setIfInBounds j u))))) :=
  I.lstUpd g c (b1R its n j u) (r.set y j) (D27 m) s.toks
 rw[fD (0<=k)]
 .have hk:k.toNat=j:=by
   rw[C6R f]
  exact PySem.W.ki_setAt c a AF (AYS b f) E68
 .have hk:BXQ k=j:=by
   rw[C6Q (seqIndex_neg A64 e) b]
  exact PySem.W.ki_setBack c A64 (by rw[nU b];exact e) AF E68
def b0S(i:Int)(n:Nat):max 0 (min (if i<0 then i+FE else i) FE)=if i<0 then CY9 i else min i FE:=by
 rw[UX h 0]
 .rw[yL,yL,Int.min_eq_left (bZ 0x2ae4e623673a8817),Int.max_comm]
 .rw[CM kX kX (Int.max_eq_right (Int.le_min.mpr (GH (Int.not_lt.mp h) Int.natCast_nonneg n)))]
def a8b(lo hi:FF)(n:Nat):(C76).1=E08 0 lo/\(C76).2.1=E08 n hi/\v9 C76=1:=by
 rw[FY ?_ ?_ rfl]
 .cases lo with
  |none=>rw[DX4]
  |some i =>
   rw[F42 0]
 .cases hi with
  |none=>rw[DX4]
  |some i =>
   rw[F42 n]
def a6E(its:AN)(lo hi:FF):slicePick its.toArray lo hi none=ACA its.drop DEI (HT.sIx its.length its.length hi-DEI) toArray:=by
 obtain⟨h1,h2,a⟩:=a8b lo hi its.toArray.size;rw[eW slicePick h1 h2 a];simp only[sliceRange_one,pick_run,List.size_toArray]<;>rfl
inductive rSlL(K:qF)(x:V)(lo:FF)(hi:FF)(H:Hp)(Q:VK):Prop
 |mk (a xs:_) (_:IW) (_:fU) (_:ABH AUN):ELS rSlL
def c2K:AKN SlR rSlL:=by
 rw[F5X];rw[QG a xs rfl f q];cases j;rw[A85 d e f];have c:=r.length;refine bD "list" slot_list_getitem.lookup d.isList.typeIs ?_;refine wpAny_getItem_list_slice d.isList hs g i .none AJ ?_ (C50 (M5 e c));rw[a6E,<-c];refine AF9 s.toks (o:=DD AUN) k ?_ AIX;rw[EB E16 _ 0 DVC JV]
noncomputable def J9:B3K
 |.non=>true
 |dO=>true
 |YL=>true
 |YB=>true
 |_=>false
noncomputable def eqV:E3A
 |.non,.non=>true
 |.bl a,bX=>a==b
 |.bl a,BQ b=>MW a 1 0==b
 |BQ a,bX=>a==MW b 1 0
 |BQ a,BQ b=>a==b
 |CQZ,D3O=>a==b
 |_,_=>false
def c1V{A:Around}{y:V}{u v:qB}(e:MB)(c:bG)(f:A7X)(d:sH):CA0 BM4:=by
 cases y with
 |non =>
  rw[CP];cases x with
  |non=>cases c;exact SeqAt.EqAt.same _
  |bl b=>cases c;exact SeqAt.EqAt.none_bool b
  |int b=>rw[jL];exact SeqAt.EqAt.none_int b t
  |str b=>rw[jL];exact SeqAt.EqAt.none_str b t
  |_=>rw[uQ d]
 |bl a =>
  rw[CP];cases x with
  |non=>cases c;exact SeqAt.EqAt.bool_none a
  |bl b=>cases c;exact SeqAt.EqAt.bool_bool a b
  |int b=>rw[jL];exact SeqAt.EqAt.bool_int a b t
  |str b=>rw[jL];exact SeqAt.EqAt.bool_str a b t
  |_=>rw[uQ d]
 |int a =>
  rw[hH e];cases x with
  |non=>cases c;exact SeqAt.EqAt.int_none a t'
  |bl b=>cases c;exact SeqAt.EqAt.int_bool a t' b
  |int b=>rw[B9H SeqAt.EqAt.int_int]
  |str b=>rw[B9H SeqAt.EqAt.int_str]
  |_=>rw[uQ d]
 |str a =>
  rw[hH e];cases x with
  |non=>cases c;exact SeqAt.EqAt.str_none a t'
  |bl b=>cases c;exact SeqAt.EqAt.str_bool a t' b
  |int b=>rw[B9H SeqAt.EqAt.str_int]
  |str b=>rw[B9H SeqAt.EqAt.str_str]
  |_=>rw[uQ d]
 |_=>rw[uQ f]
noncomputable def eqU(x:V)(u:qB):Bool:=match u with
 |.none=>eqV .non x
 |AZZ=>eqV (.bl b) x
 |C5S=>eqV (.int i) x
 |.str z _=>eqV (.str z) x
 |_=>false
def c1U{y:V}{u:qB}(r:MB)(f:A7X):DJB=BM4:=by
 cases y with
 |non=>rw[A7Z]
 |bl b=>rw[A7Z]
 |int i=>rw[A8A]
 |str z=>rw[A8A]
 |_=>rw[uQ f]
def a3j{x:V}:F0I (BCL us.any=E8T)
 |_,_,.nil,_=>rfl
 |y::xs,u::us,ALS,f=>by
  rw[E9H];rw[DWZ E02 (a3j t f.2)]
def a1b{A:Around}{s:qC}{x:V}{v:qB}(c:bG)(b:sH):F0I (∀u∈us,CA0 DJB)
 |_,_,.nil,_=>λu a=>by cases a
 |y::xs,u::us,ALS,f=>λd a=>by
  rw[E9H];rw[lM]
  .rw[AD E02 (c1V r c jQ b)]
  .exact a1b c b t f.2 d a
noncomputable def inV(x:V)(xs:AA):Bool:=E8T
inductive rIn(K:qF)(neg:Bool)(x:V)(y:V)(H:Hp)(Q:VK):Prop
 |mk (p xs:_) (_:ABB p) (_:(ALB∨BZG)) (_:sH) (_:AGO) (_:DEB (! DYP) DYP):ELU rIn
def b5w:B21 (rIn X.K false):=by
 rw[F26]
 rw[EC8 SeqAt.in_listAt]
 rw[BP8 I.tuple SeqAt.in_tupleAt pl]
def a8p:UT .NotIn (rIn X.K true):=by
 rw[F26]
 rw[EC8 SeqAt.notIn_listAt]
 rw[BP8 I.tuple SeqAt.notIn_tupleAt pl]
def a9c:B2G (ADK (EXS D9B)):=by
 rw[EPI e b c];cases c;have d:=a1i;rcases b with b|b
 rw[F2U I.list Calls.call_len_list pl.isList]
 rw[F2U I.tuple len_tuple pl]
def a9b:B2G (ADK (∃z,xs=[D58]/\BR0/\D9C)):=by
 rw[EEK z];rw[CDS];have a:=a1i;exact len_str AF (kM (BQ z.length))
def a9a:B32 vA (EXS DNK):=by
 rw[EPI k f j];cases j;have fin:∀(its:AN),BWH->kT->∀(h':Heap) (c':Nat),(∀b o',AZR o'->WB h'.get? o') ->
   BY4 (v2 vA none (.seq its.toArray c') #[])->nT hQ RP:=λits d c h' c' kp e =>
  AB7 (BDJ I.laid kp BO (show ObjOk X.prog X.w _ h' _ dH from⟨c,its,c',d,e⟩)) AIX
 rcases f with f|f
 rw[F4Q I.list pl.isList NA]
 rw[F4Q I.tuple pl BQO]
def a6T:B32 dU (∃p ys,xs=[FZ]/\ER5 CTZ CU0):=by
 rw[kB i];rw[SK p ys rfl h];rw[BMU g];cases g;rcases h with⟨c,q⟩|⟨c,q⟩
 .rw[RK r' pl hz I.list c];have a:=r'.length;refine call_tuple_list pl.isList (BK h' kp) (CXB hz);have d:AVN:=E4V kp;have f:DLV ys (GI (oU h'.push its.toArray)) :=
   BDJ d.laid D8R BO (F00 CJ1 hz its r')
  exact ASG h'.objs.size f (q _ D77)
 .rw[RK r' pl hz I.tuple c];exact call_tuple_same pl (uV FZ q)
noncomputable def tyV(K:qF)(T:String)(x:V)(H:Hp):Prop:=match x with
 |YB=>DFW
 |YL=>DFV
 |FZ=>(T="list" /\ ∃xs,ALB)∨(T="tuple" /\ ∃o,tL K.lookup p/\DEQ/\D6H) ∨
   (T="dict"/\((∃qL,CUQ)∨∃qL,YZ p .dT qL))∨(T="set" /\ ∃S n,HJ p E0D)
 |_=>False
def c6j{T:String}{v:qB}(I:AL)(r:bG)(ty:tyV X.K T x H) :
  DZU/\∀a,AEL->∃d,PY s.heap.get? d/\MQ d.dict:=by
 cases x with
 |str z =>
  rw[ETF DFW EI6]
 |int i =>
  rw[ETF DFV (ASD s i)]
 |ref p =>
  cases r;rcases ty with⟨rfl,xs,g⟩|⟨rfl,o,b,f,hd⟩|⟨rfl,b⟩|⟨rfl,S,n,b⟩
  .obtain⟨its,_,pl,_⟩:=D5Z;rw[GN pl.isList.typeIs a e];rw[CP];obtain⟨o,n,e,c,hd,_⟩:=pl;rw[BA o e hd]
  .rw[GN (UV (I.kIn p o b) f) a e];rw[CP];rw[BA o (I.kIn _ o b) hd]
  .have z:∃o,D5L p/\o.ExactDict:=by
    rw[DWY b b b]
    rw[F01]
    rw[F01]
   obtain⟨o,e,ex⟩:=z;rw[ENC]
  .obtain⟨o,_,_,_,e,ex,_⟩:=AWU b;rw[ENC]
 |_=>rw[HU ty]
noncomputable def tBM(K:qF)(T:String)(r:A09)(to:TE)(t:TA):TE:=NI to x (tyV K T x H1/\VJ t xs (r x xs H2 Q))
variable {o e:Expr}{es:BN}{to:TE}{t:TA}{name:Str}{qO qM:Pos}{T id:String}{r:A09}
def c8Z(q:DIJ)(f:C8K T)(g:CCX)(n:E8S)(p:AK7)(m:YV)
  (b:BWQ:=by rfl)
  (d:PV (AP7
   && AP6):=by rfl)
  (c:TQ:=by rfl) (hs:CI:=by rfl) (a:L1:=by rfl) :
  C5W (tBM X.K T r to t):=by
 rw[ESE b d c p A];obtain⟨x,H1,i,k,ty,u⟩:=A;rw[NG (c6j i k ty)];rw[EQV ⟨T,id,q,f,g,h1,h2,?_⟩ j m i u j ((by show(false || (backTo qM (starEach es X.env)).any (·.1))=false;rw[a]<;>rfl))];exact thn j λz s2 (VX vs l y w)=>AD4 n x vs v z Q l k y w
#where
noncomputable def MtM(X:Cx)(id:String)(r:A09):Prop :=
 F5Z (E64 ->
  EJP)
def Vals.one(h:D7Z):EEE:=by
 cases h with|cons r t=>cases t;exact DK r
def Vals.two{y:V}(h:D80):∃u v,us=[u,v]/\bS/\DR4:=by
 cases h with|cons r t=>obtain⟨_,rfl,q⟩:=Vals.one t;rw[EB _ _ rfl r q]
def Vals.eraseIdx:BP4 i (Vals (xs.eraseIdx i) (us.eraseIdx i))
 |_,_,_,.nil=>.nil
 |_,_,0,B6I=>t
 |_,_,AO,ALS=>BE6 (Vals.eraseIdx i t)
def Vals.rep{xs:AA}{us:AN}(h:aZ):∀k:Nat,ML (XL k xs) (XL k us)
 |0=>.nil
 |CF=>by
  rw[List.replicate_succ,List.replicate_succ,List.flatten_cons,List.flatten_cons];exact Vals.append h (Vals.rep h k)
def a7r{α:Type}:∀(l:CL) (i:Nat),QH l.eraseIdx i l.length
 |[],_=>BO
 |HI,0=>AZG
 |_::r,AO=>Nat.succ_le_succ (a7r r i)
def a7y(its:AN):∀(k:Nat) (qP:AN),
  EVX
 |0,qP=>AJ
 |CF,qP=>by
  rw[EPT]
  have e2:(qP++its)++AWI k=qP++AWI CF:=by
   rw[List.replicate_succ,List.flatten_cons,List.append_assoc]
  rw[<-e2,<-a7y its k (qP++its),<-e,List.replicate_succ,List.foldl_cons]
section
variable {l b:qE}{ys zs:AA}
def Inv.lset{its its':AN}{f:CY->CY}{t':Nat}(I:AL)(a:YU)
  (e:DEO) (c:f its.toArray=its'.toArray) (g:DR7) (h:kT) :
  JK (RD l ys) (cM s (s.heap.update l (Obj.mapSeq f)) t'):=by
 rw[GL q (PySem.IsL.update e f) c q];refine B85 l l (AG a trivial) NA (λb' u b d=>nK (Heap.get?_update_other s.heap (Obj.mapSeq f) (Ne.symm b)) d) (eX q) ?_;rw[EB h its' _ g q]
def Inv.lnew{its:AN}{t':Nat}(I:AL)(a:BWH)(hz:kT) :
  JK (RD s.heap.objs.size ys) (cM s (E3M its.toArray) t') :=
 I.laid BLM BO ⟨hz,its,0,a,JV⟩
def Inv.fresh(I:AL):yO:=aY
def Inv.lstM(I:AL)(a:YU):bH/\CC9 (pQ/\A2H its.length/\DEO):=by
 rw[B9F (I.hok l _ a)];rw[GZ z its n r r.length e]
def b0j(h:BQZ):JL Builtin.List.listTooLong n:=by
 unfold Builtin.List.listTooLong;exact decide_eq_false (A4N b9p)
#where
inductive rAppend(x:V)(vs:AA)(H:Hp)(Q:VK):Prop
 |mk (l xs y:_) (_:zK) (_:B1K) (_:YU) (_:AOZ xs.length) (_:DYV (xs++[y])):A8M rAppend
def b5M:y8 "list.append" rAppend:=by
 rw[lF i g f];obtain⟨l,xs,y,rfl,rfl,a,b,q⟩:=h;cases g;rw[GV u d f.one];rw[A6N c (I.lstM a)];rw[ELH qT (PySem.list_append l its.toArray n u (wK List.size_toArray 0x172b971a68aea6d97 b c)) e];refine F0A (its++[u]) a (DYQ r.append d);rw[F2 List.length_append List.length_singleton a8F b]
inductive rExtend(x:V)(vs:AA)(H:Hp)(Q:VK):Prop
 |mk (l b xs zs:_) (_:zK) (_:QB F0) (_:YU) (_:E1S) (_:DNQ) (_:DYV DDX):A8M rExtend
def b5L:y8 "list.extend" rExtend:=by
 rw[lF y w t];rw[EW5 j k];cases w;rw[T6 p t.one p];rw[EL0 A m o f (I.lstM j)];have d:BZ (its.toArray.size+a.toArray.size):=by rw[CM List.size_toArray List.size_toArray (b9X k i f)]
 have c:¬iE (! its.toArray.isEmpty) (Builtin.List.listTooLong (its.toArray.size+a.toArray.size)):=by
  rw[B0D (b0j d) Bool.false_ne_true]
 refine E9M F.slot_list_extend F.entry_list_extend F.args_list_extend_2
  (AutoSeq1.list_extend_list_list_0 l its.toArray n b a.toArray m c (DYC i) (BH 88490196655832471 d)) (y6 e e2)
 rw[DO (F0A (its++a) g (r.append o)) List.length_append];omega
inductive rPopAt(x:V)(vs:AA)(H:Hp)(Q:VK):Prop
 |mk (l xs i k y:_) (_:zK) (_:QB SX) (_:YU) (_ : C1H<=i) (_:i<dQ) (_:DU9 k) (_:AHL k y) (_:Q y (ZN l (cL xs.eraseIdx k))):A8M rPopAt
def b8L:y8 "list.pop" rPopAt:=by
 rw[lF o m j];obtain⟨l,xs,i,k,y,rfl,rfl,b,h1,h2,d,f,q⟩:=h;cases m;rw[GV u g j.one];rw[HN g];rw[A6N c (I.lstM b)];rw[BX w hw a r.get f];refine E9M F.slot_list_pop F.entry_list_pop F.args_list_pop_2
  (E79 MeetsSeq.list_pop_at i t k w DHT (AYS c d) (RZ Array.getElem?_toList hw) (DYC c)) (HR e)
 refine bD y (I.lset (its':=its.eraseIdx k) b e ?_ (r.eraseIdx k) ?_) a q
 .show its.toArray.eraseIdxIfInBounds k=(its.eraseIdx k).toArray;rw[List.eraseIdxIfInBounds_toArray]
 .have:=a7r xs k;rw[oK a3C z]
inductive rCat(x:V)(y:V)(H:Hp)(Q:VK):Prop
 |mk (l b xs zs:_) (_:zK) (_:A84) (_:YU) (_:E1S) (_:DNQ) (_:ABH DDX):YW rCat
def c7j:AJO rCat:=by
 rw[NH m o];rw[EW5 f j];rw[pI m o];rw[EL0 t p k c (I.lstM f)];refine PySem.P.add_list e e2 ?_ (DMN (b9X j i c));rw[pZ d (its.toArray++a.toArray) (ASJ its a)]
 rw[ERW d (r.append k) (XM List.length_append)]
inductive rRep(x:V)(y:V)(H:Hp)(Q:VK):Prop
 |mk (l k xs:_) (_:zK) (_:AQ6 k) (_:YU) (_ : C1H<=k) (_:k<dQ) (_:BZ (xs.length*k.toNat)) (_:ABH (XL k.toNat xs)):YW rRep
def a8N(xs:CL)(k:Nat):gQ k xs flatten.length=k*xs.length:=by
 induction k with
 |zero=>simp
 |succ k a=>rw[List.replicate_succ,List.flatten_cons,List.length_append,a,Nat.succ_mul,Nat.add_comm]
def c7a:AJP rRep:=by
 rw[NH B C];obtain⟨l,k,xs,rfl,rfl,w,h1,h2,o,q⟩:=h;rw[A6P B C];rw[A6N A (I.lstM w)];have f:BZ C2U:=by rw[nU A];exact o
 have c:¬C2U > C4A:=by
  have:D3H<=C4A:=AI
  omega
 have d:¬A60 (Builtin.List.listFitsIndex k):=by
  rw[D1X DHT]
 have b:¬DY Builtin.List.listTooLong C2U:=by
  rw[D1X (b0j f)]
 have g:BOE DH8 (OO its.toArray.isEmpty 0 k.toNat) its.toArray=BMP k.toNat:=by
  have p:∀m:Nat,List.foldl DH8 #[] (BV5 its.toArray)=BMP m:=λm=>by
   rw[QS (a7y its m []) List.nil_append]
  rw[p];cases its with
  |nil=>simp
  |cons a r'=>rw[aV]
 refine CZW "list" qT k noFill_list_mul repeat_list
  (call_meets F.slot_int_rmul (ASD s k) F.entry_int_rmul (BS F.args_int_rmul_2) (int___rmul___int_list k t l its.toArray n)
   (OI e qT (call_meets F.slot_list_mul qT F.entry_list_mul (BS F.args_list_mul_2) (E79 AutoListH.list___mul___list_int_3 k t d c b) (HR e))))
 rw[ERW g (r.rep k.toNat) (IG a8N Nat.mul_comm o)]
section
variable {prog:qG}{w:World}{A:Around}{E:qH}
#where
universe L2
namespace Att
open PySem PySem.W PySem.Calls PyProof.Rows
def a4x{P:Params}{h:Heap}:GC ns qI vs AN (WellAll P h vs (ns.map WData.int)) A8G:=by
 intro ns;induction ns with
 |nil =>
  intro vs w;rw[C5R w w]
 |cons n ns c =>
  intro vs w;rw[AYX w];cases w with
  |cons a b =>
   cases a;exact AH .cons (c _ b)
def b5d{l:OpenLaw}{n:Nat}(o:C37){P:Params}{h:Heap}{args:D1N}{c:AN}
  (b:DY l.row.toRowW.claim.pre args) (j:WellAll P h c args) :
  ∃a vs ns,c=[AVL]/\args=[WData.list (ns.map WData.int)]/\XY AY4/\A8G/\BVE:=by
 have hsh:AW (WShape.hasAll [] args [.list .int]):=(pre_splitW b).1;have k:DRU l.pre.holds args:=(pre_splitW b).2;obtain⟨d,r,rfl,h1,h2⟩:=hasAllW_cons hsh;obtain rfl:=hasAllW_nil h2;rw[BX xs rfl m hasW_list h1];rw[MK ns (items_int m)];have f:ns.length<=n:=by
  unfold OpenLaw.pre at k;have g:DRU (WTm.not (.lt (.lit (.int FE)) (.len (.arg 0)))).holds [.list (ns.map .int)]:=by
   rw[GL g (holds_andW k).1 o g];exact g
  rw[B1A i (condW_of g (w_not (w_lt w_lit (w_len_list (w_arg rfl))))) i];rw[UJ Nat.le_of_not_lt q];have s:FE<EA ns.length:= ~~~b9r q
  first
   |(rw[decide_eq_true s]at i;rw[EV i AI])
   |(rw[AT8 i])
 cases j with
 |cons w1 w2 =>
  cases w2;cases w1 with
  |list p e=>exact aB _ _ ns rfl p (a4x ns _ e) f
def b5r(l:OpenLaw)(args:D1N):AW (l.row.toRowW.claim.post args AJS args) :=
 postW_of (r:=l.row.toRowW) (X:=(true==true))
  (show AW (WShape.has [] AJS .bool) by first|rfl|decide|simp[WShape.has,WShape.arms,WShape.armsAll])
  (show(WTm.eq .res (.lit (.bool true))).value [] {args:=args,res:=BU .bool true,after:=args}=BU .bool (true==true)from w_eq_bool (w_res rfl) w_lit) rfl
def attach_call{l:OpenLaw}{n:Nat}{q:qG}{b:AC}{XP:BZ5}{t:BZ4}{d:DefRec}
  (F:C37) (k:BT7)
  (call:∀(w:World) (s₀ s₁:qC) (mg s:BJ) (fa:qE) (o:Obj) (pm cd c:qB) (a:qE) (vs:AN) (ns:qI),
   Ground q b [] XP w s₀ mg s s₁.heap->t w s₁.heap ->
   tL s₁.heap.get? fa->o.data=.func (docDef d.name d.params d.body d.scope pm cd c)->s₁.heap.CodeRec cd d.name->C3T ->
   E1D->A8G->BVE->DIP ->
   D0C (B9Z l.prog)) :
  EF7 WalkO t:=by
 intro w s₀ s₁ mg s G Y fa o pm cd c z kV H hd j v m C u y as i x J p D;obtain rfl:z=.none:=Dflts.none v k;obtain rfl:kV=.none:=Dflts.noKw v;obtain⟨a,vs,ns,rfl,rfl,h,e,g⟩:=b5d F i p;refine enter_call (AT3 (call w s₀ s₁ mg s fa o pm cd c a vs ns G Y H (fd_plain hd) j m h e g C) I);obtain⟨rfl,h2,A,B⟩:=I;rw[EF (EL (aB AJS AJS [] A3C AJS (b5r l _) (DF ⟨List.Pairwise.nil,EH E (AFM E)⟩))) h2 A B]
section
variable {prog:qG}{w:World}{A:Around}{E:qH}{s:qC}{K:Frag}
#where
universe Att
namespace L2
open PySem PySem.Spec PyProof.Rows
section
def a6Y:∀{vs:AN}{ns:qI},A8G->DSO vs
 |_,_,.nil=>.nil
 |_,_,.cons n t h=>.cons B0Q (a6Y h)
noncomputable def c8A(H:Hp):Prop:=∀b,KW∨∃o xs,A2I (CAN o)
def c1f{P:qG}{w:World}{K:qF}{mg M:BJ}{CX:CXT}{k:Nat}{fa a:qE}{fd:FuncData}{x:Str}{sp:Sp}{s₁:qC}{vs:AN}{ns:qI}
  (O:K.In s₁.heap) (y:BBW s₁.heap.Ns) (f:s₁.heap.Ns builtinsNs M) (I:EEU M) (t:s₁.heap.NoLimit) (hg:DIP)
  (E:E1D) (hi:A8G) (S:D2J) (hr:BUB)
  (F:BOO BXY (AC4 base CX k fa fd SW sp)) (j:BOZ u [u] x u)
  (L:∀H:Hp,BUL->B7A->EB1 (sp aM H E0M))
  (G:∀H e s',CX [] H s₁ B73 e s'->False) :
  DVL:=by
 rw[AE T (a6Y hi) C hi.length];have i:∀H:Hp,BUL->B7A->u6 H s₁.heap->(∀b,DIV->b=a)->(H a≠none->EY K.lookup a) ->
   DVL:=by
  intro H R Z A Q X;have c:AH1 Obj s₁.heap.get? KW (C9E s₁.heap):=λe n=>c1I e n;have N:∀{b:qE}{o:Obj}{es:yE}{ep:Nat},GP s₁.heap.get?->o.data=B5U->KW:=λ{b o es ep} e d=>by
   cases q:H b with
   |none=>rfl
   |some u =>
    rw[EPM];rw[FH E];have U:Data.seq vs.toArray _=Data.dict es ep:=d;cases U
  have g:∀{b:qE}{m:BJ},s₁.heap.Ns b m->(a8T s₁.heap H).Ns b m:=λ{b m} (EVI e)=>EVI (c e (N e d));have p:K.In (a8T s₁.heap H):=ID o (c (QD O) (by
   cases q:H b with
   |none=>rfl
   |some u =>
    rw[EPM];rw[FH (X (by rw[LS q]))]))
  have Y:Mod K mg E77:=⟨p,g y,⟨M,g f,I⟩,jR mc h1 h2 t mc (g h1) h2⟩;have W:CIW E77 callerA [] s₁ H:=⟨rfl,Y,ID o (c3W e),DVS b6a,trivial,λb f=>AIV (C5B f),A,.of_eq hg⟩;refine NW codeAny_mono ((F _ p (g y)).run callerA [] s₁ H CLL aM aM _ _ hr W (j s₁ CC) DN4 (L H R Z)) r s' h;cases r with
  |error e=>exact(G H e s' h).elim
  |ok fl =>
   cases fl with
   |next=>rw[HU h]
   |brk=>rw[HU h]
   |cont=>rw[HU h]
   |ret u =>
    obtain⟨v,H',os,l,un,B,r',q⟩:=h;have q':CWW:=q;rw[AOF q' (B1B true) r'];rw[GA rfl (OldK.of_keep λb o e=>?_) os l];cases q:H b with
    |none=>exact un.keep b o e q (by intro z;rw[EV (C5B z) AJ]) AJ
    |some u =>
     rcases R b with z|⟨ob,xs,z⟩
     .rw[A3J q]
     .have z2:=un.frzs b ob _ z;obtain⟨e1,_⟩:=A b _ z;obtain⟨e2,_⟩:=B b _ z2;rw[aS e1 e1];exact e2
 cases J:K.lookup a with
 |some o =>
  have e:=O a o J;rw[FH E];refine i B0J (DF NA) (DP ⟨_,vs.toArray,_,J,rfl,rfl,rfl,BK9 C S,BL T⟩) (λb u z=>by have D:BMJ HO=some u:=z;cases D) (λb z=>B2I z) λz=>B2I z
 |none =>
  refine i (λb=>if b=a then AQ (.frz AY4 (UC ns.map))else none) (MN b) (tU .inr ⟨AY4,EJ⟩) (DS b u z) (iU z) λ_=>J
  .rw[C3W]
   rw[HG (FP _ (CO f))]
   .exact tU if_neg f
  .rw[C3W]
   .rw[EL3 if_pos];subst f;rw[GZ E (OQ S) vs _ T E]
   .rw[EL3 if_neg]
  .rw[C3W]
   .exact f
   .exact AFN if_neg f z
def walk_of{l:PySem.W.OpenLaw}{n k:Nat}{q:qG}{g:AC}{XP:BZ5}{z:BZ4}{d:DefRec}{K:DW2}{CX:World->CXT}{sp:World->Sp}{x:Str}
  (M:C37) (r:BQZ) (m:BT7) (N:BUB)
  (E:F09 z)
  (F:F22 (C3T ->
   ∃fd:FuncData,EOO x /\
    DPG (DV3 base (CX w) k fa fd SW (sp w))))
  (t:∀(w:World) (H:Hp) (a:qE) (ns:qI),BVE->BUL->SqL CV0 H a v3->EB1 (sp w aM H E0M))
  (j:∀(w:World) (H:Hp) (s:qC) (e:qB) (s':qC),CX w [] H s B73 e s'->False) :
  CXN (PySem.W.WalkO q g XP z):=by
 refine Att.attach_call M m λw s₀ s₁ mg P fa o pm cd A a vs ns G Y O hd J p i c b L=>?_;have y:=E w _ Y;obtain⟨fd,I,B⟩:=F w mg fa _ y G.T.g p;exact c1f y G.T.g G.T.b G.T.builtins G.T.nolimit L i c (Nat.le_trans b r) N B I (λH C D=>t w H a ns b C D) λH e s'=>j w H s₁ e s'
#where
section
variable {A:Around}{E Q:qH}{H H1:Hp}{K:qF}{N ps:AC}{P prog:qG}{X:Cx}{a b f it l:qE}{env:Env}{es:BN}{g:TG}{h h':Heap}{i n:Nat}{items:CY}{k k1 k2:Bool}{qK:DC}{pos:Pos}{qual x:Str}{s:qC}{scope:Scope}{src:NM}{st:Stmt}{te:TE}{w:World}{xs:AA}{σ:St}
noncomputable def D8(s:Stmt)(j:Nat):Stmt:=match s with
 |nN (GX (GX .ClassDef body) _)=>body.getD j (.Pass CBB)
 |_=>.Pass CBB
noncomputable def N8(s:Stmt):Arguments:=match s with
 |aH (.FunctionDef _ a _ _)=>a
 |_=>{posonlyargs:=[],args:=[],vararg:=none,kwonlyargs:=[],kw_defaults:=[],kwarg:=none,defaults:=[]}
noncomputable def E6(s:Stmt):IY:=match s with
 |aH (AK .FunctionDef b _)=>b
 |_=>[]
noncomputable def A2(s:Stmt):Scope:=match s with
 |GX .FunctionDef _ _ _ sc _ _ _=>sc
 |_=>{kind:=.function,names:=[],isGenerator:=false,isCoroutine:=false}
noncomputable abbrev CX0:CXT:=λ_ _ _ _ _ _=>False
noncomputable abbrev E0:XK:=B73
def a9Y:a0G CX0 X E0:=CHD h h.elim
structure Fun(K:qF)(x qual:Str)(st:Stmt)(f:qE)(fd:FuncData):Prop where
 ex:∃(oc:qB) (od:IM) (kV doc pm:qB) (an:IM) (cdv ct:qB) (osl:YX),
  fd=C8J COR doc pm an cdv ct/\B96 fd osl/\C6Z cdv
 kp:AWN
section
variable {mg:BJ}{base:Heap}
def Fun.ok{fd:FuncData}{k:Nat}{sp:Sp}(F:C4F)(S:A12)(len:lR)
  (b:F5U (dM ->
   DGP CWO)):ESY:=by
 rw[D0E i F.ex g (EM4 H vs Q E g d) h.nox]
def Fun.binds{fd:FuncData}(F:C4F)
  (h:BIV b a CDA):rA:=by
 rw[CQB b d F.ex];exact .all (h kV b pm an a ct)
def a6f{oc:qB}{od an:IM}{d:YX}{kV b pm a ct:qB}(l:B96 CDA d)
  (c:C6Z a) (k:AWN):BI1 qual CDA:=⟨⟨oc,od,kV,b,pm,an,a,ct,d,rfl,l,c⟩,k⟩
#where
def pv(i:Nat)(b:fN:=by rfl)(c:AKK:=by rw[EJ4])(hd:FK:=by decide)
  (a:C67:=by decide):DLZ:=EOW
def B5{A B:Prop}(h:B):OO false A B:=by
 rw[AD (BC Bool.false_ne_true) h]
def E2{A B:Prop}(h:A):OO true A B:=by
 rw[AD EJ h]
def a1S{c A B:Prop}[Decidable c](h1:c->A)(h2:¬c->B):if c then A else B:=by
 by_cases h:c
 .rw[BB yL h1 h]
 .rw[BB kX h2 h]
noncomputable def Same(H H':Hp):Prop:=iL H BRF
def Same.refl(H:Hp):LF H:=iF h h
def Same.trans{H2:Hp}(a:LQ)(b:CG0):BR5:=λc o h=>b c o (a c o h)
def Same.free{H':Hp}(e:BP)(h:DY0 H'):DY0 H:=by
 cases q:H l with
 |none=>rfl
 |some o =>
  rw[AX (e l o q) h h]
def Same.seq{H':Hp}(e:BP)(h:fU):SqL K H' a xs:=by
 rcases h with(h|⟨o,h⟩)|h
 .exact wV DY8
 .exact tU .inr (jS DY8)
 rw[HG h]
noncomputable def L6(env:Env)(cs:VH)(x:DWT):VH :=
 if NB==.free then(match env.cells.lookup EN with|AQ a=>(EN,a)::cs|none=>cs)else cs
noncomputable def a4A(scope:Scope)(env:Env):VH:=scope.names.foldl (L6 env) []
def a6t{env:Env}(f:DWT->VH->Sem (ForInStep (qA (Str×qE))))
  (b:∀n k r,f ATW r=if WG k NameKind.free then(do let a <-cellOf env n;pure (ForInStep.yield ((n,a)::r)))else BGP r) :
  GC names vX cs VH (WT names (C8H EG1)) (forIn names cs f=pure (BO7 env))
 |[],cs,_=>rfl
 |dE n k,cs,h=>by
  rw[List.forIn_cons,List.foldl_cons,b];have e:=λy g=>h y CRF;rw[BM d k .free]
  .subst d;obtain⟨a,c⟩:=h D9Q List.mem_cons_self rfl;have e1:cellOf env n=pure a:=by rw[GO cellOf c]
   rw[DUS D9Q ((n,a)::cs) c]
   rw[F0Y e1]
  .rw[SF hb ((k==NameKind.free)) false d]
   rw[DUS ATW cs hb]
   rw[F0Y hb]
def c2f(h:BJS (C8H EG1)):DDB closureFor=pure (DDB a4A):=by
 simp only[closureFor];rw[a6t (env:=env) _ (λn k r=>by cases b:k==NameKind.free<;>simp[b]) scope.names [] h];rfl
def a7E{env:Env}{x:Str}{c:qE}:EFB env BTQ
 |[],cs,h=>D3T
 |iD,cs,h=>by
  rw[D7D];rw[BW (a7E r _ h)]
  rw[HF z]
  .rw[AT9 L6 z z]
   .split at z
    .rename_i a ha;rw[DGX];cases b:DDY with
     |true =>
      rw[b]at z;rw[AD (beq_iff_eq.mp b) (.inl (ha.trans z))]
     |false =>
      rw[b]at z;rw[kE z]
    rw[HG z]
   rw[HG z]
def a1M{c:qE}(h:cQ ER7):BTQ :=
 (a7E scope.names [] h).elim id λz=>AA0
def a2A{env:Env}{x:Str}{a:qE}(d:DGC):∀(names:vX) (cs:VH),(DSM∨GQ cs.lookup a)->(∀c,CRS->c=a)->GQ (AAO (BO7 env)) a
 |[],cs,h,_=>EGJ
 |iD,cs,h,i=>by
  rw[List.foldl_cons];by_cases b:y.2=.free/\bN=x
  .have e2:L6 env cs y=E9Y:=by unfold L6;rw[b.2,d,dX];rfl
   rw[e2];have f:GQ (AAO E9Y) a:=by rw[LS List.lookup_cons]
   exact a2A d r _ (DP f) λc z=>by rw[f]at z;exact AG9 z
  .have same:(L6 env cs y).lookup x=cs.lookup x:=by
    rw[bW L6]
    .rw[AFI];split
     .have hne:(x==bN)=false:=by
       cases g:DDY with
       |false=>rfl
       |true=>rw[EV ⟨BL hk,D8K g⟩ b]
      rw[List.lookup_cons,hne]
     .rfl
    .rfl
   refine a2A d r _ ?_ (AG same i);rw[same];rw[BW h]
   .rw[lV pM e]
    rw[FJ ⟨BPH e,by rw[<-e]⟩ b]
    rw[HF z]
   rw[HG z]
def b0T(b:DGC)(d:CT9 scope.names):GQ ER7 a :=
 a2A b _ _ (EL d) λc z=>AA0
def a0g{x:Str}{c:qE}:CDT C9P ((n<=c/\B45 names)∨A7H)
 |[],_,_,h=>D3T
 |C3P,n,qP,h=>by
  rw[v6 cellsFrom];split at h
  .rw[AFI];rw[SF b k .cell hk]
   rw[F2G]
   rw[HF ⟨DCE,AIB⟩]
   .rw[DGX];cases a:x==y with
    |true =>
     rw[A3J a];rw[nW (AR6 BO b D2V List.mem_cons_self)]
    |false =>
     rw[a]at z;rw[kE z]
  .rw[F2G]
   rw[HF ⟨d,AIB⟩]
   rw[HG z]
def b2Z:CDT ((∀x c,A7H->c<n)) ((CDN A7H qP.lookup) ->
  CDN C9P (BCO n names qP))
 |[],_,_,_,h2=>h2
 |dE z k,n,qP,h1,h2=>by
  rw[bW cellsFrom]
  .have lk:∀x c,List.lookup x ((z,n)::qP)=some c->(x=z/\c=n)∨A7H:=λx c e=>by
    rw[List.lookup_cons]at e;cases a:x==z with
    |true=>rw[FH a];rw[nW (IC D2V)]
    |false=>rw[a]at e;exact .inr e
   refine b2Z r CS _ B5W (DW x y c e e')
   .rcases DBL with⟨_,q⟩|q
    .rw[BB q Nat.lt_succ_self _]
    rw[BRN E5F]
   .rcases DBL with⟨q1,q2⟩|q<;>rcases lk y c e' with⟨p1,p2⟩|p
    .rw[q1,p1]
    rw[FJ (h1 y c p) (B4M q2)]
    rw[FJ E5F (B4M p2)]
    .exact h2 x y c q p
  .exact b2Z r n qP h1 h2
def a8X{x:Str}:CDT ((B45 names∨∃c,A7H)) (∃c,C9P)
 |[],_,_,h=>EGJ
 |C3P,n,qP,h=>by
  rw[bW cellsFrom]
  .rw[EU5];rw[BM a x y]
   rw[HG ⟨n,by rw[List.lookup_cons,a];simp⟩]
   .have hb:(x==y)=false:=beq_eq_false_iff_ne.mpr a;rcases h with z|⟨c,z⟩
    .rw[lV pM e]
     rw[FJ (Prod.mk.inj e).1 a]
     rw[HF z]
    rw[HG (AR6 c List.lookup_cons hb z)]
  .rw[EU5];rw[BW h]
   .rw[lV pM e]
    rw[FJ (AH5 (Prod.mk.inj e).2) hk]
    rw[HF z]
   rw[HG z]
def a8o{x:Str}{c:qE}:∀(names:vX) (h:Heap) (qP:VH),(∀x c,A7H->C55 h.IsCell)->ASC h.objs.size names qP->C55 (pushCells h names).IsCell
 |[],h,qP,a,e=>jF a
 |C3P,h,qP,a,e=>by
  unfold cellsFrom at e;unfold pushCells;split at e
  .rw[AFI];rw[CO hk];rw[show h.objs.size+1=(h.push (gK "cell" .cell none)).objs.size from(aD Heap.size_push ..)]at e;refine EHT (E00 e');rw[List.lookup_cons]at e';cases d:x'==y with
   |true=>rw[AX d e' e'];exact GT _ JV rfl
   |false =>
    rw[d]at e';rw[EE6 (a x' c' e') mU]
  .rw[AFI];rw[AD (BC hk) (EHT a)]
section
variable {M:Model}
def b1b{a:VH}{outer:Env}{Q:MM Env}
  (f:Q (newEnv scope s.heap.objs.size b (cellsFrom GM scope.names a) qual none .none D2B builtinsNs) (GI (B8Q s.heap.push))) :
  LI M (newFunctionEnv scope b a [] qual none .none D2B) Q:=by
 simp only[newFunctionEnv,Option.isSome_some,if_true];rw[OE wpAny_alloc];rw[AZ (AH (wpAny_layCells _ (λname c d=>by cases e:c==NameKind.cell<;>simp[e]) _ _) ?_)];rw[BB (EQY (GI CUC) GM) wpAny_bind (AWP f)]
#where
noncomputable abbrev NoX:qH:=AK8
def toE{α:Type}{M:Model}{t:BW0}{Q b:BSU}(h:FN M A t Q NoX s)(c:EMW):EA1 :=
 (gX h c _ _ z z.elim)
def a8W{d a b:Expr}{e:BN}{it qP:qB}{R:rV}(I:BST)
  (turn:∀n s,I n s->FN KK A (pyNext it) (λr s₁=>match r with
   |none=>R (.ok .next) s₁
   |RX=>fY (letOwnedTupleGo a it v) (EH s₂ (fY (assign a env v) (λ_ s₃ =>
     fY (EU7 e (do let ok <-isTrue c env (eval c env);pure (ForInStep.yield ok))) (λok s₄ =>
      if AW ok then fY (eval d env) (λx s₅=>fY (ACD "list.append" [qP,x]) (EH s₆ (DOG s₆)) NoX s₅) NoX s₄
      else DOG s₄) NoX s₃) NoX s₂)) NoX s₁) NoX s)
  (n:Nat) (h:I n s):BMT (.compLoop EO9 0 it qP env):=by
 refine codeAny_loop rfl I (DS n s hI) n h;show KF A ((compTurn EO9 0 it qP env).onRaise (λx=>do noteFrame x env;theTreesLotGoes x));rw[JR wpAny_noted];rw[compTurn_list];rw[AZ (dS wpAny_standAt (NW toE (turn n s hI) r s₁ h₁))];cases r with
 |none=>rw[TD h₁]
 |some v =>
  rw[AZ (toE h₁ λ_ s₂ h₂=>AYN (toE h₂ λ_ s₃ h₃=>AYN (NW toE h₃ ok s₄ h₄)))];cases ok with
  |false=>rw[TD (EQ h₄)]
  |true=>exact wpAny_bind (wpAny_bind (toE h₄ λx s₅ h₅=>AYN (toE h₅ λ_ s₆ h₆=>AWP (EQ h₆))))
noncomputable def Cx.blk(X:Cx)(N:AC)(scope:Scope)(cells:VH)(C:qE)(s:qC)(H:Hp)(ex:EI):Cx :=
 {X with N:=N,s₀:=s,H₀:=H,env:=E2M cells C,outer:=X.stack,stack:=X.stack,ex:=ex,fn:=λx=>scope.names.any λy=>bN==x && y.2==.cell,pn:=[],xe:=NoX}
noncomputable def B7(src:NM)(σ:St):St:=src.map λo=>o.bind λj=>DXY
noncomputable def B8(sc out:Scope):Bool:=D6L (NB != .free || (DGN .cell || DGN .free))
noncomputable def Q8:AC->NM->AC->Scope->Bool
 |[],[],_,_=>true
 |x::N,C4Z,M,sc=>(match o with|none=>true|AQ j=>M[j]? == iS && sc.names.lookup x==AQ .free) && Q8 N src M sc
 |_,_,_,_=>false
noncomputable def a8f(sc:Scope):Bool:=sc.kind==.function && D6L (BER sc.names.lookup NB)
def a7F:∀{N:AC}{src:NM}{M:AC}{a:Scope},EX3->src.length=N.length
 |[],[],_,_,_=>rfl
 |_::N,_::src,M,a,h=>by
  rw[C8C];rw[BGB List.length_cons (a7F FD)]
 |[],HI,_,_,h=>B83
 |HI,[],_,_,h=>B83
def a7G:∀{N:AC}{src:NM}{M:AC}{a:Scope}{i:Nat}{x:Str}{j:Nat},EX3->OD N->E62->GU M x/\B0B a.names.lookup
 |[],[],_,_,_,_,_,_,h,_=>sJ
 |y::N,C4Z,M,a,0,x,j,h,h1,h2=>by
  rw[C8C];simp at h1 h2;subst h1 h2;rw[GL q DE Bool.and_eq_true q];exact GH (BP9 ED) beq_iff_eq.mp DB
 |y::N,C4Z,M,a,AO,x,j,h,h1,h2=>by
  rw[C8C];exact a7G FD BJM BJN
 |[],HI,_,_,_,_,_,h,_,_=>B83
 |HI,[],_,_,_,_,_,h,_,_=>B83
def b6I{v:V}(h:u9 (eT iQ) v):∃j,E62/\u9 AWD v:=by
 rw[AU5 B7 List.getElem?_map];cases e:src[i]? with
 |none=>rw[AMK]
 |some o =>
  rw[e]at h;cases o with
  |none=>cases h
  |some j =>
   rw[LT j rfl];have h':DXY=some v:=Option.some.inj h;cases q:AWD with
   |none=>rw[AX q h' h']
   |some z=>rw[q]at h';rw[show z=some v from h']
def a1h{env:Env}:∀{names:vX}{x:Str}{k:NameKind},
  F4N ->
  CVH names.lookup (CCL)
 |[],_,_,h=>VW
 |DJW,x,k,h=>by
  rw[List.map_cons,List.lookup_cons]at h;rw[BPK];dsimp only at h;split at h
  .rename_i h0;have a:x==n:=by
    rw[DXL]
   rw[a];rw[LT k0 rfl];split at h
   .rename_i hc;cases h;rw[D1C hc];rw[kE (IC (BL hc.1.1))]
   .cases h;exact .inl rfl
  .rename_i h0;have a:(x==n)=false:=by
    rw[DXL]
   rw[BB a a1h h]
def M6{env:Env}:∀{names:vX}{x:Str}{k':NameKind},GQ names.lookup k' ->
  ∃k,F4N/\CCL
 |[],_,_,h=>VW
 |DJW,x,k',h=>by
  rw[List.lookup_cons]at h;rw[List.map_cons];by_cases b:iE (k0==NameKind.free && env.scope.kind==.function) (CRH==AQ .cell)
  .simp only[b,if_true];rw[BPK];cases a:x==n with
   |true =>
    rw[AX a h h];rw[D1C b];exact DK (DP (IC (BL dX.1)))
   |false=>rw[B1D a M6]
  .simp only[D3M];rw[BPK];cases a:x==n with
   |true=>rw[AX a h h];exact DK NA
   |false=>rw[B1D a M6]
noncomputable def PIf(X:Cx)(ifs:BN)(t:TT):Prop :=
 B5E VZ (ASY ->
  AAI (EU7 ifs (do let ok <-isTrue c X.env (eval c X.env);pure (ForInStep.yield ok))) TP)
noncomputable def S6:TT:=C0H true
def c3t:PIf X [] S6:=lQ Q h (iZ wpAny_tests_nil H I h)
def c3s{c:Expr}{t:TT}(h:PT X c t):PIf X [c] t:=lQ Q q (wpAny_tests_one (VI h Q I q))
noncomputable def Sub(σ σ':St):Prop:=σ.length=σ'.length/\GC i Nat v V B5G DI2
inductive CompW(src:NM)(g:TG)(tt:TT)(te:TE)(σ:St)(Q:VK)(J:It)(H1:Hp):Prop
 |mk (W:APL A2V) (_:(∃m,W 0 m [] H1)) (_:∀i m ys H,W i m ys H->(J.stop i H/\kT/\ARM)∨(ECP (∃N:A2V,(∀zs H',N zs H'->∃m',m'<m/\W AO m' zs H')/\BDV J.yld iQ (BF0 tt H3 H3 H4 (N ARL H4) (N ys H3))))):A17 tt J
noncomputable def a7a(src:NM)(wi:TI)(g:TG)(tt:TT)(te:TE):TE:=gR (WU wi (CompW src g tt te σ Q))
def Inv.block{fp:EI}(I:AL)(L:BXR)(R:pB (∃o,ZP))
  (F:A13) (C:A99) (B:A0R) {lo:Obj} :
  Inv (CK6 DU1 GM s H fp) [] iQ H
   (GI (B8Q BXN)):=by
 unfold a8f at B;rw[D17 B];rw[SF D scope.kind .function B.1]
 have E:EA2:=λx t=>BL (E1F B.2)
 have g:BJS (C8H (DH0 .cell∨DH0 .free)):=λx t f=>by
  rw[ETU (E1F F) f O]
  rw[Bool.or_eq_true]at O;exact ED7 O.imp
 have keep:ABQ (GP (B8Q BXN).get?):=λb o e =>
  BT5 AS7
 have M:∀x c,cQ (a4A scope X.env).lookup->mW c:=λx c e=>by
  rw[eR z (I.cell x c (a1M e))];exact z.lt
 have d:∀x c,E6H xN->(s.heap.objs.size+2<=c/\B45 scope.names)∨A2C:=λx c e =>
  (DRJ).imp id a1M
 have G:∀x k,GQ (E2M DU1 GM).kindOf k->DUF (CCL):=λx k e =>
  DYT a1h e
 have mem:∀{x k},GQ scope.names.lookup k->(x,k)∈scope.names:=λe=>mem_of_lookup e;refine⟨⟨I.ok.mod,?_,I.ok.glob,I.ok.blt,?_,?_,?_,?_,I.ok.hd,I.ok.frames,NA,?_,I.bs,DS4,?_,?_,I.stack,I.stkFree⟩,rfl,I.bare,Un.kept keep,?_,?_,?_,?_,?_,I.hok.kept keep,?_⟩
 .exact D
 .exact Nat.le_succ _
 .-- inj
  refine GX b2Z B5W λx y c e e'=>I.ok.inj x y c (a1M e) (a1M e');exact Nat.lt_of_lt_of_le (jF M) AXP
 .-- has
  intro x t;refine GX a8X ?_;have f:DUF ((k'=.cell∨k'=.free)):=by
   rcases t with t|t
   rw[EUR (z.elim (λz=>EL z.symm) λz=>DP bB)]
   rw[EUR (z.elim (λz=>DP z.symm) λz=>by cases z.2)]
  obtain⟨k',e,rfl|rfl⟩:=f
  .exact tU mem e
  .obtain⟨a,ha⟩:=I.ok.has x (g _ (mem e) rfl);rw[kE ⟨a,b0T ha (mem e)⟩]
 .-- cab
  intro x c t e;rw[BW (jF d)]
  .exact Nat.le_trans AXP bB
  .-- x is the block's own cell, so it is not in the closure's part
   exfalso;rw[BX y T hyx List.any_eq_true.mp t];rw[D17 hyx];have e1:bN=x:=BP9 hyx.1;rw[SF e2 y.2 .cell hyx.2]
   have V:AE9 scope.names.lookup:=by rw[<-e1,<-e2];exact E y T
   rw[XW DRJ]
   .rw[eR z' (I.cell x c z)];rw[EV (E9X z'.lt ED) fE]
   .-- the closure holds free names alone
    have fr:EFB X.env DSM:=by
     intro names;induction names with
     |nil=>intro cs h;exact .inr h
     |cons n r U =>
      intro cs h;rw[D7D];rw[AM8 (U _ h)]
      rw[HF (KN w)]
      .rw[AT9 L6 w w]
       .rename_i f;split at w
        .rw[List.lookup_cons]at w;cases A:x==n.1 with
         |true =>
          have:n=(x,NameKind.free):=Prod.ext (D8K A) (BL f);rw[nW (A70 this)]
         |false=>rw[A]at w;rw[kE w]
        rw[HG w]
       rw[HG w]
    rw[AM8 (AH fr q)]
    .rw[AHJ (E _ w) V]
    .cases w
 .-- exf
  intro b A;rw[OU o (R b A)];have lt:=pK;rw[FT (AQ9 lt) (DS x c K)];rw[BW (d x c K)]
  .exact Nat.ne_of_gt (E9X lt bB)
  .exact dR (v9 B5P) x c z
 .-- noex
  intro b o e A;rcases aE ((B5P)) with z|z
  .exact aR I.ok.noex z
  rw[FJ (oC BY7 z) fE]
 .-- exfs
  intro b A z;rw[EG5 z q q]
  .exact(B5P).2.1 q
  .exact dR ((B5P)) q
 .-- loc
  rw[FY B0J ?_ (EPQ W)]
  .rw[QS ((Heap.Ns.new (s.heap.push lo) (LC "dict")).keeps (pushCells_keeps scope.names _)) Heap.size_push]
  .rw[BX j e4 e5 b6I e2];obtain⟨P,J⟩:=a7G C e1 e4;obtain⟨m,_,Q⟩:=I.loc;have f:=g _ (mem J) rfl;have S:AKK:=.inr (f.imp id id);rw[YJ r l (Q j x v P e5 S)];rw[FY u r (DP D70)]
   .obtain⟨k,q,z⟩:=DYT M6 J;rw[BW z]
    rw[HG (RZ z q)]
    rw[HF (RZ z.2 q)]
   .rcases l with l|⟨_,c,K,z⟩
    .exfalso;rcases f with f|f<;>rw[l.1]at f<;>cases f
    .rw[FY c ?_ (z.keeps keep)];have own:¬B45 scope.names:=λw=>by
      rw[AHJ (E _ w) J]
     rw[SI c' (a8X (x:=x) scope.names xN A5B (.inr ⟨c,b0T K (mem J)⟩))];rw[AM8 (d x c' q)]
     rw[FJ w.2 own]
     .rw[AX K w w];exact q
 .-- cell
  intro x c e;have e':E6H (BXN CKF).objs.size:=by
   rw[CM Heap.size_push Heap.size_push e]
  refine A1B a8o (E00 q) e';rw[EE6 (I.cell x' c' (a1M q)) D4D]
 .exact E01
 .intro x c e;rw[BW (jF d)]
  .exact I.hok.fresh (dZ AXP bB)
  .exact I.freeC x c z
 .intro p hp;cases hp
 .show IS B7 src σ=N.length;unfold B7;rw[BB List.length_map a7F C]
def Inv.unblock{d:VH}{C qP:qE}{fp:EI}{pins':DC}{σ':St}{H':Hp}{s':qC}{ys:AA}{us:AN}
  (I:AL) (y:BXR) (x:D0T C) (v:D0T qP) (m:qP≠C) (J:EJF (COZ s H fp) pins')
  (w:BQS qP) (A:D2 s'.heap.get? qP (BCM us.toArray)) (B:A7M) (D:kT) (l:Heap.SameBut C s'.heap h') :
  JK ED1 CSY:=by
 have base:BMC oO fp:=J.base;have kp:gT (IB C) D3J UQ:=v4 q l.extBut q;have a:ABQ (IB C/\IB qP):=ID o (by
  have:=pK;rw[AY (ECV x) (ECV v)])
 have g:BQS C:=J.free;have h:EC qP:=I.hok.fresh v;have j:ALF:=J.hok;have p:AQ4 ED1 h':=by
  intro b o e;rw[BM i b qP]
  .subst i;rw[FH A0];rw[EB D us n B (AK kp m A)]
  .rw[A4 i]at e;refine AGM j o (λc u k q=>kp c u ?_ q) (BK c q) λc xs q=>?_
   .rw[XH];rw[WR k k]
    .rw[FH g]
    .rw[AX g k k]
   .rw[AD (BEO w) q]
   .rw[AD (BEO w) q]
 have f:AKC (IB qP):=kK (by rw[XH];rw[FH h])
 refine KH (I.call' (s':=CSY) (ch:=fp) (J.os) ⟨EKH,EKH,DW b o e q t,ACX e t,DHB,DK9,C0I⟩ p J.bare) b l
 .exact kp b o CSV (EJJ base.keep)
 rw[EPV sl (EJJ base.slot) sl]
 .rw[AD (A4 (QD a).2) (base.free b o e q t)]
 rw[EPV o' (aR base.there t) o']
 rw[C1Y (base.tups b xs e)]
 rw[C1Y (UM base.frzs u)]
 rw[C1Y (BT3 base.tbls)]
 rw[CEG (y b l)]
set_option maxHeartbeats 4000000 in
def a7D{tg t E:Expr}{K:BN}{wi:TI}{tt:TT}{Q:VK}{RR:qB->qE->rV}(hc:DV)(hi:ALC t wi)
  (b7:A13) (b6:A99) (d3:A0R)
  (hg:DP1) (ht:wA PIf K tt) (he:DSI E)
  (I:AL) (h:sS (a7a src wi g tt) te)
  (b8:∀(s2 s4:qC) (H2 H4:Hp) (fp:EI) (a:VH) (pl:DC) (σ4:St) (ys:AA) (us:AN) (k:Nat),DYU->A3I (COV H2) ->
   Inv EMO pl σ4 H4 s4->EY H4 s2.heap.objs.size->BQG s4.heap.get? ASZ->A7M->kT ->
   NZ s2.heap.objs.size (EZ H4 s2.heap.objs.size ys)->RR AVE VO (.ok .next) s4) :
  ZY (QY t) (λx s₁=>pS (pyIter x) (λit s₂=>pS (newList []) (λqP s₃ =>
   pS (newFunctionEnv scope X.env.globals A5B [] X.env.qual none .none (AQ X.env)) (λP s₄ =>
    codeAny UA X.A (.compStart EMG 0 it qP {P with scope:=BC2 relabel}) (RR qP P.locals) s₄) s₃) s₂) s₁):=by
 refine EET d5;rw[F5S Y c3];have b9:pB (∃o,GP s2.heap.get?):=λb l=>(C88 c3 l).imp λ_ q=>ED;rw[cW wpAny_newObj_type b1b];have hB:=Y.block (lo:=BNC) f2 b9 b7 b6 d3;rw[EQY (AA6 s2 (s2.heap.push BNC)) VO];generalize G:BN4 (VO+1) A5B=a at hB⊢;generalize B:B8Q (s2.heap.push BNC).push=h4 at hB⊢;have a5:iL s2.heap.get? (GP h4.get?):=iP o (by
  rw[JP B (BT5 D4D)])
 have a9:D2 h4.get? s2.heap.objs.size (ANZ (.seq CK3 0)):=by
  rw[JP B (BT5 B0C)]
 have c4:tn 0 h4:=GX T.keep c3 λb _ o q=>a5 b o q;generalize f:EMO=j at hB;rw[kW eA j.A X.A]
 rw[kW eP j.prog X.prog]
 rw[kW ew j.w X.w]
 rw[kW eK j.K X.K]
 rw[XX ec (AW j.calm) f hc]
 rw[kW ee j.env (compEnvC scope a VO X.env)]
 rw[kW ex j.ex fp]
 rw[kW b0 j.pn []]
 rw[kW c8 j.s₀ s2]
 rw[kW a0 j.xe NoX]
 have eL:j.env.locals=VO:=by rw[ee];rfl
 have c7:j.fs=frs X.stack:=by rw[<-f];rfl
 have c2:=hB.ok;have cne:∀x c,cQ j.env.cells.lookup->c≠s2.heap.objs.size:=λx c q=>by
  rw[ee]at q;have q':cQ a.lookup:=q;rw[<-G]at q';rw[BW (GX a0g q')]
  .exact Nat.ne_of_gt (Nat.lt_of_lt_of_le (Nat.lt_succ_self _) (Nat.le_trans (Nat.le_succ _) bB))
  .rw[eR z' (Y.cell x c (a1M z))];exact Nat.ne_of_lt z'.lt
 have R:pB D53:=λb l=>by
  rw[SI o (b9 b l)];rw[DRQ q]
 have A:s2.heap.objs.size∉j.fs:=by
  rw[c7];intro z;rcases D0L (Y.stkSub _ z)with q|q
  rw[FJ Y.lt (AFB q Nat.lt_irrefl _)]
  .exact C1L Y.nofs q
 have w:∀{H':Hp}{pl:DC},AKM->DX p pl (CV=s2.heap.objs.size)->pB (a3W j pl H' b):=λ{H' pl} hn D b l=>by
  obtain⟨x1,x2⟩:=DZD c2.exf;refine⟨hn b l,x1,DZD c2.exfs,aG .inl ex l,x2,vT c0⟩;rw[b0,List.nil_append]at c0;rw[D p c0];exact(R b l).symm
 have c1:∀s5:qC,s5=AA6 s2 h4->codeAny UA X.A (.compLoop EMG 0 wG AVE j.env)
   (IR RR s2.heap.objs.size VO) s5:=by
  rintro s5 rfl;refine a8W (λn s'=>∃i H' ys us k,DOJ H' s'/\DE4/\AKM/\BQS s2.heap.objs.size /\
   BQG s'.heap.get? (CGE (us:AN).toArray)/\A7M/\W i n ys H') ?_ m0
   ⟨0,H2,[],[],0,hB,c4,λb l=>A41 f2 l,ZM Y.hok.fresh,a9,.nil,w0⟩
  rintro n s3 ⟨i,S,ys,us,k,I3,a6,a4,L,a8,r3,w3⟩;rcases turn i n ys S w3 with⟨stop,hz,qn⟩|⟨go,hz,Nn,hN,step⟩
  .rw[D03 (CY7 T.done ec i [] s3) I3 wT stop];rw[EYM (by
    rw[EXJ])]
   rw[F2A T.done stop];refine FC d r s4 ⟨hr,I4⟩;subst hr;have c6:=(E78 I4.pin List.mem_cons_self).1;rw[<-f]at I4;exact b8 s2 s4 H2 S fp a _ _ ys us k Y f2 I4 L c6 r3 hz (qn _ L)
  .rw[EYM (by
    rw[EXJ])]
   rw[F2A T.item go];refine FC d r s4 O;rw[YJ hr d0 O];subst hr;refine FC d0 _ s5 O;obtain⟨x,H5,I5,r5,y5,a7,c9⟩:=O;have c5:=I5.pinned (w c9 CVW) (AH T.obj a7);rw[XX d2 (PG j tg g) f (WQ hg)]
   rw[XX d4 (PIf j K tt) f (WQ ht)]
   rw[XX d1 (PE j E te) f (WQ he)]
   have a1:=EPD (d2 _ s5 _ H5) c5 H5;rw[CDI a1 a1 _ s6];obtain⟨σ6,H6,I6,sb,q6⟩:=O;have a2:=d4 _ s6 σ6 H6 _ I6 q6;rw[CDI a2 a2 ok s7];obtain⟨H7,I7,q7⟩:=O;have back:∀{U:Hp}{M:qC}{pl:DC},Inv j (CVM++a5z fp s5.heap) σ6 U M ->
     DOJ U M/\tn AO M.heap/\A3I (EY U b)/\EY U s2.heap.objs.size/\BQG M.heap.get? ASZ:=λ{U M pl} I8=>by
    have p0:=E78 I8.pin (XQ List.mem_cons_self);refine⟨(I8.pins_of (pins':=[]) λp D=>by cases D).weak sb.1 sb.2,C4I a7 l (B7S I8.pin E17).1,iU l,p0.2.1,p0.1⟩;obtain⟨o,e,_⟩:=C88 a7 l;exact(B7S I8.pin E17).2.1
   cases ok with
   |false =>
    rw[F38 w7 q7 I7];exact⟨m',hm,AO,H7,ys,us,k,b1,b2,b3,b4,b5,r3,w7⟩
   |true =>
    have a3:=d1 _ s7 σ6 H7 _ I7 q7;rw[CDI a3 a3 y M];obtain⟨vy,U,I8,ry,n8⟩:=O;rw[F38 w8 n8 I8];rw[ELH (LN b5) (PySem.list_append s2.heap.objs.size us.toArray k y (by rw[nU r3.length];exact a2s hz)) b5];rw[GL q (PySem.IsL.update b5 (λxs=>D5I)) (show us.toArray.push y=BQA DQV by simp) q];have nb:gT D53 (GP M.heap.get?) (GP (M.heap.update s2.heap.objs.size (Obj.mapSeq λxs=>D5I)).get?):=λb o l e =>
     nK (Heap.get?_update_other M.heap _ (Ne.symm l)) e
    refine⟨m',hm,AO,U,ys++[vy],DQV,_,?_,?_,b3,b4,q,DYQ r3.append ry,w8⟩
    .exact b1.turned nb b4 CVF (.inr (by rw[BFM c8])) cne λp D=>by rw[AX b0 D D]
    .exact C4I b2 l (UM nb (R b l))
 rw[GL m (c1 _ rfl) ee m];exact codeAny_compStart_list m (T.self _ 0 _ _ _ c4 m)
def a7h(a:A0R):scope.kind=.function/\EA2:=by
 unfold a8f at a;rw[Bool.and_eq_true]at a;rw[AY (BL QK) (λx b=>BL (List.all_eq_true.mp a.2 x b))]
def Inv.clos(I:AL)(a:A13):BC2 closureFor=pure A5B:=c2f λx d c=>by
 rw[ETU (List.all_eq_true.mp a x d) c b]
 rw[Bool.or_eq_true]at b;exact I.ok.has EN (ED7 b.imp)
def c3F{tg b e:Expr}{j:BN}{u:TI}{t:TT}(y:DV)(hi:ALC b u)
  (c:A13) (f:A99) (i:A0R)
  (A:DP1) (D:AOE a (PIf DAZ j t)) (z:DSI e)
  (hs:CBR:=by rw[gA]):DJ (BIP e b j) (B8X u t):=by
 rw[MZ];obtain⟨d,n⟩:=a7h i;rw[eval_ListComp];refine wpAny_comprehension_free (use:=none) rfl hs (I.clos c) d (DEW E B B n E) (a7D (RR:=CPM none BKL) y hi c f i A D z I h ?_);intro s2 L H2 J fp a K σ4 ys M k v f2 r p l G F q;rw[BPW o r.loc];rw[BA m o (λh' w=>ASG s2.heap.objs.size (Inv.unblock v f2 AZG BO A3V r p l G F w) q)]
def c3g{y:Str}{u r:Pos}{tg f j:Expr}{l:BN}{wi:TI}{tt:TT}
  (hN:X.N.Nodup) (hy:sN) (Y:sZ)
  (hc:DV) (hi:ALC f wi) (n:A13) (B:A99) (F:A0R)
  (hg:C73 PG tg g) (ht:C73 PIf l tt) (S:C73 PE j te)
  (W:ERV EMF ASH r.line:=by rfl) (hs:AUL (foldedSetIterable f X.env x):=by rw[gA])
  (hf:tE:=by rw[TV]) :
  PS X (.Assign [ASH] EMF r) (BNR (B8X wi tt)):=by
 rw[VU];rw[hX t T a7h F];rw[ZI exec_Assign_Name_used W];rw[AZ (cT wpAny_standAt wpAny_bind)];show KF X.A ((do let _ <-comprehension (.ListComp j [⟨tg,f,l,0⟩] scope pos) scope X.env _ (newList []) false (eval f X.env) (some (assign (.Name y u) X.env))));rw[AZ (gX (tH wpAny_comprehension_free use CNX (Q:=COI) hs (I.clos n) t (DEW Y hk hk T Y)
  (a7D (RR:=CPM CNX COI) hc hi n B F hg ht S I h ?_)) (λ_ s' hq=>AWP hq) _ _ e e)]
 intro s2 s4 H2 H4 fp d pl σ4 ys us k w f2 L Z M r4 hz q;rw[BPW V L.loc];have E:s4.heap.Ns VO m:=V;have O:EY H4 VO:=L.free;have J:=Inv.unblock w f2 AZG BO A3V L Z M r4 hz (BS Heap.SameBut.refl);have K:D19 VO:=CFM Nat.ne_of_gt w.lt;have G:C07 VO:=λx c e=>by
  rw[eR z (jF w.cell)];exact Nat.ne_of_lt (Nat.lt_succ_of_lt z.lt)
 rw[lX X.A (assign ASH X.env AVE) s4];refine wpAny_assign_Name (a7d (v:=AVE) J hN hy Y rfl (DS s' I' hb) hf);obtain⟨a,sb,P⟩:=hb;have A:VO≠a:=by
  rw[WR P P]
  .exact K
  .exact(AH G P).symm
 rw[FY m (E.sameBut sb A) (λh' R=>GT _ (KH (BI I'.turned t' s'.toks it VO (v4 U R.extBut U) ?_ K (DJC w.sz AZG) G) p hp) q)]
 .rw[AD (A4 DCH) O]
 .exact Nat.ne_of_lt (D1M Nat.lt_succ_of_lt (w.pin p hp).1)
noncomputable def SqAt(k:Bool)(h:Heap)(l:qE)(xs:CY):Prop:=CAF (h.IsTuple l xs) (h.IsList l xs)
noncomputable def ItAt(k:Bool)(h:Heap)(i l:qE)(n:Nat):Prop:=CAF (h.IsTupleIter i l n) (h.IsListIter i l n)
noncomputable def c7W:Bool->String|true => "tuple_iterator" | false => "list_iterator"
noncomputable def U9(k:Bool)(l:qE):Obj:=ANB (.type (c7W k)) (.fields BB8)
def ItAt.extBut{k:Bool}{h h':Heap}{i l b:qE}{n:Nat}(x:C2M)(hs:EIY)(a:i≠b):DKK:=by
 cases k
 rw[B6K Heap.IsListIter.extBut]
 rw[B6K Heap.IsTupleIter.extBut]
def ItAt.at{k:Bool}{h h':Heap}{i l:qE}{n:Nat}(x:C2M)(e:C7R i i):DKK:=by
 cases k
 .exact Heap.IsListIter.at x e
 .exact Heap.IsTupleIter.at x e
def ItAt.get{i:qE}(x:C2M):∃o,AEC i/\C36 #[HQ,AAH n]:=by
 cases k<;>obtain⟨o,e,c,d⟩:=x<;>exact(UV e d)
def SqAt.extBut{k:Bool}{h h':Heap}{l b:qE}{xs:CY}(x:C28)(hs:EIY)(a:l≠b):DK2:=by
 cases k
 rw[B6K Heap.IsList.extBut]
 rw[B6K Heap.IsTuple.extBut]
def SqAt.at{xs:CY}(x:C28)(e:C7R l l):DK2:=by
 rw[EWV (UV (e o q) r)]
def SqAt.get{xs:CY}(x:C28):∃o,AEC l:=by
 rw[EWV (jS q)]
def a4w{t:qE}{x:qB}(a:EDF)(f:E07)(g:BSW)
  (d:DNS (h'.IsTupleIter it t AO)):B5X:=by
 rw[EQZ b e (id a) h c f (DI6 a.typeIs
  (EPF a.typeIs))]
 rw[F1O (AMY hd II) (AMY hd CLU) c];simp only[Int.toNat_natCast,g];rw[AZ (wpAny_setField b hd AJ (y3 (EW x (y3 (d _ ?_ AJ2)))))];exact GT (yA b (Obj.isFreed_of_fields (Obj.data_mapFields hd _))) (rG Obj.cls_mapFields .. e) (by
  rw[Obj.data_mapFields hd];simp[rawInt])
def a5J{t:qE}(f:PH)(b:EDF)(h:E07)(j:BT9)
  (g:DV9) :
  B5X:=by
 rw[EQZ c k (id b) l d h (DI6 b.typeIs
  (EPF b.typeIs))]
 rw[F1O (ESQ II) (ESQ CLU) d];simp only[Int.toNat_natCast,j];rw[AZ (dS wpAny_rule (wpAny_setField c hd AJ ?_))];rw[AAP CB8];rw[D0H]
 first|rw[BLJ f]|rw[f]
 rw[AZ CUK];exact AK g CZX ATP
def a2J{x:qB}(a:B7Z)(c:A0H)(d:BSW)
  (b:DNS E7S):B5X:=by
 cases k
 .exact wpAny_nextOf_list_item a c d b
 .exact a4w a c d b
def a7U(c:PH)(a:B7Z)(d:A0H)(f:BT9)
  (b:DV9) :
  B5X:=by
 cases k
 .exact wpAny_nextOf_list_end c a d f b
 .exact a5J c a d f b
def O1(b:A0H)(a:vW (GI CBQ)):BYT l:=by
 cases k
 .exact wpAny_pyIter_list b a
 .exact wpAny_pyIter_tuple b a
def b6M{z TI TO g k:qE}{p:Nat}{xs ys:CY}{x y a b:qB}(D:ZipApart z TI TO f g k l)
  (hz:E5P) (u:DTB mQ AZC) (B:DOV)
  (h1:AG7 s.heap f k n) (h2:ItAt k2 s.heap g l p) (C:SqAt k1 s.heap k xs) (F:SqAt k2 s.heap l ys) (H:dP xs n) (I:IP ys p y)
  (G:∀h',CZM h' s.heap.objs.size->B2K h' TO->DUR h'->DUL h'->B2K h' s.heap.objs.size->DKV ->
   AXS B1O (CDK f g AWG)->vW RP) :
  F0V Builtin.«zip.__next__» z:=by
 rw[F5P u f];rw[F3H (a2J C84 (CTS C.extBut) H) B];rw[xJ (BRJ hTO₂ h₃ hTO₃ hs₃) hTO₃ (EIG h₃) hTO₃];rw[vB B2V BLD];rw[BM8 g];rw[AZ (a2J (EO4 hs₃.extBut D.TOi2.symm)
  (EWY F.extBut) I λh₄ h2₄ hs₄=>A63)]
 have hTO₄:EIG h₄:=AK hs₄.extBut D.TOi2 hTO₃;rw[AES hTO₄];rw[xJ (BRJ hTO₄ h₅ hTO₅ hs₅) hTO₅ (B2K h₅ TO) hTO₅];rw[OA wpAny_letGo AJU];rw[AES hTO₅];rw[E0B i h₅.objs.size (by rw[hs₅.1,hs₄.1,hs₃.1,hs₂.1,hs₁.1])]
 have hz₅:AUK h₅:=aC hs₅.extBut D.TOz.symm hs₄.extBut D.i2z.symm (aC hs₃.extBut D.TOz.symm hs₂.extBut D.i1z.symm hz₁);have hk₅:∀c o,B1O->CDK f g D91:=λc o h m r t e =>
  EKR m hs₄.extBut t m r h e
 have h1₅:DUR h₅:=ABM (ABM h1₂.extBut hs₃.extBut D.TOi1.symm) hs₄.extBut D.i12 hs₅.extBut D.TOi1.symm;have h2₅:DUL h₅:=h2₄.extBut hs₅.extBut D.TOi2.symm;have d:z<h₅.objs.size:=Heap.lt_size hz₅;rw[AAP (IR Builtin.SmallTypes.ownedTupleHandOut z (AM h₅.objs.size))];rw[OR];unfold Builtin.SmallTypes.ownedTupleHandOut;have hz₆:AUK (oU h₅.push #[x,y]):=OB hz₅;rw[xJ (A6K hz₆ h₇ hz₇ hs₇ ?_) hz₇ (DVG h₇) hz₇];refine A6K hz₇ h₈ hz₈ hs₈ ?_;replace hz₈:DVG h₈:=hz₈;have q:BOH B1O D91 h₈.get?:=λc o h e=>E20 h h WZ;have hT₈:B2K h₈ h₅.objs.size:=E20 D74 D74 JV;have j:h₈.objs.size=h₅.objs.size+1:=by rw[hs₈.1,hs₇.1,Heap.size_push]
 rw[i]at hz₈ hT₈ j;rw[RT A47];show NZ h₅.objs.size _;rw[AD i (G h₈ hz₈ (AK q D.TOz hTO₅) (EIW h1₅.at D.i1z) (EIW h2₅.at D.i2z) hT₈ j λc o h m r t e=>q c o h (hk₅ c o h m r t e))]
def c2z{z TI TO m v y:qE}{B C:Nat}{xs ys:CY}{a b:qB}{Q:BSV}(H:PH)(D:ZipApart z TI TO l m v y)
  (hz:E5P) (p:DTB HQ (AM m)) (q:DOV)
  (h1:AG7 s.heap l v B) (h2:ItAt k2 s.heap m y C) (k:SqAt k1 s.heap v xs) (t:SqAt k2 s.heap y ys) (j:MQ DF2∨MQ DX1)
  (G:CYK (AXS B1O (CDK l m AWG))) :
  EE (BM3 Builtin.«zip.__next__» z):=by
 rw[F5P p l];cases u:DF2 with
 |none =>
  rw[AZ (a7U H C84 DT1 u (BT h₂ e hs₂ r))];rw[F0O hz₂ h₂ (AK hs₂ D.i1z.symm hz₁) hz₂]
  refine A6K hz₂ h₃ _ hs₃ (EZ0 h₃ _ _ (AK hs₃.extBut i (aC hs₂ n hs₁.extBut i x)) hs₃.extBut)
 |some x =>
  have K:DX1=none:=by rcases j with h|h;rw[AX u h h];exact h
  rw[F3H (a2J C84 DT1 u) q];rw[vB (BRJ hTO₂ h₃ hTO₃ hs₃) B2V];rw[AZ BLD];rw[BM8 m];rw[AZ (a7U H (EO4 hs₃.extBut D.TOi2.symm)
   (EWY t.extBut) K (BT h₄ e hs₄ r))]
  rw[F0O hz₄ h₄ (AK hs₄ D.i2z.symm (aC hs₃.extBut D.TOz.symm hs₂.extBut D.i1z.symm hz₁)) hz₄]
  refine A6K hz₄ h₅ _ hs₅ (EZ0 h₅ I J (EKR i hs₄ J I n i x) hs₅.extBut)
noncomputable abbrev zH1(k1:Bool)(h:Heap)(l1:qE):Heap:=h.push (U9 k1 l1)
noncomputable abbrev zH2(k1 k2:Bool)(h:Heap)(l1 l2:qE):Heap:=(zH1 k1 h l1).push (U9 k2 l2)
noncomputable abbrev zH3(k1 k2:Bool)(h:Heap)(l1 l2:qE):Heap:=oU (C2Q zH2) #[AM h.objs.size,AM (CUU h l1)]
noncomputable abbrev zH4(k1 k2:Bool)(h:Heap)(l1 l2:qE):Heap:=oU (C2Q zH3) #[.none,.none]
noncomputable abbrev zH5(k1 k2:Bool)(h:Heap)(l1 l2:qE):Heap:=APG (C2Q zH4) "zip" #[.none,AQU,AQU,DY4 zH2,DY4 zH3]
def c2x(a b:qE)(xs ys:CY) :
  A6F Builtin.«zip.__new__» (JY [LC "zip",CC,F0]) (DUW/\EVN /\
   AGF (BDH zH4) (GI (zH5 k1 k2 s.heap a b))) :=
 (tG (by
  rw[cJ k];rw[rC i j h];have l:=sub_zip;have c:CWX (Shared.heap (AOV k)):=i;have f:EHG k2 (k.push (U9 k1 a)) b ys:=SH j.at WZ
  wp_walk using O1 c,O1 f
  rw[sA]))
def b6N{xs ys:CY}(e:DUW)(f:EVN)
  (h:∀h',IsZip h' BZ0 xN BYZ .none->IsPair h' xN hQ D1W ->
   IsPair h' BYZ .none .none->AG7 h' s.heap.objs.size a 0->ItAt k2 h' GM b 0->BIY (AR0 5) ->
   E9D->BRT BZ0) :
  EE (mX call "zip" [CC,F0]):=by
 refine callType_new F.called_zip AI (BS F.typeCall_zip_2) (BS F.newCall_zip_2) (λg=>F.args_object_init_3 g _ _) F.entry_zip_new
  (c2x (k1:=k1) (k2:=k2) a b xs ys) (y6 e f)
 have i:EEM=GM:=BKF;rw[B78 j zH2 xN i]
 rw[B78 k zH3 BYZ j]
 rw[B78 l zH4 BZ0 k]
 rw[B78 q zH5 (AR0 5) l]
 have d:C98 zH4:=JV;have p:C98 zH3:=B0C;have n:C98 zH2:=BWM;have m:D2 BIE EEM (U9 k2 b):=OB BWM;have g1:A3N BIE (U9 k1 a):=nQ BWM;show _/\_;rw[j,k,l]at d;rw[i,j]at n;rw[k]at p;rw[i]at m;rw[l];rw[FT (LN d) (h _ d n p ?_ ?_ q λc o x =>
  OB (nQ (nQ x)))]
 .rw[BQ4 k1 g1]
 .rw[BQ4 k2 m]
noncomputable def SqK(k:Bool)(K:qF)(H:Hp)(a:qE)(xs:AA):Prop:=CAF cE fU
def Inv.sqk(I:AL)(h:C4Q):CX9 (SqAt k s.heap a its.toArray):=by
 cases k
 rw[ELN D3W p.isList]
 rw[ELN D3X p]
def Inv.sqk_inj{ys:AA}(I:AL)(h:C4Q)(h':CP7 ys):B3Z:=by
 cases k
 .exact I.list_inj h h'
 .exact I.tuple_inj h h'
noncomputable def Itz(K:qF)(k1 k2:Bool)(a b:qE):It :=
 ⟨λi H=>∃xs ys x y,AKW/\C2L/\aT/\BWX,
  AGW v (∃p x y,BVI/\RE/\H'=AEO BLI/\(∀xs,AKW->aT)/\∀ys,C2L->BWX),
  λi H=>∃xs ys,AKW/\C2L/\(BGU∨ATQ)⟩
structure ZTurn(k1 k2:Bool)(z TI TO i1 i2 a b:qE)(i:Nat)(f0:qB)(h:Heap):Prop where
 zz:BCU h f0
 ti:IsPair h TI (AM i1) (AM i2)
 to:∃u v,IsPair h TO u v
 t1:AG7 h i1 a i
 t2:ItAt k2 h i2 b i
structure ZNe(z TI TO i1 i2:qE):Prop where
 TIz:TI≠z
 TOz:TO≠z
 i1z:i1≠z
 i2z:i2≠z
 TITO:TI≠TO
 TIi1:TI≠i1
 TIi2:TI≠i2
 TOi1:TO≠i1
 TOi2:TO≠i2
 i12:i1≠i2
def Inv.turnedT{ch:EI}{p:qE}{o:HO}(I:AL)(h:DJO)(hp:s.heap.objs.size=p)(k:DC8)
  (new:B62 (uG p) h' p o):JK (uG p) RP:=by
 have l:RE:=D1L Nat.le_of_eq hp;have f:AKC wU:=EC1 h
 have a:AKC nC:=DPH l
 have i:AP8 s.heap.get? nC:=kK (by
  rw[JP hp BNJ])
 refine EVL (AF8 d _ (UM k d)) (AF8 d _ (BJ6 (UM k d))) (IH (AED i) n)
  (QC o d (jS (UM k d))) (AG0 DMQ) (QC u v DMQ) (ID ps (C0V (A4 CTU) e)) (A42 m) (kK ?_) I.bare
 rw[CEG (h b g)]
 .rw[wF es ep ho r j];rw[CD6 (λz=>(h _ z).2.1 rfl)]
 .rw[BM g b p]
  .rw[BPS g];exact new
  .rw[A4 g]at e;refine AGM I.hok u (λc v d q=>BO8 q) (λc q=>EK1) λc xs q=>EK1
   rw[BW d]
   .rw[AD z (AED f)]
   .exact f c _ z
def Inv.turnedL{ch:EI}(I:AL)(f:DJO)(k:DC8):AVN:=by
 have d:AKC wU:=EC1 f
 refine EVL (DO4 a) (DO5 a) n
  (DRN a) (AG0 e) (QC u v e) (ID ps (C0U e)) (AHM h) (kK ?_) I.bare
 rw[CEG (f b g)]
 .rw[QG o es ep ho r];rw[CD6 (DQU f)]
 .rw[EQ8 (λc q=>q) c xs]
  .rw[AD z (AED d)]
  .exact d c _ z
def Inv.apart{o:Obj}(I:AL)(hs:C4Q)(h:ARY):AKG:=by
 rw[XH];have c:∀{u:HO},C6K->False:=λr=>by
  rcases r with r|⟨o,r⟩<;>rw[DE]at r<;>cases r
 have d:∀{f:Obj},PY X.K.lookup f->False:=λe=>by
  have g:=I.mod.kin a _ e;rw[BW D8Q]
  .exact AK I.ok.noex g z
  rw[FJ (oC (AH I.ok.bs g).1 z) fE]
 cases k
 .rw[ER0]
  .exact c r
  .exact d e
 .rw[ER0]
  .exact c r
  .exact d e
def b6U{kt:Nat}{tp:Pos}{z TI TO g j:qE}(D:ZNe z TI TO g j) :
  Turn P w K (AU8 kt tp) pH A4G z (A3P (ZTurn k1 k2 z TI TO g j a b i .none h)) where
 mem:=AJ
 obj:=AM2 c (by
  rw[CDO f f]
  .exact FP st.zz AGE
  .exact FP st.ti AGE
  .rw[YJ v q st.to];exact FP q AGE
  rw[CD9 st.t1.get]
  rw[CD9 st.t2.get])
 keep:=xZ k ⟨AKJ z st.zz,AKJ TI st.ti,jR u v q st.to u v (AKJ TO q),BNH st.t1.at g,BNH st.t2.at j⟩
 item:=by
  rw[F1F];obtain⟨xs,ys,x,y,m,n,hx,hy⟩:=N;rw[F3W];rw[BX u hu Y W.get hx];rw[BX v hv Z B.get hy];rw[F5W (E88
   (wpAny_call_entry F.slot_zip_next C F.entry_zip_next
    (BI (b6M J st.zz st.ti p st.t1 st.t2 U V) x u y v (BL hu) (BL hv) λh' a1 a2 a3 a4 a5 a6 a7=>A63) (F.args_zip_next_1 _)))]
  rw[A79];refine wpAny_letOwnedTupleGo_zip (s:=RP) a1 λh2 R l=>?_;have ne:A4I A4G D82:=λc f e=>by
   have:∃o,A3R:=by
    rw[CDO f f]
    .rw[RW st.zz]
    .rw[RW st.ti]
    .rw[RW p]
    rw[C4E st.t1.get]
    rw[C4E st.t2.get]
   rw[SI o this];exact B2M q (B4M e)
  have t:yO:=aY;have S:IsPair h2 s.heap.objs.size u v:=BQV (ne z AJ).symm a5;have kk:EO8 A4G:=λc o f e=>by
   rw[AYD f];exact AK l.extBut jQ (EVO a7)
  have I2:E9S BLI :=
   I.turnedT (ch:=A4G) r rfl kk (EQK [u,v] Y Z S)
  refine⟨hQ,_,I2,rfl,aB _ x y t rfl DQR DQR,⟨R,BQV D.TIz (AK a7 D.TIz D.TITO D.TIi1 D.TIi2 st.ti),AYV v (BQV D.TOz a2),a3.extBut l.extBut D.i1z,a4.extBut l.extBut D.i2z⟩,C3G⟩
  .rw[AD (I.sqk_inj O m) hx]
  .rw[AD (I.sqk_inj O n) hy]
  .rw[A4 (ne c f)];exact(CJU).1
 done:=by
  rw[F1F];obtain⟨xs,ys,m,n,G⟩:=N;rw[F3W];rw[AE l1 W.length l2 B.length];rw[F5W (E88
   (nR F.slot_zip_next C F.entry_zip_next (c2z D7I J st.zz st.ti p st.t1 st.t2 U V ?_ (BT h' e hk he)) F.args_zip_next_1))]
  .rw[XW G]
   rw[HF (E73 l1)]
   rw[HG (E73 l2)]
  .rw[EY0 he (DYS A4G r (BT c o f e))];exact EVO hk
 self:=F18 (wpAny_pyIter_zip st.zz h)
def nne{a b:Nat}(h:AKG):@Ne qE a b:=h
def zne(n:Nat):ZNe (n+4) (n+2) (n+3) n CS :=
 ⟨fV 0x6834d53b5dd77a5,fV 0x6834d53b5ddcd65,fV 21378635573765,fV 598601796065141,fV 0x6834d50919fb7a5,fV 0x9d2ad3f27a5,fV 302412516722597,fV 0x9d2ad3f7d65,fV 302412516744549,fV 27269009349⟩
inductive iZipI(K:qF)(R:fH)(vs:AA)(H1:Hp):Prop
 |mk (k1 k2 a b:_) (_:DGL) (_:EV4 k1) (_:(∃ys,SqK k2 K H1 b ys)) (_:R pH H1):DOE iZipI
noncomputable def c8b(K:qF)(ta:TA):TI:=E8C iZipI
def c6J{u:Nat}{A:Pos}{a b:Expr}{ta:TA}{p:Pos}(m:BSX)(n:BU8)(l:DTD)(i:E5H)
  (hs:CAT:=by rfl) (g:C8O:=by rfl) :
  C9K PI u A (c8b X.K ta):=by
 rw[AW4];refine Call_ (a2t I m n i (PyProof.Rows.callWith_type1 (BU0 l B (RU vs d y x)) (KA hs g) (by rw[g];rfl)));obtain⟨k1,k2,J,K,e,⟨xs,o⟩,⟨ys,t⟩,q⟩:=x;rw[CK];cases y with
 |cons r rr =>
  cases rr with
  |cons r' rr =>
   cases rr;cases r;cases r';rw[DR B L v N d.sqk o];rw[DR ws z w O d.sqk t];refine b6N v w λh' k C D E F M G=>?_;refine wpAny_pyIter_zip (s:=AA6 s1 h') k ?_;refine⟨BPD 4,[BPD 4,s1.heap.objs.size+2,BPD 3,s1.heap.objs.size,BQD],_,_,H1,rfl,DDH s1.toks G,b6U (zne _),
    ⟨k,C,FP _ D,E,F⟩,A42 c,q⟩
   have f:s1.heap.objs.size<=c:=by
    rw[CDO j j]
    rw[AHP]
    rw[AHP]
    rw[AHP]
    rw[DGA]
    rw[AHP]
   exact d.fpOk f (d.hok.fresh f)
def a4V{I:qE}(b:PH)(a:l≠I) :
  cS Walks A I [I,l] [I] items.size (λi v=>CLX) (A3P (A2O h I i/\DAN h)):=by
 cases k
 .exact Walks.list b I l a items
 .exact Walks.tuple b I l a items
noncomputable def trV:B3K
 |bX=>b
 |SX=>DG2
 |.non=>false
 |_=>true
noncomputable def c1R:B3K
 |dO=>true
 |YL=>true
 |.non=>true
 |_=>false
def a9v{x:V}{v:qB}{Q:fM}(r:bG)(f:DY c1R x)(h:Q (trV x) s):EE (truthy v):=by
 cases x with
 |non=>cases r;exact truthy_none h
 |bl b=>cases r;exact wpAny_truthy_bool h
 |int i=>rw[HN r];exact PySem.P.truthy_int h
 |_=>cases f
def b5l{α:Type}(xs:CL)(p:DCQ)(d:α):AFU xs.length all (λi=>p (xs.getD i d))=xs.all p:=by
 rw[Bool.eq_iff_iff,List.all_eq_true,List.all_eq_true];constructor
 .intro h x hx;rw[AF5 hx];have:=h i (List.mem_range.mpr hi);rw[BQ5 hi this]
 .intro h i hi;have a:=List.mem_range.mp hi;rw[BQ5 a (h AQO (List.getElem_mem a))]
def b3U(xs:qI):∀n,n<=xs.length->preSum (λi=>ARI) n=(xs.take n).sum
 |0,_=>IF preSum
 |CS,h=>by
  have this:AHL n xs[n]:=OG (A4N b2k);rw[wH e (xs.take CS=xs.take n++[xs[n]]) List.take_add_one this]
  rw[preSum,b3U xs n (A4N a3D),e,List.sum_append];rw[BJ5 this]
noncomputable abbrev RL:=AKX
inductive rAll(K:qF)(xs:AA)(H:Hp)(Q:VK):Prop
 |mk (k:Bool) (p:qE) (ys:AA) (_:sF) (_:E31 ys) (_:DY ys.all c1R) (_:Q (.bl (ys.all trV)) H):lP rAll
inductive rSum(K:qF)(xs:AA)(H:Hp)(Q:VK):Prop
 |mk (k:Bool) (p:qE) (ns:qI) (_:sF) (_:C47 p) (_:QM ns.sum):lP rSum
def b2M(h:A0H):E3N CBQ/\DAN CBQ:=by
 rw[FT ?_ (SH h.at WZ)];cases k<;>exact AQS
def a5V(h:A0H):DIU:=by
 rw[OU o h.get];rw[DRQ e]
def a5X{c:Obj}(a:gT (b∉[s.heap.objs.size]) (GP (A9I c get?)) UQ):ABQ UQ:=λb o e =>
 a b o (λz=>by rw[MR pK SN];rw[BWD this]) WZ
def c2j(g:DV):BVT "all" rAll:=by
 rw[kB w];rw[VN k p ys rfl hs j q];rw[T6 o r.one o];rw[RK c d t I.sqk hs];rw[C1Q m D61];refine call_all_walk (O1 d ?_);refine⟨s.heap.objs.size,_,_,_,_,_,EP8,rfl,E8M m,b2M d,?_,DS h' tk n⟩
 .intro i v s' Q' E' hv hq;rw[MA b AJ6 hv]
  obtain⟨hi,_⟩:=D3Q;rw[ER a D39 c.length hi]
  have f:CB ys ys[i]:=AE5;rw[BX x e1 e2 c.get f];rw[AGS b];refine a9v e2 (C78 j a) ?_;rw[BQ5 f hq]
 .have e:AFU its.toArray.size all EP8=ys.all trV:=by
   rw[nU c.length];exact b5l ys trV .non
  rw[e];exact GJ dO H (I.kept (a5X n)) q
def c2h(m:DV):BVT "sum" rSum:=by
 rw[nF A y];obtain⟨k,p,ns,rfl,hs,q⟩:=h;rw[T6 x y.one x];rw[RK j d z I.sqk hs];rw[B1A c j.length c];rw[C1Q n (I.ok.hd m)];refine call_sum_walkG (O1 d ?_);refine⟨s.heap.objs.size,_,_,_,_,_,B27,rfl,E8M n,b2M d,CSJ,?_,BT h' tk t' r⟩
 .rw[AS0];rw[OU o d.get];have f:=pK;rw[AJV g g]
  rw[DGB]
  rw[BRN f]
 .intro i v hv;rw[MA a AJ6 hv]
  rw[EOK D2T w BT1]
  rw[DR B e1 t e2 j.get w];rw[AGS a];rw[AY t (by rw[e2];show _=E2E;rw[D4X BT1])]
 .have e:preSum B27 its.toArray.size=ns.sum:=by
   rw[List.size_toArray,<-c,b3U ns _ (Nat.le_refl _),List.take_length]
  rw[e];exact⟨BQ ns.sum,H,I.kept (a5X r),IC t',q⟩
inductive rIsi(K:qF)(xs:AA)(H:Hp)(Q:VK):Prop
 |mk (x n t b:_) (_:xs=[x,.ty n]) (_:BBC x t) (_:PySem.W.kitOne K t (.type n)=some b) (_:ACQ b):lP rIsi
def c2i:BVT "isinstance" rIsi:=by
 rw[nF f d];obtain⟨x,n,t,b,rfl,ty,e,q⟩:=h;obtain⟨u,v,rfl,c,a⟩:=d.two;cases a;exact b5Y I c ty e λtk=>GJ bX H DVQ q
def a9e:lH "len" "len":=boot_len
def c8q:E5H:=LW
def c8t:lH "all" "all":=LW
def c8r:lH "sum" "sum":=LW
def c2o:lH "min" "min":=LW
def c8s:lH "max" "max":=LW
def c8u:lH "abs" "abs":=LW
def a6V:lH "isinstance" "isinstance":=LW
def a3T:lH "sorted" "sorted":=LW
def b0Z:qY "tuple" "tuple":=LW
def c5c:qY "list" "list":=LW
def c2p:qY "int" "int":=LW
def b3g:qY "str" "str":=LW
def c2n:qY "set" "set":=LW
def a3h{f:TT}{Q:VK}{J:It}(n:Nat)(c:yT)(h0:B5J)
  (hs:C2B A57 (ECP (BDV J.yld iQ (BO2 f d d h h d))))
  (hd:∀ys H,c n ys H->J.stop n H/\kT/\ARM):A17 f J:=by
 rw[AV9 ys n B15 A57 ⟨n,KP 0x1152889b3be69c205,F1,h0⟩ ys];rw[fD LR]
 .obtain⟨q1,q2,q3⟩:=hs i ys H a p;rw[kE ⟨q1,q2,AC7,λzs H' p'=>ENT,q3⟩]
 .have e:i=n:= ~~~a5Q hi a
  rw[CK];rw[nW AV3]
def b2Y{h:TT}{Q:VK}{lo:Int}(f:BQZ)(a:yT)(h0:DIB)
  (d:CDV)
  (hs:C2B AUU (BNB BR3 λσ2 H2=>EL1 c c (a AO ys c)))
  (hd:E85):A17 h DJM :=
 a3h n a h0 (F14 d x (by rw[EYH ys hi]))
  (EME d n)
def a0f{l:TT}{Q:VK}(j:bH)(c:yT)(h0:B5J)
  (k:EMA fU)
  (hs:F30)
  (hd:DU0):A17 l AJN :=
 DV5 (by
   rw[F1H])
  (AXR (by
   rw[F1I]))
def O6{l:TT}{Q:VK}(j:bH)(c:yT)(h0:B5J)
  (k:EMA cE)
  (hs:F30)
  (hd:DU0):A17 l AEN :=
 DV5 (by
   rw[F1H])
  (AXR (by
   rw[F1I]))
def V3{o:TT}{Q:VK}{zs:AA}(m:bH)(c:yT)(h0:B5J)
  (n:ET7 ys A57 (AKW/\DKJ/\ATQ))
  (hs:EZZ ys A57 (C79 iQ [x,z] (BO2 o l l q q l)))
  (hd:BMD c A0G):A17 o pH :=
 CXV A0G (by
   have d:AHX:= eM b4b
   have f:BRC:= eM b2F
   obtain⟨h,j,k⟩:=n i ys H (v7 a2s) (~~~a2s f) p;rw[FY (F1Q BT0) (~~~a5P m d k) BDS];obtain⟨s,x',w,e,e2,r,t,u⟩:=y;subst e r;exact hs i x' w ys _ s (t xs h) (u zs j) p e2)
  (AXR (by
   rw[OP h j k (n _ ys H (~~~c0L) (KP 755788541398) p) EWR (AU 0x46f57ec0d2abf3601d8 m k) AV3]))
def c4T{zs:AA}{tb:TS}{D:Ends}(d:A7A)(h0:XG d 0)
  (n:ET7 σ C24 (AKW/\DKJ))
  (hs:EZZ σ C24 (C79 σ [x,z] (APU BUT BUT))) (hd:AU2 (XG d A0G) A30) :
  AM6 (A8C ->
   ((pH).stop i H/\A30)∨((pH).go i H/\BEZ (∃k,k<m/\W AO k σ' H') (CIC (pH).yld))):=by
 rw[AV9 σ A0G (i<=A0G) C24 E2C σ];obtain⟨h,j⟩:=n i σ H (A76 0x5a832d73fad617) (A76 0x9e5f55a77589617) p;rw[UX c A0G]
 .have hi1:AHX:= ~~~b4b c
  have f:BRC:= ~~~b2F c
  rw[AY6 (F1Q (OG hi1)) BUT (US _ AF c p')];obtain⟨o,x',s,e,e2,l,q,r⟩:=y;subst e l;exact hs i x' s σ _ o (q xs h) (r zs j) p e2
 .have e:i=A0G:= AU 0x1a9197ba402b729ae8eff89ea320374cdd8f3b80fd3f88b05512fb9b54fefa5b80b6d7e1a89db6f8823dd617 hi c
  rw[AN4 EWR]
structure Ok(P:qG)(w:World)(K:qF)(mg:BJ)(base:Heap)(x:Str)(k:Nat)(ps:AC)(sp:Sp):Prop where
 ex:EF9 C2N
structure FunAt(K:qF)(mg:BJ)(x:Str)(st:Stmt)(ps:AC):Prop where
 ex:∃f fd,CTX/\BI1 x fd/\rA
section
variable {mg:BJ}{base:Heap}
def FunAt.ok{x:Str}{st:Stmt}{N ps:AC}{k:Nat}{sp:Sp}(F:AMZ)(S:A12)(len:lR)
  (b:ANA x (dM ->
   DGP E8N)):ERH:=by
 rw[AMV c F.ex];rw[GZ f fd h1 h2.kp c (E54 h2.ok)]
#where
section
variable {k:Nat}{sp:Sp}{p:Pos}{e:Expr}{t:TA}
def b8g(O:DFR)(j:QU)(i:JC)(g:YV)(a:FK:=by decide)
  (h:CI:=by rfl) (b:HV:=by rfl):AXI EUJ:=by
 obtain⟨f,fd,h1,h2,c,d⟩:=O.ex;exact b3Y d j i h1 h2 c .nil a9Y g a h b
#where
inductive EqV(K:qF)(H:Hp):Nat->V->EK V Bool
 |flat {n:Nat}{x y:V}(fx:sH) (fy:A7X):BME AWB
 |tup {n:Nat}{a b:qE}{xs ys:AA}(e:fL) (ha:cE) (hb:DHU) (he:EOD) :
   EYT
 |lst {n:Nat}{a b:qE}{xs ys:AA}(e:fL) (ha:fU) (hb:ABC b ys) (he:EOD) :
   EYT
def b0M:∀{x:V},sH->AW (eqV x x)
 |.non,_=>rfl
 |bX,_=>beq_self_eq_true b
 |SX,_=>beq_self_eq_true i
 |BSO,_=>beq_self_eq_true y
 |BQM,h=>VW
 |.flt _,h=>VW
 |AM _,h=>VW
 |.ty _,h=>VW
def EqV.same{x y:V}{b:Bool}(I:AL)(h:F0R):x=y->vQ:=by
 induction h with
 |flat fx fy=>rw[XH];exact b0M fx
 |tup e c d g f =>
  rw[F5D I.tuple_inj]
 |lst e c d g f =>
  rw[F5D I.list_inj]
def G5{us:AN}{j:Nat}{u:qB}(r:aZ)(h:GU us u):∃x,BH9/\bS:=by
 obtain⟨b,_⟩:=D3U;rw[ER hj' kY r.length b]
 have a:GU xs xs[j]:=OG hj';rw[bC e q D2X];rw[FH h];exact FP a q
def EqV.at{n:Nat}{x y:V}{b:Bool}(I:AL)(h:F0R):∀{A:Around}{u v:qB},gM A.units n->bS->DR4->CA0 b:=by
 induction h with
 |flat fx fy=>intro A u v _ l m;exact c1V l m fx fy
 |@tup n a b xs ys e g i q r =>
  rw[F29]
  rw[F3I EqV.tup]
  .rw[F0X D60 D4M];have:=AV2 SeqAt.RcAt.tuples A (BHV us.toArray p1) (show s.heap.IsTuple b ws.toArray from p2) BZT AUX
   .rw[mT]
   .rw[E8E]
    rw[A9A d]
    rw[F5G]
 |@lst n a b xs ys e g i q r =>
  rw[F29]
  rw[F3I EqV.lst]
  .rw[F0X D5Z (I.list i)];rw[BM o us.length ws.length]
   .have:=AV2 SeqAt.RcAt.lists A p1.isList p2.isList (BL o) BZT AUX
    .rw[A5O o]
    .rw[E8E]
     rw[A9A d]
     rw[F5G]
   .rw[CDE SeqAt.RcAt.lists_lengths A o BZT z us.length o]
    rw[B0D z this]
inductive rEqD(K:qF)(neg:Bool)(x:V)(y:V)(H:Hp)(Q:VK):Prop
 |mk (n b:_) (_:n<=50) (_:BME b) (_:(∃a c,IW/\ABB c)) (_:DEB (! b) b):ELU rEqD
def c7i(i:GG):BUY (rEqD X.K false):=by
 rw[F5K .Eq SeqAt.RcAt b (by
  cases g with
  |flat fx fy=>cases fx
  |@tup n _ _ xs ys e t w g =>
   rw[F1P SeqAt.RcAt.tuples]
   .rw[mT]
   .rw[B82]
    rw[A9A f]
    rw[B9X]
  |@lst n _ _ xs ys e t w g =>
   rw[EYY]
   .rw[EQB SeqAt.RcAt.lists]
    .rw[A5O p]
    .rw[B82]
     rw[A9A f]
     rw[B9X]
   .rw[CDE SeqAt.RcAt.lists_lengths X.A p AU9 B d.length p]
    rw[B0D B this])]
 exact ZI key BZK
def c7d(i:GG):BUZ (rEqD X.K true):=by
 rw[F5K .NotEq SeqAt.RcNeAt (! b) (by
  cases g with
  |flat fx fy=>cases fx
  |@tup n _ _ xs ys e t w g =>
   rw[F1P SeqAt.RcNeAt.tuples]
   .rw[mT]
   .rw[B82]
    rw[A9A f]
    rw[B9X]
  |@lst n _ _ xs ys e t w g =>
   rw[EYY]
   .rw[EQB SeqAt.RcNeAt.lists]
    .rw[A5O p]
    .rw[B82]
     rw[A9A f]
     rw[B9X]
   .rw[CDE SeqAt.RcNeAt.lists_lengths X.A p AU9 B d.length p]
    rw[B0D B this])]
 exact ZI key BZK
def c5f{ns ms:qI}:F2R B7I:=by
 rw[F15]
 .rw[C5C];rw[EIN h2 a b h1 (~~~c0M h2 a)];simpa[List.getD_eq_getElem?_getD,a,b]using this
 rw[E2K]
def c1F{ns:qI}{j:Nat}{x:V}(h:DNB):ARG BTZ/\j<ns.length:=by
 rw[BU7];cases e:BFB with
 |none=>rw[AMK]
 |some z =>
  rw[e]at h;obtain⟨a,_⟩:=List.getElem?_eq_some_iff.mp e;rw[AY (by rw[List.getD_eq_getElem?_getD,e];exact AG9 h) a]
def EqV.ints{ns ms:qI}(c:C47 a)(d:AU6 k b ms.map):EBP:=by
 have step:∀j x y,DNB->GU ((D68)) y->ASK 0 x B7I:=λj x y e f=>by
  obtain⟨rfl,_⟩:=c1F e;obtain⟨rfl,_⟩:=c1F f;rw[QS (EXD (CK9 ns.getD) CUB) (BGD (eY (eqV (.int BTZ) CUB) (ABU ns.getD ms.getD)))]
 rw[<-c5f];cases k
 rw[B8H EqV.lst B7I]
 rw[B8H EqV.tup B7I]
def c1L:AKN c8z rIxL:=by
 rw[NH m n];obtain⟨p,xs,i,z,rfl,rfl,l,k,q⟩:=h;rw[A6P m n];rw[A85 f B l];rw[C4P o d g (a4S k) c b];rw[CDJ e A b];rw[fD B08]
 .have hj:i.toNat=j:=by
   rw[C6R g]
  exact wpAny_getItem_list f.isList a AF ECB fin
 .have hj:BXQ i=j:=by
   rw[C6Q (seqIndex_neg A64 d) e]
  exact wpAny_getItem_list_neg f.isList A64 (C50 (b9Z d e)) AF ECB fin
inductive rPlusT(x:V)(y:V)(H:Hp)(Q:VK):Prop
 |mk (a b xs ys:_) (_:IW) (_:A84) (_:zW) (_:DFF) (_:DNP) (_:CUA AXM):YW rPlusT
def b8j:AJO rPlusT:=by
 rw[NH B C];obtain⟨a,b,xs,ys,rfl,rfl,k,l,E,q⟩:=h;rw[BM z xs []]
 .subst z;rw[pI B C];rw[AD3 its G (AYL BYU) A J (AYL (wV l))];cases G;rw[BP5 w t n];rw[AS2 r j i m g d F f p2];rw[B6D t d f t d f];exact D08 w A61
   (tuple_addW0 a b _ _ n F dd j sl m AJ) ⟨w,g,uV F0 (q b H mP l)⟩
 .refine AK (VI c3M) v u Q I B C ⟨a,b,xs,ys,rfl,rfl,BYU,wV l,z,E,A9U,DS _ p D⟩
  .rw[CK];exact q a H mP (AE4 k)
  .exact q p _ (CUR D) A0
open PySem.AutoSeq1 (wpAny_loadPart')
def Z6:BAH (mX fillsNumberSlot "tuple" "mul") :=
 PySem.fillsNumberSlot_seq (id:="tuple.__mul__") (r:=A2P "tuple.__rmul__") F.slot_tuple_mul.lookup FV F.slot_tuple_rmul.lookup FV
def a2N:AOP seqRepeat? "tuple"=pure (A2P "tuple.__mul__"):=by
 unfold seqRepeat?;rw[EXI "__mul__" (id:="tuple.__mul__") F.slot_tuple_mul.lookup,EXI "__rmul__" (id:="tuple.__rmul__") F.slot_tuple_rmul.lookup];rfl
def a5u(a:Int)(t:Tok)(l:qE)(items:CY)(n:Nat)(dd:IM)(sl:YX) :
  A6F Builtin.«int.__rmul__» (JY [ALR,HQ]) (AGT/\A59 Value.notImplemented s) :=
 (tG (by rw[cJ c];rw[jH b h];wp_walk;rw[sA]))
def b1m(l:qE)(items:CY)(n:Nat)(dd:IM)(sl:YX)(u:Tok) :
  EE7 1 (AGF l s) :=
 (tG (by
  rw[cJ b];rw[jH a h];rw[DX3]
  rw[AL6]
  rw[sA]))
def b1l(l:qE)(items:CY)(n:Nat)(dd:IM)(sl:YX)(x:Int)(u:Tok)(e:D51)(h1:1<x)(h2:¬A4U (CJ (x < C1H)) (CJ (BQ2 x)))
  (f:¬(EFP > C4A)) (i:¬DY Builtin.Tuple.tupleTooMany EFP) (hsz:BZ (List.foldl DMU #[] (ACI x.toNat items)).size) :
  A6F Builtin.«tuple.__mul__» (JY [HQ,.int x u]) (AGT /\
   E7U (BOE DMU x.toNat items)) :=
 (tG (by
  rw[cJ m];rw[jH a h];have f1:=AutoSeq1.idx_int;have e1:(x==1)=false:=by simp;rw[DN 0xb7c2aff86a6e03f6 h1]
  have e2:iV (x<=0):=by simp;rw[DN 0x8d3953a323f6 h1]
  have j:DRR (x==1):=by rw[e,e1];decide
  have k:¬(A4U (CJ (x<=0)) items.isEmpty):=by rw[e,e2];decide
  rw[AL6]
  rw[BC h2]
  rw[AL6]
  rw[BC f]
  rw[AL6]
  first
   |rw[sA]
   |(rw[BC i];rw[AL6];rw[sA])))
def a6g{α:Type}(its:CL):y4 k qP CL EVX
 |0,qP=>AJ
 |CF,qP=>by
  rw[EPT]
  rw[EGE e (a6g its k) List.replicate_succ List.flatten_cons]
inductive rRepT(x:V)(y:V)(H:Hp)(Q:VK):Prop
 |mk (a xs n:_) (_:IW) (_:BYB) (_:zW) (_:BTL) (_:fO) (_:E67) (_:DTJ):YW rRepT
def b3Z:AJP rRepT:=by
 rw[EUE L M w j i J];rw[A6P L M];rw[A86 p1 K (wV w)];rw[EOF g B B B];have d:=r.length;rw[E9Q f d j]
 refine EQF A61 n
  (EZL n n (OI g A61 ?_))
 rw[BM h1 n 1]
 .subst h1;rw[oE F.slot_tuple_mul A61 F.entry_tuple_mul F.args_tuple_mul_2 (b1m a its.toArray m dd sl t) ⟨g,CC,H,I,rfl,q a H mP ?_⟩];rw[LS w]
 .rw[GL e0 (a6g its n.toNat []) List.nil_append e0];have E:HP (AWI n.toNat)=C4U:=a8N its n.toNat;have A:BZ C4U:=by
   have e1:EA C4U=AFP*n:=by
    rw[d];push_cast;rw[WW Int.toNat_of_nonneg b9d i,Int.mul_comm]
   omega
  have hs:sizeLine=16777216:=sizeLine_eq;have k:BGI*n<=16777216:=by rw[nU d];rw[DL 0x196f32708585d46dd6d008c00b16cdd2097347b97 J hs]
  have G:n<=BGI*n:=by
   rw[ER C (RV<=BG its.toArray.size) List.size_toArray (lq 0x800e5f36745d f)]
   have:=Int.mul_le_mul_of_nonneg_right C (show MX<=n by exact b9d i);rw[QN 0xe752e15be9812]
  rw[ELI A61 (CAO b1l sl n t (by simp;intro z;rw[z]at f;rw[BWD f]) (AU 0x366b6479d4806fdbccb2767f6 i h1) ?_ ?_ ?_ ?_) g]
  .simp only[Bool.or_eq_true,decide_eq_true_eq,not_or];omega
  .omega
  .simp only[Builtin.Tuple.tupleTooMany,decide_eq_true_eq];rw[DL 0x2cea19503342afe8449575e8baf4da29bc112e0317 hs k]
  .rw[F24];rw[e0',List.size_toArray,E];exact A
  .rw[F24];rw[e0'];have D:yO:=aY;refine C4G CN5 N (E3J D);rw[EF (IG a8N d A) _ (r.rep n.toNat) AFS]
#where
section
variable {B:IY}{H H':Hp}{K:qF}{N:AC}{Q:VK}{X:Cx}{a b p:qE}{caps σ:St}{es:BN}{g:TG}{i k n:Nat}{l:EI}{o:HO}{rss:LLI}{sp:Sp}{src:NM}{st:Stmt}{te tl:TE}{tg:Expr}{v:V}{vs:AA}{x:Str}{xs:qI}
section
variable {pos:Pos}
def c3z(K:qF){t:TGs}(c:DV)(h:DM3)(b:AT:=by rfl)
  (d:CC3:=by rfl) (a:CCH:=by rfl):EP6 (gTup K n t):=by
 subst b;exact c6L c h d a
def b7T(K:qF){l:Expr}(b:AMB)(a:AT:=by rfl):DHY c1G:=A96 c3x
def c3v(K:qF){l:Expr}(b:AMB)(a:AT:=by rfl):DHY c4P:=A96 c6K
def c3u(K:qF){h:Nat}{i:Pos}{a b:Expr}{ta:TA}{p pos:Pos}(f:BSX)(g:BU8)(e:DTD)(d:AT:=by rfl)
  (hs:CAT:=by rfl) (c:C8O:=by rfl) :
  C9K PI h i (c8b K ta):=by subst d;exact c6J f g e c8q hs c
noncomputable def c8M(K:qF)(ta:TE):TT:=ES3 (c8x K x H' k)
def b5n(K:qF){a:Expr}{ta:TE}(d:W1)(e:CDD)(c:AT:=by rfl):nX a DLW:=by
 subst c;exact b7D d e
def c1D(K:qF)(a:AT:=by rfl):DK6 rIxL:=rB c4L
def c4K(K:qF)(a:AT:=by rfl):DK6 rIxT:=rB c1B
def b6c(K:qF)(a:AT:=by rfl):c8z X (rIxL K):=rB c1L
def b7j(K:qF)(a:AT:=by rfl):DK5 rSlL:=rB c2K
def c2J(K:qF)(a:AT:=by rfl):DK5 rSlT:=rB b7i
def b8l(K:qF)(a:AT:=by rfl):B21 C1R:=rB b5w
def b5v(K:qF)(a:AT:=by rfl):UT .NotIn DJG:=rB a8p
def b8n(K:qF)(b:GG)(a:AT:=by rfl):BUY B48:=A96 c7i
def c7c(K:qF)(b:GG)(a:AT:=by rfl):BUZ DFB:=A96 c7d
def b6G(K:qF)(b:DV)(a:AT:=by rfl):A7S "all" rAll:=A96 c2j
def b6s(K:qF)(b:DV)(a:AT:=by rfl):A7S "sum" rSum:=A96 c2h
def b6C(K:qF)(a:AT:=by rfl):A7S "isinstance" rIsi:=rB c2i
inductive rLen(K:qF)(xs:AA)(H:Hp)(Q:VK):Prop
 |mk (p ys:_) (_:sF) (_:C64) (_:D9B):lP rLen
inductive rList(K:qF)(xs:AA)(H:Hp)(Q:VK):Prop
 |mk (p ys:_) (_:sF) (_:C64) (_:DNK):lP rList
inductive rTuple(K:qF)(xs:AA)(H:Hp)(Q:VK):Prop
 |mk (p ys:_) (_:sF) (_:ER5 BHU CN8):lP rTuple
def b6B(K:qF)(k:AT:=by rfl):A7S "len" rLen:=by
 rw[F37 a9c]
def b3e(K:qF)(k:AT:=by rfl):eJ vA (rList K):=by
 rw[F37 a9a]
def b0V(K:qF)(k:AT:=by rfl):eJ dU (rTuple K):=by
 subst k;rw[BP7];rw[SK p ys x y];exact a6T a b c d e f g i j EMI
inductive rMin(xs:AA)(H:Hp)(Q:VK):Prop
 |mk (i j:_) (_:DPW) (_:DUK):fZ rMin
inductive rMax(xs:AA)(H:Hp)(Q:VK):Prop
 |mk (i j:_) (_:DPW) (_:CVT (j > i)):fZ rMax
noncomputable def c6A:RL:=ADK ERP
def b6v(k:DV):mZ "min" rMin:=by
 rw[BP7];rw[SK p ys x y];exact b6x k a b c d e f g i j EMI
def b6E:eJ AVJ c6A:=b6F
variable {o e:Expr}{to:TE}{t:TA}{name:Str}{qO qM:Pos}{T id:String}{r:A09}
def a0Z(K:qF)(l:DIJ)(f:C8K T)(g:CCX)(j:E8S)(k:AK7)(i:YV)(h:AT:=by rfl)
  (b:BWQ:=by rfl)
  (d:PV (AP7
   && AP6):=by rfl)
  (c:TQ:=by rfl) (hs:CI:=by rfl) (a:L1:=by rfl) :
  C5W (BCS T r):=by subst h;exact c8Z l f g j k i b d c hs a
#where
inductive IT(H:Hp)(v:V)(ns:qI):Prop
 |mk (a:_) (_:AEL) (_:BGZ ns.map):BZF
def IT.same{ns:qI}(h:BZF)(s:BP)   : DD5:=jR a e q h a e (s a _ q)
def Same.upd(s:BP)(hp:pC):LF (upd H' p o):=kK (by
 rw[AD (BVM BZZ) BZZ])
def S3{u:HO}(a:BTY)(hp:RE):KB H p o b u:=AG (BVM a) a
noncomputable def Off(l:EI)(H H':Hp):Prop:=gT (b∉l) (GP H) BRF
def Off.refl(l:EI)(H:Hp):BTE H:=E6L
def Off.trans{H1 H2:Hp}(a:BTE H1)(b:E1W l):BTE H2:=λc o d e=>b c o d (a c o d e)
def Same.off(s:BP):AIO:=QC o _ (QD s)
def Off.upd(s:AIO)(hp:pC):EUQ:=QC u a (by
 rw[AD (BVM B8A) B8A])
def Off.set(s:AIO)(hp:p∈l):Off l H (L2.upd H' p o):=QC u a (by
 rw[AD (A4 (by rw[XH];exact a hp)) B8A])
def Off.mono{a:EI}(s:AIO)(h:AG6 l a):mE a:=v4 c s (λz=>c (h b z))
def N7(ns:qI):AH4 (ABP ns.map):=List.length_map _
def R8{ns:qI}{x:V}(h:OD ((v3))):∃z,CB ns z/\ARG z:=by
 rw[BU7];cases e:D6I with
 |none=>rw[AMK]
 |some z=>rw[E8Y]
def R0{α β γ:Type}(f:B6G γ){xs:CL}{ys:A6V}{x:α}{y:β}(a:aT)(b:BWX):xW AO=xW i++[f x y]:=by
 have:AHV ASS (f x y):=pU List.getElem?_zipWith a b
 rw[D4Y this]
def a4T{k1 k2:Bool}{ys:qI}(f:B3G)(r:AU6 k1 a xs.map)(t:AU6 k2 b ys.map)(o:NS)
  (c:EQC)
  (g:AJR) (k:B7R n (LQ->EB6->EDW))
  (hd:C29) :
  B9R:=by
 rw[VT q]
 rw[CA3 BGT q xW]
 .rw[B98 l R8 d m R8];rw[F1W]
  .match j,e with
   |0,e=>rw[CP]
   |1,e=>rw[CP]
   |j+2,e=>exact e
  .exact k x' d _ _ s' (B8L s' l m)
 .rw[EF4 (by
   rw[CA9 N7])]
  rw[B3Q]
def Sub.one:Sub CFD AEF:=EQ (λj u e=>by
 match j,e with
 |0,e=>rw[CP]
 |NK,e=>exact e)
def a5w{e:TT}(h:YQ)(c:cG)(a:yT)(h0:a 0 [] H)(g:CDV)
  (hs:C2B AUU (e B16 H λb d=>OO b (te B16 d λv f=>a AO ARL f) EDP))
  (hd:E85):BBL e te C22:=by
 rw[VT j]
 refine b2Y (~~~Y7 h j) a h0 g (DW i ys H hi p) hd;show Sub _ (B2R AMD)/\_;rw[c,Int.zero_add];rw[AY Sub.one (hs i ys H hi p)]
def a9u(f:DAB)(j:NS)(b:BM6 nG)(c:cG)
  (e:∀x H1 g,YS->LQ->g (f x) H1->xP (WI (DZ x)) g) (hd:AXL xs.map):BZM:=by
 rw[VT k]
 refine O6 (xs:=nG) (AG N7 (Y7 j k)) (fA (B5C xs.take)) A3T (QT ys B8E) ?_ ?_
 .rw[C8Y];rw[mD z d R8 hx];rw[E97 (B2R (DZ z)) (e z H' _ D73 s D6Z)]
 rw[C81 N7]
def a5v(f:QZ V)(c:YQ)(a:cG)(b:∀(i:Nat) H1 Q1,LR->LQ->Q1 (f i) H1->xP B16 Q1)
  (hd:AXL (nH n)):ADU C22:=by
 rw[EPA c (ys=nH i f) (BJ1 FD)]
 .rw[CCC s rfl];refine b i H' _ hi s D6Z;rw[D4Z List.range_succ]
 rw[DGM]
def Room.u60{A:Around}(r:B1L):gM A.units 60:=AFC r.un 0x51622c9d60c00f9279bb6f763759731044e1c7967c049f127
def a1B{t u:TS}{D:Ends}(a:RG)(fin:AU2 DT2 E2I)(h:(∀σ H,DT2->E2I)->DJX):c6o t u D σ H:=h fin
def c8G{neg:Bool}{cs:qI}(a:ESL)(e:BWL)
  (q:AO2 (yD EGD B2D)):tOp DFC te (b4W X0) σ H Q :=
 a _ ⟨F1,λp d=>⟨1,_,AI,CD3 EqV.ints (SqL.of (S3 e d)),A25 _,q p d⟩⟩
def c8K{neg:Bool}{Q:VZ}{cs:qI}(a:ESL)(d:BWL)
  (q:AO2 (Q EGD B2D)):sS O0 (ECQ DFC te) :=
 c8G a d λp e=>DK (q p e)
def cut_lo(xs:qI)(k:Nat)(a:DIK):E4T nG kH=CJT V.int:=by
 rw[EKN List.length_map D2Y List.drop_zero Nat.sub_zero]
def cut_hi(xs:qI)(k:Nat)(a:DIK):EGP nG kH=HM xs.drop k V.int:=by
 rw[EKM D2Y D9G List.map_drop]
def b5c(xs:qI)(k:Nat)(z:Int)(a:AJE):xs.take k++[z]++xs.drop CF=DZR:=by
 rw[List.set_eq_take_append_cons_drop,YN,List.append_assoc];rfl
def c6B{j:Nat}{tx:TE}{z:Int}(hi:DG7)(l:GU σ BSA)(h:D8M)(c:AJE)(m:NS)
  (f:∀H' (N:VK),BP->N (.int z) H'->tx σ H' N) (q:A0F DZR) :
  tOp rPlusT (tOp rPlusT (ERJ M3 (b3E (tVar j))) (c6n (a2H tx X0))) (ERJ (b3E (tOp C26 (tVar j) (tC (.int 1)))) M3) σ H Q:=by
 rw[YR g]
 refine⟨_,hi,_,l,k,rfl,a,_,rfl,D3V,?_,vT t⟩
 rw[ECE HT.sIx_none]
 .rw[cut_lo xs k (~~~a2s c)];have s1:LF DML:=AWK H t;have e1:KB H p BJV p BJV:=A0;rw[A8T DML e1];refine f H1 _ s1 (tR (BYV g) p2 d);have s2:AP2 E7K:=AWK H1 d;rw[gD e2 H1 p2 BIZ p2 BIZ];rw[A0O E7K e2];refine t7 p p2 AJ8 e2 ?_ (BT u b x r)
  .rw[AFG List.length_take];show DY1<=_;rw[DL 0xe2b05d8098cc59852184fc3367ddc80e7 m g]
  .have s13:LF b:=rG s1.trans s2 x;refine⟨_,hi,_,l,_,_,rfl,rfl,_,rfl,a,_,rfl,nB s13 h,?_,BK n e⟩
   rw[ECE EQ5]
   .rw[EQ5,cut_hi xs CF (~~~a8F c)];have o:Same b (upd b n (UB (HM xs.drop CF))):=GR b e;refine t7 u n (AH o r) A0 ?_ (BT w A y s)
    .rw[List.length_append,List.length_map,List.length_take,List.length_map,List.length_drop];show DY1+_<=_;rw[DL 0x21561268ab9bbf0249ae81f9064d08c1c23e33efe57367ddc80e7 m g]
    .refine AK q (IJ s13.trans o y) (EW w ?_);rw[s,<-b5c xs k z c];simp
structure JE(X:Cx)(e:Expr)(t:TE):Prop where
 h:DJ e t
structure JT(X:Cx)(e:Expr)(t:TT):Prop where
 h:DH6
structure JW(X:Cx)(e:Expr)(t:TT):Prop where
 h:DH7
structure JA(X:Cx)(es:BN)(t:TA):Prop where
 h:B2S
structure JS(X:Cx)(st:Stmt)(t:TS):Prop where
 h:C1U
structure JB(X:Cx)(st:IY)(t:TS):Prop where
 h:DJH
structure JG(X:Cx)(tg:Expr)(t:TG):Prop where
 h:PG X tg t
structure JGs(X:Cx)(ts:BN)(t:TGs):Prop where
 h:PGs X ts t
structure JI(X:Cx)(tg iter:Expr)(t:TI):Prop where
 h:ALC iter t
structure JF(X:Cx)(ifs:BN)(t:TT):Prop where
 h:PIf X ifs t
structure JO(X:Cx)(e:rL)(t:TO):Prop where
 h:ATF PO
section
variable {a b c e o:Expr}{rest:BN}{ta tb tc to:TE}{tA tB:TT}{t:TA}{pos p qO qM p2:Pos}
def jv(i:Nat)(b:fN:=by rfl)(c:AKK:=by rw[EJ4])(hd:FK:=by decide)
  (a:C67:=by decide):CU A3E ACP:=⟨EOW⟩
def A6{i j}:B76 SX (BWT .int):=⟨c6S⟩
def a3M{i j}:B76 (.bool i) (BWT .bl):=⟨c9a⟩
def J7{j}:B76 .none DPQ:=⟨c6Q⟩
def B1{x j}:B76 QR C6F:=⟨c6O⟩
def c1A{u:qB}(a:JC)(b:AIT)(d:BZU)(r:NV)(c:A6B:=by decide)(hd:FK:=by decide):DQM:=⟨c3G a b d r c hd⟩
def O3(c:CA)(d:CZ):B30 C26:=WA c7k
def b4n(c:CA)(d:CZ):A2N .Sub DJZ:=WA c6Z
def a2X(c:CA)(d:CZ):AK0 E4Y:=WA c7e
def a2Y(c:CA)(d:CZ):A2N .Mod (w9 DZF (i % j)):=WA c7f
def c7T(c:CA)(d:CZ):EAP c9w:=WA c3L
def c5U(c:CA)(d:CZ):A2N .Pow (w9 c9v DXF):=WA c7b
def a4M(c:CA)(d:CZ):B30 ((rPlusT)):=WA b8j
def c9p(c:CA)(d:CZ):B30 ((rCat)):=WA c7j
def c7R(c:CA)(d:CZ):AK0 ((rRepT)):=WA b3Z
def c1y(c:CA)(d:CZ):AK0 ((rRep)):=WA c7a
inductive rAddStr(x:V)(y:V)(H:Hp)(Q:VK):Prop
 |mk (i j:_) (_:xO i) (_:E7B) (_:E6G) (_:DFK):YW rAddStr
def K5(e:CA)(f:CZ):B30 rAddStr:=WY V9 (λp s σ H x y v u Q I g k h=>by obtain⟨i,j,a,b,c,d⟩:=h;exact b1J p s σ H x y v u Q I g k ⟨i,j,a,b,c,d⟩) e.h f.h
def a0b(b:CA):iT .UnaryOp .USub a (tUn DSE ta):=⟨c8X c6i b.h⟩
def a2W{op}(h:CA):ANE (.BoolOp op KG pos):=AKH c6P
def a4f(c:CA)(d:E0W .And):E3B .And DOB:=B7M c6W
def c9o(c:CA)(d:E0W .Or):E3B .Or DOC:=B7M c8Y
def a6b(f:B3V)(d:CA)(e:CZ):CU DOZ E0V:=WY b7Z f.h d.h e.h
def a1l(c:CA)(d:CZ):zP .Eq ((rEq)):=B3I c5z
def G8(c:CA)(d:CZ):W2 .Eq ((rEq)):=sQ c5z
def c5T(c:CA)(d:CZ):zP .NotEq ((rNe)):=B3I c5y
def a5Y(c:CA)(d:CZ):W2 .NotEq ((rNe)):=sQ c5y
def b4k(c:CA)(d:CZ):W2 .Lt (v5 (i<j)):=sQ c9b
def b4i(c:CA)(d:CZ):zP .LtE A05:=B3I a7l
def c9m(c:CA)(d:CZ):W2 .LtE A05:=sQ a7l
def a1m(c:CA)(d:CZ):W2 .Gt (v5 (j<i)):=sQ c9c
def c9n(c:CA)(d:CZ):W2 .GtE (v5 (j<=i)):=sQ c9d
def c7I(K:qF)(f:GG)(d:CA)(e:CZ)(c:AT:=by rfl):zP .Eq B48:=(CCP a0t b8n)
def c7K(K:qF)(f:GG)(d:CA)(e:CZ)(c:AT:=by rfl):W2 .Eq B48:=(CCP J0 b8n)
def c1l(K:qF)(f:GG)(d:CA)(e:CZ)(c:AT:=by rfl):W2 .NotEq DFB:=(CCP J0 c7c)
def c7G(c:CA)(d:CZ):zP .Is C2D:=B3I b8k
def Z0(c:CA)(d:CZ):W2 .Is C2D:=sQ b8k
def b4j(c:CA)(d:CZ):W2 .IsNot E98:=sQ c3K
def c7H(K:qF)(d:CA)(e:CZ)(f:B3W)(c:AT:=by rfl):zP .In C1R:=(B8N a0t DG8)
def c1m(K:qF)(d:CA)(e:CZ)(f:B3W)(c:AT:=by rfl):W2 .In C1R:=(B8N J0 DG8)
def b5S(K:qF)(d:CA)(e:CZ)(f:AB5 .NotIn b)(c:AT:=by rfl):W2 .NotIn DJG:=(B8N J0 (b5v K c))
def a1R(h:JW X e tA):JT X e tA:=⟨h.h.pt⟩
def a1F(b:AKU):C0S KG tA:=BXI pw_and1
def Y9(b:AKU):C0T KG tA:=BXI pw_or1
def a2v(c:AKU)(d:C0S iM tB):C0S xR (c8T tA tB):=B7M pw_and
def a0K(c:AKU)(d:C0T iM tB):C0T xR (tOr tA tB):=B7M pw_or
def U6(b:AKU):JT X (.UnaryOp .Not a pos) DVR:=BXI c6C
def L3(K:qF)(d:CA)(e:CDD:=by rw[gA])(c:AT:=by rfl):JT X a DLW:=⟨b5n K d.h e c⟩
def jaN:JA X [] X0:=⟨c6X⟩
def jaC(a:cH)(b:BTG)(hs:CI:=by rfl):C1N JA a2H:=WY c3H a.h b.h hs
def Q5{x1}(h:BTG):iT .Tuple es x1 (c6n t):=AKH c6N
def E4(h:BTG):CU E38 (b4W t):=AKH c6R
def J8(K:qF)(d:CA)(e:CZ)(hs:B00:=by rw[A0M])(c:AT:=by rfl):CB6 D88:=EPW c1D
def C9(K:qF)(d:CA)(e:CZ)(hs:B00:=by rw[A0M])(c:AT:=by rfl):CB6 (rIxT K):=EPW c4K
def J3:JO X none M3:=⟨c3n⟩
def J2(h:cH):JO X D2A DGT:=AKH c3m
def a2V(K:qF){lo hi:rL}{tl th:TO}(b:cH)(c:C7P)(d:C7Q)(a:AT:=by rfl):EPC (rSlL K):=(EVS b7j)
def c1x(K:qF){lo hi:rL}{tl th:TO}(b:cH)(c:C7P)(d:C7Q)(a:AT:=by rfl):EPC CS1:=(EVS c2J)
def A8{ps:AC}(O:DFR)(g:QU)(f:JC)(c:ET)(a:FK:=by decide)
  (d:CI:=by rfl) (b:HV:=by rfl):AAG A1U EUJ:=(WY (b8g O g f c.h) a d b)
def C7(K:qF)(f:B0Z)(g:B1J)(c:ET)(b:AT:=by rfl)(d:CI:=by rfl)(a:HV:=by rfl):A7Y "len" rLen:=C48 b6B a9e
def c1u(K:qF)(g:JQ "sum")(h:MY "sum")(c:ET)(d:DV:=by rfl)(b:AT:=by rfl)(f:CI:=by rfl)(a:HV:=by rfl):A7Y "sum" rSum:=(C4R b6s c8r)
def a3L(K:qF)(g:JQ "all")(h:MY "all")(c:ET)(d:DV:=by rfl)(b:AT:=by rfl)(f:CI:=by rfl)(a:HV:=by rfl):A7Y "all" rAll:=(C4R b6G c8t)
def a1X(K:qF)(f:JQ "isinstance")(g:MY "isinstance")(c:ET)(b:AT:=by rfl)(d:CI:=by rfl)(a:HV:=by rfl):A7Y "isinstance" rIsi:=C48 b6C a6V
def c7O(f:D5V)(g:D7P)(b:ET)(c:DV:=by rfl)(d:CI:=by rfl)(a:HV:=by rfl):xT "min" ((rMin)):=(DSP b6v c2o)
def B6(K:qF)(f:D5T)(g:D7N)(c:ET)(b:AT:=by rfl)(d:CI:=by rfl)(a:HV:=by rfl):A7Y "tuple" rTuple:=E7W b0V b0Z
def c4z(K:qF)(f:JQ "list")(g:MY "list")(c:ET)(b:AT:=by rfl)(d:CI:=by rfl)(a:HV:=by rfl):A7Y "list" rList:=E7W b3e c5c
def a8P(d:D5W)(f:D7Q)(b:ET)(c:CI:=by rfl)(a:HV:=by rfl):xT "int" ((c6A)):=DTK b6E
def J4(K:qF)(h:cF)(g:ET)(f:AT:=by rfl)(b:eG "append":=by rfl)
  (d:lN:=by rfl)
  (c:TQ:=by rfl) (hs:CI:=by rfl) (a:L1:=by rfl) :
  ALG "append" rAppend:=(ALI PySem.F.slot_list_append PySem.F.type_list_append b5M)
def a6a(K:qF)(h:cF)(g:ET)(f:AT:=by rfl)(b:eG "pop":=by rfl)
  (d:lN:=by rfl)
  (c:TQ:=by rfl) (hs:CI:=by rfl) (a:L1:=by rfl) :
  ALG "pop" rPopAt:=(ALI PySem.F.slot_list_pop PySem.F.type_list_pop b8L)
def a0a(K:qF)(h:cF)(g:ET)(f:AT:=by rfl)(b:eG "extend":=by rfl)
  (d:lN:=by rfl)
  (c:TQ:=by rfl) (hs:CI:=by rfl) (a:L1:=by rfl) :
  ALG "extend" rExtend:=(ALI PySem.F.slot_list_extend PySem.F.type_list_extend b5L)
def A7(a:X.N.Nodup)(hi:fN)(c:A8B)(b:A8S:=by rw[TV]):DY3 JG:=⟨c3A a hi c b⟩
def F3:JGs X [] b2R:=⟨c3y⟩
def B3{u:TGs}(h1:JG X e g)(h2:DUA)(hs:ENO:=by rfl):JGs X LD (gCons g u):=(WY b7U h1.h h2.h hs)
def K2(K:qF)(n:Nat){u:TGs}(h:DUA)(c:DV:=by rfl)(b:AT:=by rfl)(d:CC3:=by rfl)(a:CCH:=by rfl):gZ JG .Tuple es k (gTup K n u):=⟨c3z K c h.h b d a⟩
def c7N{i:Expr}{a:TE}(c:cF)(hi:CU i a)
  (b:ESP (do
   let ov <-holding [v] (eval o X.env)
   let iv <-holding [v,ov] (eval i X.env)
   standAt pos
   holding [v,ov,iv] (setItem ov iv v)
   release [v,ov,iv] []):=by rw[gA]):gZ JG .Subscript o i (c9q to a rSetL):=⟨c6M c.h hi.h a9K b⟩
def E9(K:qF){l:Expr}(b:C5J)(a:AT:=by rfl):DSL c1G:=DXJ b7T
def E1(K:qF){l:Expr}(b:C5J)(a:AT:=by rfl):DSL c4P:=DXJ c3v
def U7(K:qF){h:Nat}{i:Pos}(f:BSX)(g:BU8)(e:A9K ZH)(d:AT:=by rfl)(hs:CAT:=by rfl)(c:C8O:=by rfl) :
  C9K JI h i (c8b K t):=⟨c3u K f g e.h d hs c⟩
def N5(c:D5U)(d:D7O)(b:A9K KG)(hs:E8X:=by rfl):JI X tg E49 (c5X t):=⟨b5t c d b.h hs⟩
def B9:JF X [] S6:=⟨c3t⟩
def a2w(h:B3V):JF X [c] tA:=AKH c3s
def C0{b c:Expr}{f:BN}{scope:Scope}{j:TI}{i:TT}(hi:DSQ j)(e:A13)(d:A99)(h:A0R)
  (m:DP2) (n:wA JF f i) (l:AOE a (JE DAZ c te))
  (k:DV:=by rfl) (hs:CBR:=by rw[gA]):CU (.ListComp c [AB4 tg b f] scope pos) (B8X j i) :=
 ⟨c3F k hi.h e d h (A8X m) (A8X n) (A8X l) hs⟩
variable {sts:IY}{u v:TS}
def B4:JB X [] c5j:=⟨c3f⟩
def A1(h1:JS X st u)(h2:JB X sts v):JB X (st::sts) (c6o u v):=⟨b7G h1.h h2.h⟩
def A3(h1:JS X st u):JB X [st] u:=⟨c3e h1.h⟩
def c1p:EHS JS:=⟨b7L⟩
def A9(a:cH):JS X DV2 (c6p te):=⟨c6E a.h⟩
def E8(a:cH)(hs:E3P:=by rfl):JS X E1B (c5k te):=⟨c3h a.h hs⟩
def C1{A:IY}(d:B3V)(a:JB X A u)(b:C45):JS X (.If c A B pos) (c8P tA u v):=WY c8W d.h a.h b.h
def b0D(b:B3V)(a:C45)(hp:B9E:=by rw[D15]):JS X (EHM B) (b6Y tA v):=WY b7H hp b.h a.h
def L4{a:Expr}{b:TI}(hi:JI X tg a b)(e:DNY)(c:C45)(hp:B9E:=by rw[D15])(d:DV:=by rfl)
  (hs:AUL (foldedSetIterable a X.env x):=by rw[gA]):JS X (.For tg a B [] pos) (c8Q b g v):=⟨c6F hp d hi.h e.h c.h hs⟩
def B2{pos':Pos}(a:X.N.Nodup)(hi:fN)(d:A8B)(b:cH)(hs:E4A:=by rfl)
  (c:A8S:=by rw[TV]):ELO JS:=⟨c6D a hi d b.h hs c⟩
def a0z{y:Str}{m c:Pos}{b d:Expr}{e:BN}{scope:Scope}{o:TI}{n:TT}
  (p:X.N.Nodup) (w:sN) (v:sZ) (hi:DSQ o) (h:A13) (f:A99) (k:A0R)
  (t:DP2) (u:wA JF e n) (j:wA JE d te)
  (q:DV:=by rfl) (l:ERV EBY DBC c.line:=by rfl) (hs:CBR:=by rw[gA])
  (r:tE:=by rw[TV]) :
  JS X (.Assign [DBC] EBY c) (BNR (B8X o n)) :=
 ⟨c3g p w v q hi.h h f k (A8X t) (A8X u) (A8X j) l hs r⟩
def b2L(a:cH)(b:DNY)(hs:EJ7:=by rfl)(hw:EXH:=by rfl)
  (h1:EBC:=by rfl):EKF JS:=⟨c6H a.h b.h hs hw h1⟩
def b2K(K:qF){i:Expr}{c:TE}{tpos:Pos}(h:cF)(hi:CU i c)(g:cH)(d:AT:=by rfl)
  (f:∀b a new,augStore i b a new=(do holding [new,b,a] (setItem b a new);release [new,b,a] [];pure .next):=by intros;rfl):JS X (EJS .Add) (c5n to c te D88 E1Q rSetL):=(WY (c3j h.h hi.h (b6c K d) g.h) c7X a9K f)
#where
section
variable {P:qG}{w:World}{mg:BJ}{base:Heap}
def FunAt.okJ{ps:AC}(F:AMZ)(S:A12)(len:lR)
  (b:ANA x (dM ->
   AXF E8N)):ERH :=
 (DW5 (λa f A outer s H vs Q E c h=>F0L (CZU E c h)))
def Fun.okJ{qual:Str}{f:qE}{fd:FuncData}{ps:AC}(F:C4F)(S:A12)(len:lR)
  (b:F5U (dM ->
   DKD)):ESY :=
 (DW5 (λa A outer s H vs Q E c h=>F0L (EM4 H vs Q E c h)))
#where
inductive spLaw(K:qF)(vs:AA)(H:Hp)(Q:VK)(y_3:XK):Prop
 |mk (a:qE) (ns:qI) (_:A7K) (_:B7A) (_:ns.length<=63) (_:∀H',AMH):ALX spLaw
def law_walk{l:PySem.W.OpenLaw}{q:qG}{b:AC}{XP:BZ5}{e:BZ4}{d:DefRec}{K:DW2}(k:Nat)(m:CKU 63)(c:BT7)(o:BUB)
  (i:F09 e)
  (F:F22 (C3T ->
   ∃fd:FuncData,EOO "_law_script"/\DPG (DV3 base CX0 k fa fd BGA CXI))) :
  EF7 PySem.W.WalkO e :=
 BI L2.walk_of n 63 k k (x:="_law_script") (CX:=DF CX0) (sp:=λw=>CXI) m AI c o i F (λ_ _ a ns j _ g=>⟨a,ns,rfl,g,j,A3C⟩) λ_ _ _ _ _ z=>z
noncomputable def Its(H:Hp)(vs:AA)(rss:LLI):Prop:=EPU (∃r,BWW/\B4B)
def Its.same{H H':Hp}{vs:AA}{rss:LLI}(h:TM)(s:BP):AMI:=(E63 (e2.same s))
def Its.nil:LL [] []:=E09
def Its.snoc{r:qI}(h:TM)(b:B4B):LL (A26 vs) (rss++[r]):=by
 rw[FT BTS (OM u ?_)];rw[BYD]
 rw[C8T q (uH u) q]
 .rw[WW List.getElem?_append_right O2 hi]at e;have a:DD8=0:=by
   rw[C5H A8K]
  rw[a]at e;simp at e;rw[CK];rw[FY r ?_ b];rw[AZI (by rw[nM DE O2 hi]),<-DE,a];rfl
def Its.mem(h:TM)(e:A4B):∃r,wW/\BWW/\B4B :=
 let ⟨r,e1,e2⟩:=A3G
 ⟨r,DKP,e1,e2⟩
def b4O{k1 k2:Bool}{ys:qI}(f:B3G)(o:NS)
  (c:EQC)
  (g:AJR) (m:B7R n (YS->B3O->LQ->EB6->EDW))
  (hd:C29) :
  B9R:=by
 rw[VT q]
 rw[CA3 BGT q xW]
 .rw[B98 k R8 d l R8];rw[F1W]
  .match j,e with
   |0,e=>rw[CP]
   |1,e=>rw[CP]
   |j+2,e=>exact e
  .exact CDZ m s' (B8L s' k l)
 .rw[EF4 (by
   rw[CA9 N7])]
  rw[B3Q]
def a4E(f:qI->V)(k:D4T)(b:DO0)(hI:TM)(c:cG)
  (g:EU4 f (xP AEF j)) (hd:AXL rss.map):BZM:=by
 rw[VT m]
 refine O6 (xs:=vs) (~~~Y7 k m) (fA (B5C rss.take)) A3T (QT ys B8E) ?_ ?_
 .rw[C8Y];rw[DR r l d e hI.mem hx];rw[E97 EIQ (F1Y e.same CRV)]
 rw[C81 GE]
def b6L{k1 k2:Bool}{us:AA}(f:Int->qI->V)(o:NS)
  (c:CYD (SqK k2 K H' b us)) (hI:PJ)
  (d:AJR) (m:∀x v r H1 n,YS->wW->CW4->LQ->n (f x r) H1->xP (DZ x::WI RX) n)
  (hd:BHA DER) :
  B9R:=by
 rw[VT t]
 rw[CA3 us t EPP]
 .rw[CKP g R8];subst e1;rw[DR r q k l hI.mem hy];rw[AYJ DHG DHG (BQ x') [z] z d (DZ x'::WI (AQ z))];rw[HS AGV]
  .match j,e with
   |0,e=>rw[CP]
   |1,e=>rw[CP]
   |j+2,e=>exact e
  .exact m x' z r _ _ (List.mem_of_getElem? g) q (l.same s') s' (B8L s' g k)
 .rw[vG zs];have e:EPP (min CSR us.length)=DER:=by
   rw[CA9 GE]
  rw[B3Q]
def b1G{d:TT}(t:fL)(f:YQ)(a:cG)(b:∀(i:Nat) H1 (c:VZ),LR->LQ->A5F (c (t i) H2)->d B16 H1 c)
  (hd:APB (aU p (UC (DZB n)))):BXC d C22:=by
 rw[EPA f (ys=DZB i V.int) (by rw[E8I];exact Nat.le_trans bF AJ)]
 .rw[CCC s rfl];refine KH (b i H' _ hi s) H2 s2;rw[List.range_succ,List.filter_append];cases e:t i with
  |true=>exact UU wR B18
  |false=>rw[AY wR B18]
 rw[DGM]
def D6:JS X st B73:=⟨A3K _ _ h.elim⟩
#where
section
open PySem.W
variable {A:Around}{C:qE}{H:Hp}{K:qF}{N ps:AC}{P:qG}{X:Cx}{base:Heap}{qM:Pos}{e:Expr}{es:BN}{k:Nat}{mg:BJ}{sp:Sp}{t:TA}{w:World}{x:Str}
noncomputable def a8V(p C:qE):HO:=C3A (∃o,AEC p/\LH o.cls C)
def ObjOk.there{h:Heap}{a:qE}{o:HO}(x:B4W):∃u,XY u:=by
 induction o with
 |lst xs=>rw[DX7];rw[fS]
 |tup xs=>obtain⟨_,_,_,b,e,_⟩:=x;rw[fS]
 |dK qL=>rw[B8K];rw[fS]
 |dT qL=>rw[B8K];rw[fS]
 |set S n=>rw[EG3];rw[fS]
 |ins C dx fs=>rw[DX8];rw[fS]
 |own y=>obtain⟨_,e⟩:=x;rw[fS]
 |xd fs=>rw[DX9];rw[fS]
 |rng lo hi=>rw[BPV e];rw[fS]
 |frz b u c=>obtain⟨e,_⟩:=x;rw[fS]
 |tbl ps=>rw[RW x]
 |met f y=>rw[RW x]
 |ext φ=>exact dI
noncomputable def Cov(l:IL)(H:Hp)(h0 h B:Heap):Prop:=BKU (D7F->(DIV∨∃o',WB h0.get? o')->GP B.get?)
def a3b{l:IL}{H':Hp}{h0 h1 h2 B:Heap}(f:EKG h1)(i:BKI h1)(d:E6V h1)(st:DBV)(s:h1.UpToSlots h2)(p:h1.FunFrames base l)(t:ZV AEG vE) :
  EKG h2/\BKI h2/\E6V h2:=by
 have y:∀b,DIW->D7F:=λb n c=>n (t b c);rw[LT ⟨?_,?_,f.free,?_,f.tups,f.frzs,f.tbls⟩ ?_]
 .intro b o e n c hx;exact st b o (d b o (pF f.keep c hx) c (.inr BX2))
 .intro b o e n c hx;rw[SI sl (pF f.slot c hx)];rw[F48];rw[AY j h]
 .intro b o e hx;rw[SI g (aR f.there hx)];rw[YI (b∈AEG)]
  .rw[F48];rw[RW h]
  .rw[AY g (st b g (d b g q c (.inr BX2)))]
 .intro a o e;refine EY2 i (BT b u c q);have k:DIW:=by
   rw[WR c c]
   .rw[e];rw[u0]
   .rw[c];rw[u0]
  exact st b u (d b u q (y b k) (.inl k))
 .intro b o e c ho;have ex:DG0 g g:=by
   rw[AYZ ho k q]
   .cases eq:H' b with
    |none=>rw[EV eq k]
    |some u=>exact(i b u eq).there
   .exact f.there b o' q AJ
  obtain⟨g,x⟩:=ex;rw[AE h (d b g x c ho) r (st b g h)];rw[aS r r];exact h
noncomputable def CXE(P:qG)(w:World):CXT:=λouter H s E e s' =>
 ∃(p C:qE) (H':Hp) (B:Heap) (a0:qB),DM2/\BYK/\x6/\EB9/\DMZ /\
  pC/\CZC outer s'.heap/\DKF s.heap/\BFU OK
noncomputable def b7a(C:qE)(E:XK)(t:TA):TS:=λ_ σ H=>cR t vs (BZ vs.length/\E OK none H1)
def b7J{qual:Str}{scope:Scope}{f:qE}{cd:qB}{outer:IL}{a:qC}{i:Hp}{E:XK}{bmB F:AN}{B Y qR V g U:String}{np pos:Pos}
  (O:DVH) (Fn:ExcBaseFacts Y qR U F) (J:DCT Y) (Z:ExcBaseFacts B V g bmB)
  (hg:Gl B9C x)
  (ha:PA B9C LD t) (hd:FK:=by decide)
  (y:BO9 APJ APJ DFM:=by rfl)
  (S:A9G qM DFM:=by rfl) :
  F0P PS B9C:=by
 rw[VU];obtain⟨tl,NC,nm,q,bs,m,sn,sub,ab,col,dd,k0,k1,k2,k3,k5,mN,hC,hN,R,T⟩:=O.obj;refine BI (BI (BI wpAny_Raise_call_subU C C nm nm (q:=q) (N:=NC)) bs bs bm tl (hdct:=m) (sn:=sn)) sub sub ab ab (col:=col) (dd:=dd) (k0:=k0) (k1:=k1) (k2:=k2) (k3:=k3) (k5:=k5)
  Fn J Z (mN:=mN) (T.hasType Z.hasBase) (I.ok.hd rfl) (by show(backTo qM (starEach (e::es) (envOfC qual scope a.heap.objs.size f cd))).any _=false;rw[y];show(false || (backTo qM (starEach es (envOfC qual scope a.heap.objs.size f cd))).any (·.1))=false;rw[S];rfl) R (K6 I hg O.bound rT hd)
 have k:=AOO ha qM h;have L:starEach LD (B9C).env=_:=y;rw[L]at k⊢;refine Calls.evalArgs_plain (wpAny_mono k (λus s2 ⟨vs,H1,c,r,hl,q⟩=>y7 (BKM hl) (AH c.bk hC) (hN.keeps c.bk) (T.keeps c.bk) (DS h' p Q)) λ_ _ z=>z);have M:∀env∈(BEM),∀b,env.frame=some b->b∈BUA:=λenv y b d=>DB3 env y d;refine BI wpAny_leaves_madeW base CYP h s2.heap c.ok.frames rfl (iP o (of_hideAll _ q)) (funFrames_hide c.stack M) Q (DT h2 t x1 x2 x3 x4);have v:AG6 AEH BUA:=λb d=>by
  rw[BX env h1 h2 List.mem_filterMap.mp d];rw[ETN]
 have n:ERU a.heap.objs.size BUA:=λb h1 h2 h3=>by
  rw[EHF X q2 h3 (D0L X) X]
  .exact h2 (AG9 q2)
  rw[EOT X q2]
 have G:Cov outer H1 a.heap s2.heap CYP:=λb o eb nb d=>by
  refine hideAll_get _ eb (DR3 n);subst z;rw[AYZ d d d]
  .exact d c.free
  .exact B2M d fE
 have hp:AOB:=by
  cases eq:H1 p with
  |none=>rfl
  |some u =>
   obtain⟨o,eo⟩:=(c.hok p u eq).there;rw[AX Q.new eo eo]
 obtain⟨U2,W,j⟩:=F2Z i H1 a.heap s2.heap h2 c.base c.hok G x1.1 (IJ Heap.UpToSlots.of_keeps Q.keeps x4) c.funs λb d=>c.stkFree b (v b d);exact⟨p,C,H1,_,II,rfl,c.os,c.bare,U2,W,hp,x1,j,q⟩
inductive XP(X:Cx)(qK:DC)(R:DGU)(e:qB)(s':qC):Prop
 |mk (σ1:St) (H1:Hp) (s1:qC) (p C:qE) (H':Hp) (B:Heap) (a0:qB) (_:DM2) (_:lS σ1 H1 s1) (_:BYL) (_:x6) (_:CA7) (_:ALF) (_:pC) (_:DVD s'.heap) (_:C8W) (_:R σ1 C H'):XP X qK R e s'
noncomputable abbrev TX:=Ends->(St->CRA)->RG
noncomputable def PSx(X:Cx)(sts:IY)(t:TX):Prop :=
 F39 D Ends R DGU (t D R σ H) (FN UA X.A DQI B7P C7W s)
structure OkE(P:qG)(w:World)(K:qF)(mg:BJ)(base:Heap)(x:Str)(k:Nat)(ps:AC)(sp:Sp):Prop where
 ex:EF9 DKL
def FunAt.okE{st:Stmt}(F:AMZ)(S:A12)(len:lR)
  (b:ANA x (dM ->
   AXF (CW6 A9O))):ERG CF:=by
 rw[F4I ⟨f,fd,h1,h2.kp,g,?_⟩]
noncomputable def c5h(i:Nat)(sp:Sp)(t:TA):TX:=CE4 (D.nx BNW H2)
def c3d{y:Str}{p pos pos':Pos}{i:Nat}(m:t9)(O:A8N)(Y:QU)(T:JC)
  (M:X.N.Nodup) (hi:sN) (Z:sZ) (N:YV) (j:FK:=by decide)
  (Q:CI:=by rfl) (l:L1:=by rfl)
  (hs:DHL:=by rfl) (S:tE:=by rw[TV]) :
  A92 PSx AB8 EHP:=by
 rw[D07 W U P (wpAny_Assign_Name ?_ hs)];rw[AN2 T W j U (CDR N d a a.kIn m) Q l];rw[C92 V d.length]
 rw[B6R b (P s1 d a.kIn (AE4 V)) b (CCV (JY d) d vs _ _ Y a.env0 b r q) c];cases r with
 |error e =>
  rw[B9W w A E G J K L g c];cases L;exact CA8 a w A E G J K g
 |ok fl =>
  cases fl with
  |ret u =>
   rw[DV6 n];exact a0P n M hi Z rv (λs2 o=>AYM (GT H2 o q2)) S
  |next=>rw[HU c]
  |brk=>rw[HU c]
  |cont=>rw[HU c]
section
variable {M:Model}{E:qH}
structure ClsX(K:qF)(C:qE)(above:AN):Prop where
 ex:F5Y (NF above (DY bm.contains v))
#where
section
variable {qK:DC}{σ:St}{H1 H':Hp}{s1 s':qC}{p:qE}{B:Heap}{a0:qB}{h2:Heap}
def Inv.land(a:B6L)(e:BYL)(k:x6)(g:CA7)(d:ALF)(i:ECG)(c:C8W)(st:DBV)(m:DBW) :
  AB0 DDP:=by
 have j:DRK:=λb h=>by
  rw[AZ1 l (a.stack.mem h)];exact g.free b o l (a.stkFree b h) AJ
 obtain⟨U2,f,_⟩:=a3b g d c st m i j;exact a.call' (ch:=[]) e U2 f k C02
def Inv.landX(i:B6L)(v:BYL)(I:x6)(D:CA7)(t:ALF)(hp:pC)(G:ECG)(j:C8W)(c:DVD h2)(O:DBW) :
  JK B5H DDP:=by
 have H:DRK:=λb h=>by
  rw[AZ1 s (i.stack.mem h)];exact D.free b o s (i.stkFree b h) AJ
 rw[wE U2 y (a3b D t j LP O G H)];rw[ACF d l c.there];have w:p∉oO:=λh=>by
  obtain⟨_,o,s,K⟩:=(cY).mem h;obtain⟨L,vs,_,_,_,g,_,m,_⟩:=PQ.2;rw[AX s g g];exact K vs m
 have r:∀o,s1.heap.get? p≠AQ o:=λo e=>by
  rw[AHJ (f p x d w (.inr BX2)) LM]
 have F:CPY B5H h2:=by
  refine⟨U2.keep,U2.slot,DW b o e n J,U2.there,DHB,DK9,C0I⟩
  .rw[AD (A4 (by rw[XH];exact r o e)) (U2.free b o e n J)]
  .have q:=U2.tups b xs e;rw[AD ALV q]
  .have q:=UM U2.frzs u;rw[AD ALV q]
  .rw[SI more (BT3 U2.tbls)];rw[AY more (AG ALV q)]
 have A:AQ4 B5H h2:=λa o e=>by
  rw[BM E a p]
  .rw[BPS E];rw[BA ⟨x,d,l⟩ ⟨x,d⟩ (λg1 P (UV M N) k=>UV (k o M) N)]
  .rw[A4 E]at e;refine CW8 y (AKQ _ q) CSK λb xs q=>?_
   .rw[AD ALV q]
   .rw[AD ALV q]
 exact i.call' (ch:=[]) v F A I C02
#where
section
variable {qK:DC}{σ:St}{s:qC}
noncomputable abbrev Cx.held(X:Cx)(p:qE):Cx:={X with A:=X.A.mark dJ,calm:=false,xe:=AK8}
def Inv.held(I:AL)(p:qE):DPI :=
 B63 ⟨I.ok.mod,I.ok.kind,I.ok.glob,I.ok.blt,I.ok.above,I.ok.inj,I.ok.has,I.ok.cab,AZ8,I.ok.frames,I.ok.stk,I.ok.exf,I.ok.bs,I.ok.bsz,I.ok.noex,I.ok.exfs,I.ok.funs,I.ok.frf⟩
def Inv.unheld{p:qE}(J:X.Ok)(I:DPI):AL :=
 B63 J
#where
structure JX(X:Cx)(sts:IY)(t:TX):Prop where
 h:PSx X sts t
section
variable {y:Str}{p pos pos':Pos}{i:Nat}
def c7F(O:A8N)(l:QU)(j:JC)(d:X.N.Nodup)(hi:sN)(m:sZ)(f:ET)(c:t9:=by rw[AM9])(a:FK:=by decide)
  (g:CI:=by rfl) (b:L1:=by rfl)
  (hs:DHL:=by rfl) (h:tE:=by rw[TV]) :
  A92 JX AB8 EHP:=⟨c3d c O l j d hi m f.h a g b hs h⟩
#where
def c1o{qual:Str}{scope:Scope}{f:qE}{cd:qB}{outer:IL}{b:qC}{c:Hp}{E:XK}{bmB d:AN}{B k qR j a i:String}{np pos:Pos}
  (O:DVH) (m:ExcBaseFacts k qR i d) (g:DCT k) (l:ExcBaseFacts B j a bmB)
  (p:Gl CBW x)
  (n:JA CBW LD t) (hd:FK:=by decide)
  (o:BO9 BKN BKN DFN:=by rfl)
  (h:A9G qM DFN:=by rfl) :
  F0P JS CBW:=⟨b7J O m g l p n.h hd o h⟩
#where
section
open PySem.W Builtin Builtin.ObjectAttr Builtin.Getset_descriptor
section
variable {K:qF}{prog:qG}{w:World}{A:Around}{E:qH}{h:Heap}{g:wN}{d:Drawn}{t:Nat}{os:OsState}{a:qE}{o:Obj}{nm q:Str}{C N:qE}{bs bm:AN}{hdct:Bool}{sn:AC}{sub:AN}{ab:Bool}{col:vI}{dd:IM}{k0 k1 k2 k3 k5:U3}{qR:String}
#where
section
variable {X:Cx}{es:BN}{e:Expr}{t:TA}{pos p:Pos}
def a0B{x:Str}{v:V}{u:qB}(a:JC)(b:BZV)(r:NV)(hd:FK:=by decide):DQM:=⟨c3C a b r hd⟩
#where
#where
section
variable {A:Around}{H:Hp}{K:qF}{w:World}{α:Type}
def a0c{ca:A02}{xs:CL}{i:Nat}{x:V}(h:OD ((ADP))):∃z,AZV z/\x=ca z:=by
 rw[BU7];cases e:D6J with
 |none=>rw[AMK]
 |some z=>rw[E8Y]
def c2y{β:Type}{src:NM}{σ caps:St}{Q:VK}{k1 k2:Bool}{a b:qE}(ca:A02)(d:β->V){xs:CL}{ys:A6V}{te:TE}(f:B6G V)(q:NS)
  (c:F11 d)
  (k:AJR) (n:B7R o (YS->B3O->LQ->A5F (DNW o)->xP (C91 d) o))
  (hd:C29) :
  B9R:=by
 rw[VT r]
 rw[BIU ADP (ys.map d) (OQ (Y7 q r)) (zs=xW i) (BGK FD)]
 .rw[B98 l a0c g m a0c];rw[AYJ DL0 DL0 AUP [d g] (d g) k (BIB x' d g)];rw[HS AGV]
  .match j,e with
   |0,e=>rw[CP]
   |1,e=>rw[CP]
   |j+2,e=>exact e
  .exact n x' g _ _ (List.mem_of_getElem? l) (List.mem_of_getElem? m) s' λH2 s2=>B8L AW8 l m
 .rw[vG zs];have e:xW (min (HY xs.map ca) (HY ys.map d))=ASS:=by
   rw[AVC List.length_map List.take_of_length_le];rw[CN9]
  rw[B3Q]
def b4V{src:NM}{σ caps:St}{Q:VK}{a:qE}(ca:A02){xs:CL}{j:TT}(t:DCQ)(k:NS)(b:BM6 ADP)(c:cG)
  (f:∀x H1 (g:VZ),YS->LQ->A5F (g (t x) H2)->j (WI (BU ca x)) H1 g) (hd:APB (aU p (cL (HM xs.filter t) ca))):BXC j AEN:=by
 rw[VT l]
 refine O6 (xs:=ADP) (OQ (Y7 k l)) (fA (ys=HM (mM xs.take i) t ca)) A3T (QT ys ⟨BFG,by rw[EML]⟩) ?_ ?_
 .rw[C8Y];rw[mD z d a0c hx];rw[ADW (B2R (BU ca z)) c (KH (f z H' _ D73 s) H2 s2)];rw[List.take_add_one,d];cases e:t z with
  |true=>exact UU wR B18
  |false=>rw[AY wR B18]
 rw[C81 List.length_map]
def c5w{P:qG}{mg:BJ}{base:Heap}{N:AC}{qual:Str}{scope:Scope}{f:qE}{cd:qB}{outer:IL}{d:qC}{v:Hp}{E:XK} :
  a0G A9O (ANS outer d v E) E:=by
 intro qK σ H1 s1 e s' I h;obtain⟨p,C,H',B,a0,rfl,s,x,J,n,L,c,i,q⟩:=h;have g:=I.land s x J n cY i LP (λb o e _=>BJ6 e);refine tH wpAny_leaves_onW base B I.ok.frames c λh' D M=>?_;have r:AG6 AEH E1R:=λb a=>by
  obtain⟨env,h1,h2⟩:=List.mem_filterMap.mp a;rw[ETN]
 have m:ERU d.heap.objs.size E1R:=λb h1 h2 G=>by
  rw[EHF u y G (List.mem_cons.mp u) u]
  .exact h2 (AG9 y)
  rw[EOT u y]
 have j:DKF d.heap:=λb o F nb a=>by
  refine i b o F (DR3 m) ?_
  .subst z;rw[AYZ a a a]
   .exact a g.free
   .exact B2M a fE
  .rw[AYZ a a a]
   rw[HF a]
   rw[HG (I.base.there b o' a RQ)]
 obtain⟨U2,t,k⟩:=F2Z v H' d.heap s'.heap h' g.base n j D.1 M g.funs λb a=>g.stkFree b (r b a);exact⟨p,C,H',B,a0,rfl,g.os,x,U2,t,L,D,k,q⟩
def a1I{P:qG}{mg:BJ}{base:Heap}{N:AC}{qual:Str}{scope:Scope}{f:qE}{cd:qB}{outer:IL}{b:qC}{a:Hp}{E:XK}
  {k:Nat}{ps:AC}{sp:Sp}{x:Str}{e:Expr}{es:BN}{t:TA}{p pos:Pos}(O:ERG k) (m:E1T) (l:Gl uD x)
  (i:DTS) (c:FK:=by decide)
  (j:EO5:=by rfl)
  (d:DCI:=by rfl) :
  JE uD (A9X A1U) (EHY []):=by
 obtain⟨n,fd,h1,h2,g,h⟩:=O.ex;exact⟨b3Y h m l h1 h2 g .nil c5w i.h c j d⟩
def Its.put{vs:AA}{rss:LLI}{c:qE}{xs:AA}{o:HO}(h:TM)(b:uC c):DK4:=E9E
open _root_.HT
section
variable {prog:qG}{E:qH}{s:qC}
#where
section
variable {X:Cx}{e:Expr}{te:TE}{lo hi:rL}{tl th:TO}{pos p2:Pos}
def b1n(l:qE)(items:CY)(n:Nat)(dd:IM)(sl:YX)(u:Tok)(a:D51) :
  EE7 0 (E7U #[]) :=
 (tG (by
  rw[cJ e];rw[jH b h];rw[DX3];have c:DRR (MX==1):=by rw[ZE a]
  wp_walk using PySem.AutoSeq1.wpAny_loadPart' b
  rw[sA]))
inductive rRep0(x:V)(y:V)(H:Hp)(Q:VK):Prop
 |mk (a xs n:_) (_:IW) (_:BYB) (_:zW) (_:BTL) (_:0<=n) (_:E67) (_:DTJ):YW rRep0
def c3J:AJP rRep0:=by
 rw[EUE p w k g B C];rw[BM j n 0]
 .subst j;rw[A6P p w];rw[A86 p1 D BYU];rw[EOF i l l l];have f:=r.length;rw[E9Q d f g]
  refine EQF BT4 0
   (EZL 0 0 (OI i BT4 ?_))
  rw[ELI BT4 (CAO b1n sl t (by simp;intro z;rw[z]at d;rw[BWD d])) i];have A:yO:=aY;refine AF9 s.toks (o:=CLA) E ?_ (E3J A);rw[EF F1 [] .nil AFS]
 .exact VI b3Z CC AFR v u Q I p w ⟨a,xs,n,rfl,rfl,k,g,AU 0x366b647936973107fc4661236 B j,C,q⟩
def c7S{a b:Expr}{ta tb:TE}(c:CA)(d:CZ):AK0 rRep0:=(WA c3J)
#where
#where
section
variable {A:Around}{C a:qE}{E Q:qH}{H H':Hp}{P prog:qG}{X:Cx}{e:Expr}{es:BN}{h h':Heap}{qL:YP}{o:fG}{p pos:Pos}{qK:DC}{ps:AC}{s:qC}{sp:Sp}{ta te:TE}{u:qB}{v y:V}{w:World}{x:Str}{xs:ALZ}{σ:St}
inductive rAbs(xs:AA)(H:Hp)(Q:VK):Prop
 |mk (i:Int) (_:CSE) (_:QM BIH):fZ rAbs
def b6H:mZ "abs" rAbs:=by
 rw[nF c b];rw[GV i q h];rw[GV u a b.one];rw[HN a];exact call_abs_int λu tk=>⟨YL,H,DVQ,IC u,q⟩
def c7P{t:TA}(d:JQ "abs")(f:MY "abs")(b:ET)(c:CI:=by rfl)(a:HV:=by rfl):xT "abs" rAbs:=(AY2 F5 b6H c8u)
inductive rMaxQ(K:qF)(xs:AA)(H:Hp)(Q:VK):Prop
 |mk (k:Bool) (p:qE) (ns:qI) (_:sF) (_:C47 p) (_:0<ns.length) (_:∀M,M∈ns->DX a ns (a<=M)->QM M):lP rMaxQ
def b6y(K:qF)(D:DV)(B:AT:=by rfl):A7S "max" rMaxQ:=by
 subst B;rw[nF N L];rw[VN k p ns rfl hs x q];rw[T6 J L.one J];rw[RK y n M I.sqk hs];rw[B1A f y.length f];rw[C1Q E (I.ok.hd D)];have c:∀i v,BV6->∃t,v=E2E:=λi v w=>by
  rw[MA m AJ6 w]
  rw[EOK (List.getElem?_eq_some_iff.mp m) G E0I]
  rw[DR O e1 t e2 y.get G];rw[AGS m];rw[AY t (BE1 e2 List.getD_eq_getElem?_getD E0I)]
 refine call_max_walk (O1 n ?_);refine⟨s.heap.objs.size,_,_,_,_,_,_,rfl,CZR E (a5V n),b2M n,iU d,?_,CmpOf.ints_gt B27 c,DW v h' tk w F⟩
 .rw[AS0];rw[OU o n.get];have r:=pK;rw[AJV d d]
  rw[DGB]
  rw[BRN r]
 .rw[AD List.size_toArray (lq 0x4657974ca1d04865c5e x f)]
 .rw[HN (AE3 w)];obtain⟨z,A⟩:=DXS argBest_gt B27;rw[E4K g ns.length f.symm]
  have d:DXS argBest (λi j=>CJ (BED > BTZ))<ns.length:= TC 0x3f709f857b0d021007e55fb1eec85f x z g
  refine⟨YL,H,I.kept (t':=tk) (a5X F),B0Q,KH (q _ ?_) a C⟩
  .rw[F2 List.getD_eq_getElem?_getD BT0 List.getElem_mem d]
  .rw[AF5 C];have:=A i (XD c5F g);rw[wH e (ns.getD i 0=ns[i]) List.getD_eq_getElem?_getD XR]
   rw[JP e this]
def c4y(K:qF){t:TA}(g:JQ "max")(h:MY "max")(c:rX)(d:DV:=by rfl)(b:AT:=by rfl)(f:A0U:=by rfl)(a:A08:=by rfl):CU (ABG "max" ZU) (AQZ rMaxQ):=(C4R b6y c8s)
section
variable {k:Bool}
def c6g{α:Type}{M:Model}{c:Bool}{t u:BW0}{Q:BSU}(h1:DDK)(h2:LI M u Q):LI M (OO c t u) Q:=by
 cases c
 .exact h2
 .exact h1
#where
def a9f:qY "enumerate" "enumerate":=LW
section
variable {M:Model}
def Q0{nm q:Str}{N:qE}{bs bm:AN}{hdct:Bool}{sn:AC}{sub:AN}{ab:Bool}{col:vI}{dd:IM}{k0 k1 k2 k3 k5:U3}{qR:String}{g:wN}{d:Drawn}{t:Nat}{os:OsState}{e:qE}{k:Obj}{Q:fM}
  (j:E4S) (l:kF e k) (b:LH k.cls C)
  (a:BLH) (m:Q true BNK):EF8 OK:=by
 have c:A4F (AGU BK2 bm):=by rw[DWN a]
 have i:AW (PU (AGU BK2 bm) C):=by rw[LS List.contains_cons]
 rw[E50]
 repeat (first | rw[DO9 l b]|rw[DXI j] | (with_reducible rw[JZ wpAny_isSubtype_exc j];first|rw[c]|rw[i])|wp_step)
 exact m
#where
noncomputable def b6Z(K:qF)(D:qE)(tx:TX)(ts:TS):TS:=E3O (λσ1 C H'=>C=D/\CCM ts C)
def b7I{body:IY}{tx:TX}{ts:TS}{n:Str}{np m:Pos}{M:Stmt}{b:IY}{D:qE}(j:C2W)(x:B6H)(hx:PSx X body tx)
  (hg:JQ n) (hm:A65 n D) (Z:ClsX X.K D [])
  (A:B8G PSs M b ts) (hd:A9V n:=by decide) :
  PS X (CCY [C8I (AQ (.Name n np)) M b m]) (b6Z X.K D tx ts):=by
 rw[lY J h];refine wpAny_Try_except (EWA hx J)
 .cases f with
  |next=>rw[AZB q]
  |brk=>exact q
  |cont=>exact q
  |ret v=>exact q
 .obtain⟨σ1,H1,s1,p,C,H',B,a0,rfl,I1,hos,hbare,hU,hok,hp,fl,cov,hC,k⟩:=q;subst hC;rw[AE O DAE l fl];rw[j]at l;refine ER9 j x l λh4 i F=>?_;refine NW wpAny_landsW i W c d;rw[<-j]at c;have d:=F.trans d;have K:E4J W:=DKN O cov LP d;refine CPJ;refine K6 (X:=AOH) (K.held p) hg hm ?_ hd;obtain⟨oe,y,u⟩:=c.there;obtain⟨a1,q',R,U,T,w,a2,P,S,N,V,j0,j1,j2,j3,j5,o,E,t,_⟩:=Z.ex;refine Q0 (AH K.kIn E) y u t ?_;rw[CXP c Y r G];have Q:lS σ1 B5H (AC9 Y):=CYS O r d.trans G;refine BMF (A p qK _ _ _ J (Q.held p) CUJ) (DS f s8 a);cases f with
  |next=>rw[C7J]
  |brk=>rw[C7J]
  |cont=>rw[C7J]
  |ret v=>rw[CEK g g.unheld]
section
variable {k:Nat}{qM:Pos}{t:TA}
def c1n(K:qF){body:IY}{tx:TX}{ts:TS}{c:Str}{np b:Pos}{g:Stmt}{a:IY}{D:qE}(l:ECM)(j:JQ c)(k:A65 c D)(h:ECT)
  (f:B8G JB g a ts) (i:AT:=by rfl) (e:C2W:=by rfl) (d:B6H:=by rfl) (hd:A9V c:=by decide) :
  JS X (CCY [.ExceptHandler (AQ (.Name c np)) none (g::a) b]) (b6Z K D tx ts):=by
 subst i;exact⟨b7I e d l.h j k h (λp=>(f p).h) hd⟩
#where
section
variable (P:qG)(w:World)
#where
section
variable {o:HO}
#where
section
variable {x e:qE}{o':HO}
#where
section
variable {fs fs' ex ex':EI}{H1 H2:Hp}{h1 h2:Heap}{x e:qE}{o:HO}
#where
section
variable {σ:AI3}
#where
section
variable {a b:Expr}{tb:TE}
variable {tA tB':TT}{rest:BN}
#where
section
variable {xs ys:AA}
#where
section
variable {st:Stmt}{rest:IY}{t u:TS}
#where
section
variable {tg:Expr}
#where
section
variable {a b c:Expr}{tb tc:TE}
#where
section
variable {K:qF}{x dx f:qE}{mA:BJ}{name:Str}{v:qB}
#where
section
variable {dx:qE}{fs fs':OY}
#where
section
variable {dx:qE}{fs:OY}{f:Str}
#where
section
variable {o value:Expr}{f:Str}{pos' tpos:Pos}{tv:TE}
#where
section
variable {c:qB}{b:Bool}
#where
section
variable {t:TA}
#where
section
variable {s':qC}
#where
section
variable {CX:CXT}{k:Nat}{f:qE}{fd:FuncData}{dvs:AA}{ds:AN}{E:XK}{m:Str}{qO:Pos}{o:Expr}{t:TA}
#where
section
variable {CX:CXT}{k:Nat}{f:qE}{fd:FuncData}{ks:AC}{E:XK}{m:Str}{qO kpos:Pos}{o:Expr}{kws:A9T}{t tk:TA}{nm:D2F}
variable {g:EGU}{gV:E9O}
#where
section
variable {t:TA}{id T:String}{r:AKX}
#where
section
variable {κ:Type}[ALJ]
noncomputable def F9(qL:KJ)(k:κ):fG:=FQ (qL.find? λkv=>CJ (A6O=k)) (·.2)
noncomputable def putK(qL:KJ)(k:κ)(v:V):KJ :=
 if PV (AEW kv A6O) then qL.map (λkv=>if A6O=k then(A6O,v)else kv)else EM5
def G6{p:C2X}{r:KJ}{k:κ}(e:BUJ):F9 A7C k=some GW:=EFT
def G7{p:C2X}{r:KJ}{k:κ}(e:¬BUJ):F9 A7C k=F9 r k:=EFT
def S2(k:κ):∀qL:KJ,(AEW a QK)=(F9 qL k).isSome
 |[]=>rfl
 |A7C=>by
  rw[List.any_cons];rw[ALA]
  .simp only[yG,A75,Bool.true_or,Option.isSome_some]
  .rw[yH,AHS,Bool.false_or];exact S2 k r
def a9r(k j:κ)(y:V):∀qL:KJ,F9 CA4 j=(F9 qL j).map λx=>DWR (j=k)
 |[]=>rfl
 |A7C=>by
  have b:=a9r k j y r;rw[jX List.map_cons h CV k]
  .rw[yL];rw[GD CV j]
   .rw[C11 CM5,yG,Option.map_some,AZ9 e.symm.trans h]
   .rw[C12 CM5,yH,b]
  .rw[kX];rw[GD CV j]
   .rw[C11 p,yG,Option.map_some,DZM h]
   .rw[C12 p,yH,b]
def a6Z(k j:κ)(y:V):∀qL:KJ,A95->EPE (qL++[BH7])
 |[],_=>by
  rw[GD k j]
  .rw[AD D5B (C11 BH7)]
  .rw[AD (BC (λz=>e z.symm)) (C12 BH7)]
 |A7C,a=>by
  rw[List.cons_append];rw[dL b BUJ (by rw[AX (G6 z) a a])]
  rw[G7 b]at a;have c:=a6Z k j y r a;rw[GD CV j]
  .rw[yG,yG,DZM b]
  .rw[yH,yH,c]
def b6T(qL:KJ)(k j:κ)(y:V):EPE BYH:=by
 unfold putK;rw[fD C9H]
 .rw[YN,a9r];rw[S2]at a;rw[GD j k]
  .obtain⟨x,hx⟩:=Option.isSome_iff_exists.mp a;rw[NL,e,hx,Option.map_some,EJ]
  .rw[IX];cases CVN with
   |none=>rfl
   |some x=>rw[Option.map_some,IX]
 .rw[YM];refine a6Z k j y qL ?_;rw[S2]at a;cases q:pG with
  |none=>rfl
  |some x=>rw[q]at a;exact(a rfl).elim
def W4(qL:KJ)(k:κ)(v:V):vU putK qL k v<=qL.length+1:=by
 rw[bW putK]
 .rw[AD List.length_map b9B]
 .rw[BGB List.length_append List.length_nil];rw[VY 4030111308581]
def a5x{qL:KJ}{k:κ}(v:V)(h:A95):AWZ=EM5:=by
 unfold putK;rw[F2 S2 h if_neg AI]
def RelO.isSome_eq{u:U3}(r:DEC):o.isSome=u.isSome:=by
 cases o with
 |none=>cases u with
  |none=>rfl
  |some _=>rw[A0L r]
 |some _=>cases u with
  |none=>rw[A0L r]
  |some _=>rfl
def RelO.getD{u:U3}{d:V}{d':qB}(r:DEC)(a:RelV d d'):C0C d (u.getD d'):=by
 cases o with
 |none=>cases u with
  |none=>exact a
  |some _=>rw[A0L r]
 |some _=>cases u with
  |none=>rw[A0L r]
  |some _=>exact r
def KV.val{qL:KJ}{vs:A06}(r:eV)(k:κ):RelO pG (valueAt vs k):=by
 rw[C58];induction r with
 |nil=>exact True.intro
 |@cons p q ps qs h t a =>
  rw[NG h];rw[ALA]
  .rw[ETZ (valueAt A8I k=some DB) valueAt]
   rw[CM yG b h2]
  .rw[EKW (valueAt A8I k=CRR qs) valueAt]
   rw[CM yH b a]
def KV.any{qL:KJ}{vs:A06}(r:eV)(k:κ):(AEW a QK)=DDS a QK:=by
 rw[C58];induction r with
 |nil=>rfl
 |cons h t b=>rw[DWZ b DE]
def KV.repl{qL:KJ}{vs:A06}(r:eV)(k:κ)(c:MB) :
  KV CA4 (CPG vs.map (QK,u)):=by
 unfold KV at r⊢;induction r with
 |nil=>rw[A4J]
 |@cons p q ps qs h t b =>
  rw[E8J b];rw[NG h];rw[ALA]
  .rw[DQ2];rw[AY h1 c]
  .rw[E5R];rw[AY h1 h2]
def KV.put{qL:KJ}{vs:A06}(r:eV)(k:κ)(a:MB):KV BYH (stored vs k u):=by
 unfold putK stored;rw[r.any k];by_cases e:PV (DDS b dX)
 .rw[NL,NL];exact r.repl k a
 .rw[IX,IX];exact Paired.snoc r (EQ a)
def KV.length{qL:KJ}{vs:A06}(r:eV):BPF qL.length:=BTH
#where
def a4e{k:Key}(r:RelV (kV k) u):AW ((D5 P w).is k u):=by
 cases k with
 |inl i=>rw[E7X A66 b0o i]
 |inr x=>rw[E7X B3A b0n x]
def a7u{P:qG}{w:World}:∀{ks:WP}{us:AN},ADA ks.map kV us->ItemsAre A49 ks us
 |[],_,r=>by rw[C5R r r]
 |k::ks,_,r=>by
  rw[AYX r];cases r with
  |cons h t=>exact .cons (a4e h) (a7u t)
noncomputable abbrev KT(H:Hp):EK YP ALZ:=E6D EXA
def KT.val(r:A6M)(k:WP):RelO pG ((atKey xs k).map (·.2)):=by
 induction r with
 |nil=>exact True.intro
 |@cons p q ps qs h t a =>
  obtain⟨h1,_,h2⟩:=h;rw[ALA]
  .rw[ETZ (CU4 A8I DB) atKey]
   rw[CM yG b h2]
  .rw[EKW (atKey A8I k=atKey qs k) atKey]
   rw[CM yH b a]
def KT.repl(r:A6M)(k:WP)(d:MB) :
  KT H CA4 (xs.map (putAt k u)):=by
 induction r with
 |nil=>rw[A4J]
 |@cons p q ps qs h t c =>
  rw[E8J c];rw[rC h1 h2 b];unfold putAt;rw[ALA]
  .rw[DQ2];rw[BA h1 h2 d]
  .rw[E5R];rw[BA h1 h2 b]
def KT.put(r:A6M)(k:WP){b:qE}(c:A7W)(a:MB) :
  KT H BYH (storedH xs k b u):=by
 have e:(AEW d d.1)=EEC:=by
  rw[S2,(r.val k).isSome_eq,Option.isSome_map]
 unfold putK storedH;rw[e];by_cases q:AW EEC
 .rw[B0R,B0R];exact r.repl k a
 .rw[AI4,BC q];exact Paired.snoc r (cO c a)
def KT.keeps(r:A6M)(a:CO0 ys ys ys):KT H' qL xs :=
 ERD _ _ (AHG z.2.1)
def c5u{u:HO}(ok:TN)(e:C6K):AT5 u:=e.ok ok
def a4h{qL:KZ}(ok:TN)(e:C15):C9U :=
 show AT5 B43 from E18
def c6a{qL:KZ}(ok:TN)(e:AK3):C9U:=ECU a4h
def a1k{ks:WP}(ok:TN)(e:WV DE6):E8O h ks a:=by
 obtain⟨_,its,r,o,h1,h2,n,b⟩:=(CBE DE6 (ok a _ e));exact⟨o,its.toArray,n,h1,DJY,b,BL (a7u r)⟩
def a4g(ok:TN)(e:C16):DF1 (A5A /\
  EUL):=by
 obtain⟨z,y,xs,r,o,es,ep,h1,h2,d,f,g⟩:=CBE B44 E18;refine⟨z,y,xs,r,o,es,ep,h1,h2,d,f,AKO,g⟩;have all:∀{l:YP}{m:ALZ},KT H l m->FW m (E8O h EN dI):=by
  intro l m q;induction q with
  |nil=>intro x b;exact nomatch b
  |@cons p q ps qs c t i =>
   intro x b;rcases AHY with e|b
   .rw[CK];exact a1k ok (RZ LP LM)
   .exact i x b
 exact all r x b
def c5Z(ok:TN)(e:A0X):DF1 (A5A /\
  EUL):=ECU a4g
noncomputable def DGet(H:Hp)(a:qE)(y:V)(r:fG):Prop :=
 (∃qL k,C15/\E7A/\r=pG)∨∃qL k b,C16/\A84/\A7W/\r=pG
noncomputable def DPut(H:Hp)(a:qE)(y v:V)(H':Hp):Prop :=
 (∃qL k,AK3/\E7A/\A83/\H'=BHP AWZ) ∨
 ∃qL k b,A0X/\A84/\A7W/\A83/\H'=DSR
def DGet.k{H:Hp}{a:qE}{qL:KZ}{k:Key}(e:AK3):DCN D5Q:=EL (GJ qL k BR7 rfl)
def DGet.t{b:qE}{k:WP}(e:A0X)(c:A7W):DCN F0:=DP ⟨qL,k,b,BR7,rfl,c,rfl⟩
def DPut.k{H:Hp}{a:qE}{qL:KZ}{k:Key}{v:V}(e:AK3)(b:A83):DPut H a D5Q v (BHP AWZ):=EL ⟨qL,k,e,rfl,b,rfl⟩
def DPut.t{b:qE}{k:WP}(e:A0X)(c:A7W)(d:A83) :
  DPut H a F0 v DSR:=DP ⟨qL,k,b,e,rfl,c,d,rfl⟩
section
variable {r:qB}
def Inv.big(I:AL):mW sysModules:=by
 have h:mW mainGlobals:=(I.mod.glob.keeps I.bk).lt;exact Nat.lt_trans AI h
def b6o(r:sK)(I:AL)(g:CHX RX)(m:MB)(h:∀f s',A5R->AA4 f->nO f) :
  oM (IR getItem a u):=by
 rw[AN9 i i n]
 .subst i;rw[AY1];rw[ETA (CRR vs)];exact wpAny_getItem_of (a4e m) dd.mapOf hw DUN
 .subst i;rw[AY8 m];rw[ETA (BHH atKey xs k)];rw[BX p q j Option.map_eq_some_iff.mp hw];refine wpAny_getItem_heap (tupleKind_room_in1 r) E0E dd q ?_;rw[AD j DUN]
def c9H(j:sK)(I:AL)(g:AM3)(f:MB)(h:E8V o.isSome) :
  EJO .In:=by
 rw[AN9 d d i]
 rw[EZF wpAny_in_of]
 rw[F44 wpAny_in_heap]
def c4X(j:sK)(I:AL)(g:AM3)(f:MB)(h:E8V D16) :
  EJO .NotIn:=by
 rw[AN9 d d i]
 rw[EZF wpAny_notIn_of]
 rw[F44 wpAny_notIn_heap]
def a4R{t':Nat}{c:HO}(I:AL)(g:Mut (H a))(hs:C4K)(f:DQ3)(new:B62 (yZ c) h' a c) :
  JK (yZ c) AG4 :=
 B85 a a g NA (λb q d z=>BHQ d z) f new
def c1Y{qL:KZ}{vs:BX4}(z:BZ qL.length)(hd:A5A)(b:eV)(dd:h'.DictOf A49 a vs) :
  B8U H' a B43:=⟨z,hd,vs,b,dd⟩
def b6n{Q:A7D}(G:sK)(I:AL)(g:DPut H a y v H')(x:MB)(w:AA4 r)(h:C1P sL) :
  oM (setItem CC u r):=by
 rcases g with⟨qL,k,e,m,l,j⟩|⟨qL,k,b,e,m,p,l,j⟩
 .subst m j;rw[ET9 vs c6a vs.length d.length]
  rw[CDL n v v l]
  refine wpAny_setItem_pairs (hsz:=o) (a4e x) dd λh' f hs=>B3P;have F:DQ3:=CAE q i f (A6R i)
  exact a4R I AX3 hs F (c1Y n hd (d.put k w) f)
 .subst m j;cases(mI (BAB b) x);rw[ET9 xs c5Z xs.length (Paired.length d)]
  rw[CDL n v v l]
  refine wpAny_setItem_heap (hsz:=o) (tupleKind_room_in1 G) (a1k I.hok p) dd λh' f hs=>B3P;obtain⟨q,es,ep,i,h2,B,C,_,D⟩:=f;rw[EXN (A6R i) ⟨n,hd,_,(ES7 d.put p w t),q,es,ep,i,h2,B,C,D⟩ t t]
#where
section
variable {qL:KZ}{k:Key}
#where
noncomputable def c8B(i:Expr):Prop:=∀ov iv,subscripted i false ov iv=C5V [ov,iv] ov iv
def c2F{env:Env}{value a:Expr}{T id:String}
  (c:EF3) (hs:c8B a)
  (h:E7I (BY1 value) (fY (eval a env) (λi s₂=>s₂.TypeIs o T/\fY (getItem o i) Q E s₂) E s₁)) :
  EE (BY1 (BF6 value a)):=by
 refine Subscript_ (A94 h (λo s₁ h₁=>A94 h₁ (oA s₂ h₂)));obtain⟨b,h₂⟩:=h₂;unfold subscriptTail;rw[OR];rw[getitemInPython_of_ne b.not_modules];rw[BVC b c];have fin:fY (subscripted a false o i) (λr s₃=>fY (letTemporaryGo value o r>>=DF rY) Q E s₃) E s₂:=by
  rw[BB (hs o i) wpAny_operating (A94 h₂ (λr s₃ h₃=>AYN (nV wpAny_letTemporaryGo h₃)))]
 first
  |rw[BVG wpAny_bind fin]
  |rw[A6Y (BKY fin)]
  |rw[A6Y fin]
def b0Q(I:AL)(g:AM3):DNE:=by
 rcases g with⟨qL,k,e,_,_⟩|⟨qL,k,b,e,_,_,_⟩
 rw[DXH vs D9J]
 rw[DXH xs D9K]
inductive tDGetI(Q:VK)(x:V)(y:V)(H2:Hp):Prop
 |mk (a v:_) (_:IW) (_:CNK RX) (_:Q v H2):tDGetI Q x y H2
noncomputable def c5m(td ty:TE):TE:=NI td x (ty σ H1 (tDGetI Q x))
inductive tDInI(Q:VK)(y:V)(x:V)(H2:Hp):Prop
 |mk (a o:_) (_:IW) (_:C4D) (_:yD o.isSome H2):tDInI Q y x H2
noncomputable def c6q(ty td:TE):TE:=EIR tDInI
inductive tDNotInI(Q:VK)(y:V)(x:V)(H2:Hp):Prop
 |mk (a o:_) (_:IW) (_:C4D) (_:yD D16 H2):tDNotInI Q y x H2
noncomputable def b3G(ty td:TE):TE:=EIR tDNotInI
inductive sDPutI(D:Ends)(σ:St)(v:V)(x:V)(y:V)(H3:Hp):Prop
 |mk (a H4:_) (_:IW) (_:DPut H3 a y v H4) (_:AAK H4):sDPutI D σ v x y H3
noncomputable def c5t(td ty tv:TE):TS:=A0A tv v (VJ td x (ty σ H2 (sDPutI D σ v x)))
section
variable {o i value:Expr}{pos' tpos:Pos}{td ty tv:TE}
def c3E(j:A03)(f:A07)(hi:B53)(hs:c8B i):BVX o i DOQ:=by
 rw[MZ];refine c2F PySem.F.slot_dict_getitem.lookup hs (thn (UH f) λu s1 (RU x d m k)=>A6A hi d k q p);rw[CZV y n v];rw[AY (b0Q c g) (b6o j c g n λt r e b=>VX v e b l)]
def b8h(f:A03)(hi:B53)(e:A07):PC X .In i o DU7:=by
 rw[F56 c9H j.isSome]
def b5u(f:A03)(hi:B53)(e:A07):PC X .NotIn i o (b3G ty td):=by
 rw[F56 c4X (! j.isSome)]
def c3i(k:A03)(j:A07)(hi:B53)(l:DQZ)(hs:DNC) :
  B5F PS BMB E89:=by
 rw[VU];refine wpAny_Assign_Subscript (thn (UH l) λr s1 (RU v c q m)=>thn (AAQ j c m) λu s2 ⟨x,H2,d,t,n⟩=>FC (AXJ hi d n) B C z) hs;obtain⟨y,A,e,w,a,b,ex,g,p⟩:=z;rw[ABV t];exact b6n k e g w q λE f=>wD b f p
#where
def b0P(h:Heap)(a:DWC):EEV ACT :=
 ⟨F1,EFJ,[],.nil,Heap.DictOf.new h⟩
def c1W(h:Heap)(a:DWC):EEV ACU :=
 ⟨F1,EFJ,[],.nil,_,#[],0,JV,BXA,rfl,rfl,List.nodup_nil⟩
noncomputable def b7d:TE:=DH9 .dK
noncomputable def b7c:TE:=DH9 .dT
def b8c:EDH b7d:=λqK s σ H Q I h =>
 F2B ACT DSN
def b8b:EDH b7c:=λqK s σ H Q I h =>
 F2B ACU (CTA c1W)
noncomputable def b1p:A0P->St->ACS D4K
 |[],_,H,Q=>Q [] H
 |dE tk tv,σ,H,Q=>(cR tk x (VJ tv y (b1p r σ H2 λps H3=>Q E9Z H3)))
noncomputable abbrev VV:EK (A1A V) DCF:=E6D (RelV CV ED/\E39)
noncomputable def PPs(X:Cx)(pos:Pos)(keys:AI2)(values:BN)(trs:A0P):Prop :=
 B5E D4K (sS b1p trs ->
  ZY (evalPairs (pairTrees keys values X.env pos)) (λvs s'=>∃ps H',sL/\VV ps vs/\UE ps))
def c3l:AKY [] [] []:=lQ Q h (EFK pairTrees_nil_walk)
def b7N{k v:Expr}{ks:AI2}{vs:BN}{tk tv:TE}{trs:A0P}(f:DJ k tk)(i:DJ v tv)(g:AKY ks vs trs) :
  AKY A6D A68 EHH:=λqK s σ H Q I h =>
 pairTrees_cons_walk (thn (UH f) λu s1 (RU x c n j)=>A8Q i c j (λq s2 ⟨y,H2,d,o,l⟩ =>
  thn (AXJ g d l) λws p ⟨ps,b,e,a,m⟩=>⟨E9Z,b,e,.cons ⟨n,o⟩ a,m⟩))
noncomputable def a3y(qL more:KZ):KZ:=more.foldl (λqP kv=>putK qP A6O kv.2) qL
def KV.merge:∀{more:KZ}{a:BX4}{qL:KZ}{vs:BX4},KV more a->eV->KV (a3y qL more) (merged vs a):=by
 intro more a qL vs r;rw[C58];induction r generalizing qL vs with
 |nil=>intro q;exact q
 |@cons p q ps qs h t b =>
  intro c;have e:KV (putK qL CV GW) (stored vs ED DB):=by
   have:=c.put CV FD;rw[JP DE this]
  exact b e
def a1W:∀(more qL:KZ),IS a3y qL more<=qL.length+more.length
 |[],qL=>UG (qL.length<=qL.length+0) lq 4870571525
 |A7C,qL=>by
  rw[TB (a1W r DUV) (CWV W4)];show IS a3y DUV r<=_;rw[DJ5 0xaefac0b1f143c834318 h1 h2]
def a6u{P:qG}{w:World}:∀{qL:KZ}{ws:DCF},VV (qL.map λe=>(kV e.1,e.2)) ws->∃d,Carries A49 ws d/\KV qL d
 |[],_,r=>by rw[AX List.map_nil r r];rw[BA [] True.intro .nil]
 |p::qL,_,r=>by
  rw[AYX r];cases r with
  |@cons a b as bs h t =>
   obtain⟨d,c,q⟩:=a6u (P:=P) (w:=w) t;obtain⟨g,f⟩:=b;rw[BA ((CV,f)::d) (EW (a4e DE) c) (.cons (EQ FD) q)]
noncomputable def c5l(trs:A0P):TE:=gR (AO2 (b1p trs σ (CUO .dK) λps H2=>H2 p=BU .dK []/\∃qL:KZ,ps=qL.map (λkv=>(kV A6O,kv.2))/\qL.length<=15/\mC (PM H2 p .dK (a3y [] qL))))
def c3D{b:AI2}{d:BN}{trs:A0P}(h:AKY b d trs)(g:DY b.all ((·.isSome)))(n:b.length=d.length)(h0:B0P)
  (i:b.length<=15):nA .Dict b d DVV:=by
 rw[lY Q q];rw[AE p (D1L Nat.le_refl s.heap.objs.size) l (EZ7 ACT CUC BLM BO DSN)];refine wpAny_Dict_walk (knd:=AXG) g n h0 i (FC (E55 _ _ l (q _ p)) ws s2 A);obtain⟨ps,H2,k,j,e,qL,ep,lk,t⟩:=A;subst ep;rw[ACF c v (a6u (P:=X.prog) (w:=X.w) j)];obtain⟨z,hd,y,u,dd⟩:=c6a k.hok e;cases u;rw[GA x c dd (λh' f hs=>AB7 ?_ t)];have r:BZ (IS a3y [] qL):=by
  rw[GL h1 (a1W qL []) List.length_nil h1];rw[AD sizeLine_eq (lq 0x22e45cc7d9b978485a3ff7e71566 lk h1)]
 have m:∃q,BY4 q:=CAE q hq f (A6R hq)
 exact a4R k AX3 hs m (c1Y r hd (v.merge .nil) f)
structure M1(X:Cx)(o:Expr)(m:Str)(qO:Pos)(e:Expr)(qM:Pos):Prop where
 base:eG m
 few:PV (BAZ ZU
  && E3Q ZU)
 line:TQ
 trees:backTo qM BR4=BF8 lW
structure M2(X:Cx)(o:Expr)(m:Str)(qO:Pos)(e f:Expr)(qM:Pos):Prop where
 base:eG m
 few:PV (BAZ wZ
  && E3Q wZ)
 line:TQ
 trees:backTo qM (WC wZ)=COM lW (QY f)
noncomputable def IsD(H:Hp)(a:qE):Prop:=(∃qL,C15)∨∃qL,C16
def b2O(I:AL)(d:IsD H a) :
  DNE/\(∀b,LH AVL b->∃c,AZR c/\MQ c.dict)/\A5A:=by
 rw[DWY d e e]
 rw[F4V vs D9J]
 rw[F4V xs D9K]
section
variable {d:V}{r:qB}
def c8n(m:sK)(I:AL)(g:AM3)(f:MB)(h:∀i s',A5R->C0C .non i->nO i) :
  DN9 [CC,u]:=by
 rw[AN9 d d j]
 .subst d;rw[AY1];rw[F2P (meets_dict_get AXG a CRY hd) DYD]
 .subst d;rw[AY8 f];rw[F2P (meetsH_dict_get CWS a b hd) ⟨tupleKind_room_in1 m,k,xs,a1k I.hok j,dd,BOG⟩]
def c8m(p:sK)(I:AL)(g:AM3)(j:MB)(i:RelV d r)(h:∀m s',A5R->C0C d m->nO m) :
  DN9 [CC,u,r]:=by
 rw[AN9 f f n]
 .subst f;rw[AY1];rw[F25 (meets_dict_get_default AXG a (a4e j) hd r) DYD]
 .subst f;rw[AY8 j];rw[F25 (EN7 meetsH_dict_get_default) ⟨tupleKind_room_in1 p,k,xs,E0E,dd,BOG⟩]
#where
noncomputable def b7f(td ty:TE):TE:=CYJ (∃o,C4D/\Q (o.getD .non) H2)
noncomputable def b7e(td ty tx:TE):TE:=EFA (∃o,DGet H3 a y o/\Q (o.getD z) H3)
section
variable {o f:Expr}{qO qM:Pos}{td ty tx:TE}
def b8e(l:A03)(k:A07)(j:BX6)(m:F0H):DJ (B5I ZU) DOR:=by
 rw[EWN k w q n w];rw[CDH q t v (b2O c d) t v (thn (AAQ j c n) λz s2 ⟨y,H2,f,r,A,g,p⟩=>CRP)];exact c8n l f g r λC B i b=>VX _ i b p
def b8d(r:A03)(q:A07)(n:BX6)(p:DZ5)(m:DPO):DJ (B5I wZ) DO6:=by
 rw[EWN q F A t F];rw[CDH A D E (b2O c d) D E (A8Q n c t (λJ s2 (VX y j B v) =>
  DVT p j v G L ⟨z,i,k,C,K,g,w⟩))]
 exact c8m r k g B C λN M l b=>⟨_,i,l,b,w⟩
#where
section
variable {qL:KZ}
#where
#where
universe L2
namespace Att
open PySem PySem.W PySem.Calls PyProof.Rows
section
variable {prog:qG}{w:World}{A:Around}{E:qH}{s:qC}{K:Frag}
#where
universe Att
namespace L2
open PySem PySem.Spec PyProof.Rows
section
#where
section
section
variable {P:qG}{w:World}{K:qF}{mg:BJ}{base:Heap}
#where
section
variable {X:Cx}
#where
section
variable {κ:Type}[ALJ]
def a9q{qL:KJ}{k:κ}(h:A95):¬E8K:=by
 intro m;rw[BX p a e List.mem_map.mp m];have q:C9H:=List.any_eq_true.mpr ⟨p,a,A75⟩;rw[S2,h]at q;rw[EV q AJ]
def b3y{qL:KJ}{k:κ}{v:V}(h:BY2):E8K:=by
 have q:C9H:=by
  rw[S2,h]
  all_goals rfl
 rw[BX p a e List.any_eq_true.mp q];exact List.mem_map.mpr ⟨p,a,yI⟩
def a8v:∀{l:qA κ}{k:κ},l.Nodup->¬k∈l->(l++[k]).Nodup
 |[],k,_,_=>AJ
 |a::r,k,h,b=>by
  rw[B4O];show(a::(r++[k])).Nodup;rw[D1Y ⟨MN m,a8v h2 λm=>b (List.mem_cons.mpr (Or.inr m))⟩];rw[DB1]
  .exact h1 q
  .exact b (List.mem_cons.mpr (Or.inl (aD List.mem_singleton.mp q)))
#where
#where
section
open PySem.W
variable {A:Around}{D:AIJ}{E:qH}{O:KeyOrd}{Q:aF qJ}{X:Cx}{a ep i j k lo n:Nat}{a0 qQ:AR}{d:qE}{es:yE}{h:Heap}{key x:Keyed}{l rest:LZ}{left:Bool}{prog:qG}{rss:LLI}{runs:qU}{s:qC}{st st':SortSt}{vs:AN}{w:World}{α:Type}{κ:SortKind}
section
variable {key:D50}{N:Nat}{p:rM}
noncomputable def kk(key:D50)(p:rM)(i:Nat):O.α:=key (p[i]?.getD 0)
noncomputable def PB(N:Nat)(p:rM):Prop:=p.Perm (List.toArray (List.range N))
#where
def G4:∀a:qI,jM a a
 |[]=>rfl
 |IO=>by rw[F2 HT.lexLt_cons EJ G4 xs]
def a1D:∀a b c:qI,DQE->DQG->DQF
 |[],[],_,h,_=>VW
 |HI,[],_,h,_=>VW
 |_,HI,[],_,h=>VW
 |[],HI,HI,_,_=>rfl
 |IO,NU,z::zs,h1,h2=>by
  rw[HT.lexLt_cons]at h1 h2⊢;rw[BM e1 x y]
  .rw[CO e1]at h1;rw[BM e2 y z]
   .rw[CO e2]at h2;rw[AD (AZ9 e1.trans e2) (a1D xs ys zs h1 h2)]
   .rw[BC e2]at h2;rw[CM (LK (by rw[AD e1 e2])) e1 h2]
  .rw[BC e1]at h1;have h1:=of_decide_eq_true h1;rw[BM e2 y z]
   .rw[LK (by rw[JP e2 e1]),<-e2];rw[DBZ]
   .rw[BC e2]at h2;have h2:=of_decide_eq_true h2;rw[BB (BC (AL0 0x4657a03a9eed92c3b8e)) decide_eq_true (AL0 0xf8c34121c3b8e)]
def N4:∀a b:qI,jM a b->DS7->a=b
 |[],[],_,_=>rfl
 |[],HI,h,_=>VW
 |HI,[],_,h=>VW
 |IO,NU,h1,h2=>by
  rw[HT.lexLt_cons]at h1 h2;rw[GD x y]
  .rw[CK];rw[EJ]at h1 h2;rw[N4 xs ys h1 h2]
  .rw[IX]at h1;rw[E2X]at h2;rw[AE h1 (of_decide_eq_false h1) h2 (of_decide_eq_false h2)];omega
def c4m(a b c:qI)(h:DQF):DQE∨DQG:=by
 cases h1:HT.lexLt a b with
 |true=>exact .inl rfl
 |false =>
  rw[JR .inr];cases h2:HT.lexLt b a with
  |true=>exact a1D b a c h2 h
  |false=>rw[JP (N4 a b h1 h2) h]
noncomputable def OL:KeyOrd:=⟨qI,HT.lexLt,G4,a1D,c4m,N4⟩
noncomputable def G2(qN:LLI):Prop:=qN.Pairwise λa b=>DS7
noncomputable def c4n(fin:Bool):E5T
 |[],_=>fin
 |HI,[]=>fin
 |IO,NU=>BMZ (c4n fin xs ys)
def b0y:∀(xs ys:qI),c4n (CJ (xs.length<ys.length)) xs ys=A4C HT.lexLt
 |[],[]=>rfl
 |[],NU=>by
  show BE4 (0<ys.length+1);exact decide_eq_true D1E
 |IO,[]=>by
  rw[E06 (AZA<0) (KP 21542613500661)]
 |IO,NU=>by
  rw[HT.lexLt_cons];show MW (x=y) _ _=_;split
  .rw[<-A4C b0y];congr 1;simp only[List.length_cons];exact decide_eq_decide.mpr AF
  .rfl
def b5x{c:Bool}{a b:Int}{t u:Tok}{Q:fM}(h:Q (decide (a<b)) s):EE (oneLt' c ALR (.int b u)):=by
 cases c with
 |true=>exact oneLt_int h
 |false=>exact AH kat_one (lt_int h)
def b0C{b fin:Bool}{Q:fM}{ws:AN}{ns ms:qI}(i:Nat)(h1:A8G)(h2:BWF ws)(h:Q (c4n fin ns ms) s):cS KatLex A b fin Q (vs.zip ws) i s:=by
 induction h1 generalizing ws ms i with
 |nil=>exact h
 |cons x t d c=>cases h2 with
  |nil=>exact h
  |cons y u a =>
   rw[List.zip_cons_cons];rw[cW kat_cons wpAny_eqBool_int];have h:Q (BMZ (c4n fin _ _)) s:=h;rw[GD x y]
   .rw[NL]at h;rw[BB (show WG x y from beq_iff_eq.mpr e) kat_yes (c AO a h)]
   .rw[IX]at h;rw[AD (show ANF x y from beq_eq_false_iff_ne.mpr e) (kat_no (b5x h))]
noncomputable def TupsAre(h:Heap)(vs:AN)(rss:LLI):Prop:=vs.length=rss.length/\GC i Nat v qB A4B (∃(r:qI) (b:qE) (its:CY),BWW/\BXJ v/\B3N/\C6S)
def TupsAre.keeps{h':Heap}(t:ASL h)(k:∀b its,B3N->APO h'):ASL h' :=
 ⟨t.1,OM v (CCD r b its (t.2 i v e) ⟨r,b,its,e1,e2,AZE e3,e4⟩)⟩
def a9t{h:Heap}:∀{vs:AN}{rss:LLI},ASL h->BYE->∃fs,KatTups h vs fs/\BPF fs.length/\∀f∈fs,∃n t,f=DMB
 |[],_,_,_=>A3X [] trivial QJ
 |A68,[],T,_=>by cases T.1
 |A68,B38,T,hw=>by
  rw[B6A fs k (a9t (vs:=vs) (rss:=rss) ⟨by rw[vR T.1],OM u (T.2 AO u e)⟩ λr c=>hw r BS9)];obtain⟨s,b,its,e1,e2,⟨o,m,p,n,q⟩,d⟩:=T.2 0 v rfl;cases e1;have c:=hw r List.mem_cons_self;obtain⟨x,t,g,j⟩:∃x t g,its.toList=Value.int x t::g:=by
   generalize its.toList=l at d;cases d with
   |nil=>simp at c
   |cons x t h=>rw[EF x t _ rfl]
  rw[GA (.int x t::fs) ⟨⟨b,o,its,n,e2,m,p,q,?_⟩,h1⟩ (IF h2) (jI f)]
  .rw[D1G j];rfl
  .rw[lM]
   .rw[BA x t rfl]
   .exact k f a
def b4U{Q:MM SortKind}(T:B4S)(hw:B58)(a:D5E)(h:Q (tuples' true) s):EE (D0S keyKind'):=by
 rw[B6A fs b (a9t T hw)];refine kat_kind (T:=AVJ) h1 (AU 0x46f5808b701f8d3e85e a h2) BWU rfl ?_
 .rw[LU n t (b v a)];exact .now
 .rw[AD (pV (PV (AQD "int" != DDV))) h]
def a0H{a:qE}{out:CY}:gT BSC pY (GP (EER).get?):=QC o c (by
 unfold sortedHeap;rw[AD (BT6 c) (nQ (wJ (BT6 c)))])
def a1T{a:qE}{out:CY}(e:XY (tS vs.toArray n)):∃c,PY (EER).get? (tS out c):=by
 unfold sortedHeap;have f:B36:=pK;rw[LV e1 b (∃e1,BO5 (E2T get?)) _ (get?_update_seq e BS6)];rw[ESS (E2T push) (nQ b)];rw[RW (get?_update_seq d (DF out))]
def a6c{qK:DC}{σ:St}{H:Hp}(I:AL){ys:AA}{us:AN}(h:BU5)(r:A7M):TupsAre s.heap us rss:=by
 rw[FT (BKM DE) BW9];have hi:i<ys.length:=by rw[r.length];exact A8K
 rw[YJ e1 e2 (BQ9 r.get hi)];rw[aS e1 e1];obtain⟨b,c,a,d,f⟩:=A89 FD i hi;rw[AX d e2 e2];rw[AZ2 g j (EH7 f)];exact⟨b,a,its.toArray,c,rfl,j,BL (a2y g)⟩
noncomputable def W7:Bool->Keyed->AR->Nat->Nat->Nat->AJQ:=sortPriv% PySem.Builtin.gallop
noncomputable def W9(left:Bool)(key:Keyed)(qQ:AR)(base:Nat)(i:Nat):BAX qD Bool:=do
 let x <-elem' qQ (base+i)
 if left then lt' x key else return (<-lt' key x).map (!·)
noncomputable def c5b(left:Bool)(key:Keyed)(qQ:AR)(base n lo₀ hi₀:Nat):AJQ:=do
 let mut lo:=lo₀
 let mut hi:=hi₀
 for _ in [0:n] do
  if lo ≥ hi then break
  let m:=lo+(hi-lo) / 2
  let some more <-W9 left key qQ base m|return none
  if more then lo:=m+1 else hi:=m
 return some hi
def b2Q(left:Bool)(key:Keyed)(qQ:AR)(base n a:Nat):F10=(W9 left key qQ base a>>=λr=>match r with
 |AQ right=>(if AW right then
   (EZH AEU (a+PQ) (match r with
     |AQ more=>(A3Z (A60 more) BI9 (iX E1U))
     |_=>B8T) (match LP with
    |fF=>rY
    |none=>CDM (a+LM+1) (a+min PQ AEU)))
  else
   (EZH bE (a-PQ) (match r with
     |AQ found=>(DTN found E1U)
     |_=>B8T) (match LP with
    |fF=>rY
    |none=>CDM (bE-min PQ bE) (a-LM))))
 |_=>DBT):=by
 rw[BOC r];cases r with
 |none=>rfl
 |some right =>
  dsimp only;refine ite_congr rfl wP wP
  .rw[iN (A5E c) c]
   .rfl
   rw[B4E]
  .rw[iN (A5E c) c]
   .rfl
   rw[B4E]
section
noncomputable def Cmp(prog:qG)(w:World)(A:Around)(s:qC)(κ:SortKind)(D:AIJ)(lt:C7O):Prop :=
 ∀x y (C:fM),D x->D y->C (lt x y) s->FN KK A (keyLt' κ EN bN) C AK8 s
variable {lt:C7O}
def a2C{y:Keyed}{Q:AWF}(a:CBZ)(c:JH)(d:D x)(e:D y)(h:oX D7B st):HA (lt' x y):=by
 rw[lt'_eq];rw[qX];rw[c];rw[LJ (wpS_lift (wpAny_attempt (gX (a x y (λb s'=>s'=s/\b=D7B) d e ATI) (DS b s' ⟨e1,e2⟩) _ _ z z.elim)))];rw[A6E];exact GH rfl wpS_pure h
noncomputable def c2t(lt:C7O)(left:Bool)(key x:Keyed):Bool:=if left then lt x key else !(lt key x)
def b1d{base:Nat}{Q:AWF}(b:CBZ)(c:JH)(a:D key)(d:D x)(e:E2Z)(h:oX EWZ st) :
  HA CUD:=by
 unfold W9;rw[elem'_eq,e];rw[u8 wpS_pure];rw[v6 c2t];cases left with
 |true=>exact a2C b c d a h
 |false=>exact wpS_bind (a2C b c a d (wpS_pure h))
def b4u(n:Nat):∃m,n / 2=m/\2*m<=n/\n<2*m+2:=UU AF AF
def b3w{base hi:Nat}(a:fL)
  (p:EV5 a) (mono:B97 (DY a j) ASW) (neg:B97 BET (JL a j))
  (h1:DIL) (h2:hi<=n) (z:r6 lo ASW) (B:uK hi LR BET)
  (h:EMS ASW (BHY k)):HA (CDM lo hi):=by
 rw[A6Q c5b];rw[AF7 (AGR (st'=st/\BG1 (l<=r/\r<=n/\r-l<=n-x/\CMP/\BHY r))
  (Q:=v1 (st'=st/\∃l,c=ZS l l/\l<=n/\CMP/\BHY l))) ⟨rfl,lo,hi,rfl,h1,h2,rP 0x48cb712f83535be31e50b51a678d7d7,z,B⟩]
 case fin =>
  rintro c st' ⟨rfl,l,r,rfl,o,d,t,f,g⟩;have e:l=r:= ~~~c9j o t
  rw[CK];rw[GZ rfl l rfl d f g]
 case step =>
  rintro x c st' _ C ⟨rfl,l,r,rfl,o,d,t,f,g⟩;rw[BJ7 DXK]
  .rw[if_pos b];have e:l=r:= ~~~c0y o b
   rw[CK];rw[mR (y7 l rfl d f g)]
  .rw[AKF];rw[DR m u y D b4u (r-l)];rw[u];clear u;have q:l+m<n:= ~~~lq 0x3944b8820e7d4842c3ebc41bd6e2f317037d8 d b y
   rw[YE (p _ q ?_)];cases v:a (l+m)with
   |true =>
    rw[q8 EJ ⟨rfl,_,r,rfl,AU 0x40c104bd28b015d12ca3cb801d3c24d7 b y,d,AF,XO (mono i _ DC0 q v),g⟩]
   |false =>
    rw[q8 xM ⟨rfl,l,_,rfl,BPY,~~~c0f q,AF,f,E6U _ v⟩]
 case post =>
  rintro c st' ⟨rfl,l,rfl,d,f,g⟩;rw[mR (h l d f g)]
def M9{base:Nat}(C:CBZ)(G:JH)(y:D key)(d:fL)
  (t:BKZ (∃x,E2Z/\D x/\EWZ=d i)) (mono:B97 (ACO j) (ACO i)) (u:a<n)
  (h:EMS (ACO i) ((uK k LR (JL d i)))):HA F10:=by
 have p:EV5 d:=λi hi R hR=>by
  obtain⟨x,e1,e2,B⟩:=vJ t;exact b1d C G y e2 e1 (AG B hR)
 have neg:B97 (JL d i) (JL d j):=λi j z F e=>by
  cases e2:d j with
  |false=>rfl
  |true=>rw[FH (mono i j z F e2)]
 rw[b2Q];rw[YE (p a u ?_)];cases v:d a with
 |true =>
  rw[EJ];rw[EY8 (DI5 (a+l<n) CMH
   (Q:=v1 (BDZ (a+l<n/\CMH/\(o ≥ AEU∨JL d BKE))))) AF]
  case fin =>
   rw[EYX (BH 0xe2a2d1d26169fd227c090346ae87cbc5f r)]
  case step =>
   rw[F5Q AEU]
   rw[EAE]
   .rw[AKF];rw[YE (p _ DE1 ?_)];cases t:d BKE with
    |true =>
     rw[EZG DE1]
    |false =>
     rw[q8 (iO (by rfl)) DIH]
  case post =>
   rw[F34 (a+l+1) (a+min o AEU) (AU 0x1fe90b5b81c42cadd04f6cf8200cb94aa32c72798 f g) 0xc14f121463995e29557949276d97 (XO (mono i (a+l) DC0 g m)) C71]
   .omega
   .exact neg BKE i (AL0 0x4c991291fb9ffe4837e90c31cc8d0d8b18b18) h2 q
 |false =>
  rw[aV];rw[EY8 (DI5 (l<=a) CMG
   (Q:=v1 (BDZ (l<=a/\CMG/\(o ≥ bE∨ACO BKV))))) BPZ]
  case fin =>
   rw[EYX (AU 0x17c4bb3a3078b24baf0cf97 u r)]
  case step =>
   rw[F5Q bE]
   rw[EAE]
   .rw[AKF];rw[YE (p _ DJA ?_)];cases t:d BKV with
    |true =>
     rw[q8 EJ DIH]
    |false =>
     rw[EZG (B05 4044305397302)]
  case post =>
   rw[F34 (bE-min o bE) (a-l) (BH 0xa7913af410859b2f3fddb2bcda36c21cc55aeaffdb97 f) 0x5836850d16cd7d22d97 DQP (E6U (a-l) m)]
   .omega
   .exact mono i BKV (A76 0x12b267fc7e05e39232a97a3fd808fd17a32b79652d0bd7) DJA q
#where
section
variable {kf:DM}{la lb o:LZ}{ia ib:Nat}
noncomputable def leK(kf:DM)(x y:Keyed):Prop:=E4R O.kle
noncomputable def ltK(kf:DM)(x y:Keyed):Bool:=E4R O.blt
structure MS(kf:DM)(la lb o:LZ)(ia ib:Nat):Prop where
 perm:o.Perm (la.take ia++lb.take ib)
 sorted:BUD
 ra:FW o (kC xU)
 rb:FW o (kC AGI)
def a1J{l:CL}{x:α}(h:yU):l.drop i=x::BUV:=by
 rw[OU hi D3U];rw[List.drop_eq_getElem_cons hi,e]
def a0Q(hs:AIU)(h:yU):kC BUV:=by
 rw[MR (hs.drop (i:=i)) (a1J h)];exact BSN List.pairwise_cons.mp
def a0j{l:CL}{x:α}(h:yU):l.take AO=BS5++[x]:=by
 rw[D4Y h]
def MS.stepA(h:A14)(hs:zM)(e:DK1)(c:DD4):DN0 OS ib:=by
 rw[ER d (x∈xU) AZU List.mem_cons_self]
 rw[EP2]
 .rw[AHT];have:=h.perm.append_right SW;rw[JR this.trans];rw[DZK List.append_assoc List.perm_append_comm]
 rw[AX6 h.sorted (BS List.pairwise_singleton) (λz b y a=>AG A4P (h.ra z b x d))]
 .rw[ER hy' (y∈xU) AZU jK]
  rw[XW AVO]
  .exact h.ra z q y hy'
  .rw[AD B24 DUT]
 .rw[XW AVO]
  .exact h.rb z q y a
  .rw[AD B24 (c y a)]
def MS.swap(h:A14):MS kf lb la o ib ia:=EWQ
def MS.stepB(h:A14)(hs:zN)(e:dP lb ib)(a:DD3):DN0 ia OH :=
 EX6
def MS.bulkA(hs:zM):∀(k:Nat) {o:LZ}{ia:Nat},A14->ia+k<=la.length->(∀i x,i<k->AWJ (ia+i)->DD4)->EAG la.drop ia dV ib
 |0,o,ia,h,_,_=>D7M List.take_zero h
 |CF,o,ia,h,c,b=>by
  rw[C59 x a x DK1 (AI0 0x16f807a4edb4615d7)];rw[TB (h.stepA hs a (b 0 x D1E a)) (MS.bulkA hs k h1 (AI0 0x22a8bcca752f15d7) λi y hi e=>b AO y (A76 4408654223766) (by rw[<-e];congr 1;exact c0C))];rw[a1J a,List.take_succ_cons];rw[List.append_assoc]at h2;rw[AD (B13 (ia+A2U) (OS+k) c0C) h2]
def MS.bulkB(hs:zN)(h:A14)(b:DM7 ib)(a:∀i x,i<k->dP lb (ib+i)->DD3):EAG lb.drop ib ia (ib+k) :=
 (MS.bulkA hs k h.swap b a).swap
noncomputable def a3V(kf:DM)(la lb o:LZ):Prop:=o.Perm (la++lb)/\BUD
def MS.done(h:A14)(hs:zM)(b:ib=lb.length):B92 o xU AGI:=by
 subst b;rw[BPO List.drop_length];rw[EBK List.take_length]
 .rw[DO (IJ a.append_right _ ?_) List.append_assoc];rw[ENQ]
 rw[DTH h.ra]
def MS.lastA(h:A14)(a:zM)(hs:zN)(c:RB AGI (B5Y xU)):B92 o AGI xU:=by
 rw[HS ?_]
 .have hp:=(h.perm.append_right (lb.drop ib)).append_right (la.drop ia);rw[JR hp.trans];rw[DXU ia,List.take_append_drop,List.append_assoc];rw[ENQ]
 .rw[EFV a.drop]
  rw[DTH h.rb]
  .rw[DB0]
   rw[B8S h.ra]
   rw[B8S c]
#where
noncomputable def a5K:EGV:=sortPriv% PySem.Builtin.mergeLo
noncomputable def a1A(g:Nat):DAO:=modify λs=>BV2 BUF s ATS g (failedOf s)
noncomputable def V1(a b out:AR)(ia ib:Nat):AR:=out++EGK++EGL
noncomputable def a2u(a b out:AR)(ia ib:Nat):AR:=out++EGL++EGK
noncomputable abbrev T1:Type:=B8P×AR×Nat×ALD
noncomputable abbrev T2:Type:=B8P×AR×Nat×Nat×ALD
noncomputable def loD(a b out:AR)(ia ib mg k k1:Nat):BXV :=
 sT ia (λx =>
 if DTR then AK4 EEW LX OS ib
 else if EIV then AK4 none LX OS ib
 else EJA LX OS ib)
noncomputable def loC(a b out:AR)(ia ib mg k bc:Nat):BXV :=
 A4S ib>>=λy =>
 if DRF then EUD
 else sT ia (λx=>W7 true x b OH (b.size-(ib+1)) 0>>=λr =>
  match r with
  |AQ k1=>(if k1 > 0 then
    (if CRM x8 then AK4 (BFR CCQ x8) CCQ ia x8
    else C8Q CCQ x8)
   else C8Q ND OH)
  |_=>EUD)
noncomputable def loB(a b out:AR)(ia ib mg ac bc:Nat):BXV :=
 EK2 DFD ia (a.size-ia) 0 (λr =>
 match r with
 |BCG=>(if k > 0 then
   (if BK0 (dV+1) then ELG (iC a2u AYF dV ib)
   else if BK0 dV then ELG (iC V1 AYF dV ib)
   else loC a b AYF dV ib mg k bc)
  else EUP)
 |_=>KQ (E84,out,ia,ib,mg,ac,bc))
noncomputable def loA(a b out:AR)(ia ib ac bc mg:Nat):A3H T1 :=
 DFD>>=λy=>sT ia (DME (λr =>
 match r with
 |AQ bWins=>(if AW bWins then A4S ib>>=λy =>
   (if DRF then KQ (CWL,ND,ia,OH,0,ADB)
   else if DL8 then EAV ND ia OH
   else EBL ND ia OH)
  else sT ia (λx =>
   (if DTR then KQ (EEW,LX,OS,ib,ADC,0)
   else if DL9 then EAW LX OS ib
   else EBM LX OS ib)))
 |_=>KQ (E84,out,ia,ib,ac,bc)))
def b0p(a b:AR):a5K a b=(do
 rule "list.sort.merge-lo"
 let y <-elem' b 0
 if (1==b.size)=true then pure (V1 a b #[y] 0 1)
 else if (0+1==a.size)=true then pure (a2u a b #[y] 0 1)
 else do
  let g <-get
  let r <-forIn [:a.size+b.size] ((none,#[y],0,1,gallopOf g):qD (Array Keyed)×Array Keyed×Nat×Nat×Nat) λ_ c=>do
   let r <-forIn [:a.size+b.size] ((none,c.2.1,c.2.2.1,c.2.2.2.1,0,0):T1) λ_ d=>loA a b d.2.1 d.2.2.1 d.2.2.2.1 d.2.2.2.2.1 d.2.2.2.2.2 c.2.2.2.2
   match r.1 with
   |some q=>pure (ForInStep.done (some q,r.2.1,r.2.2.1,r.2.2.2.1,c.2.2.2.2))
   |none=>do
    rule "list.sort.gallop"
    let t <-forIn [:a.size+b.size] ((none,r.2.1,r.2.2.1,r.2.2.2.1,c.2.2.2.2+1,r.2.2.2.2.1,r.2.2.2.2.2):T2) λ_ d =>
     if d.2.2.2.2.1 > 1 then loB a b d.2.1 d.2.2.1 d.2.2.2.1 (d.2.2.2.2.1-1) d.2.2.2.2.2.1 d.2.2.2.2.2.2 else loB a b d.2.1 d.2.2.1 d.2.2.2.1 d.2.2.2.2.1 d.2.2.2.2.2.1 d.2.2.2.2.2.2
    match t.1 with
    |some q=>pure (ForInStep.done (some q,t.2.1,t.2.2.1,t.2.2.2.1,t.2.2.2.2.1))
    |none=>do
     a1A (t.2.2.2.2.1+1)
     pure (ForInStep.yield (none,t.2.1,t.2.2.1,t.2.2.2.1,t.2.2.2.2.1+1))
  match r.1 with
  |some q=>pure q
  |none=>unsupported "internal:list.sort.merge-bound"):=by
 rw[F33]
 .rw[iN (A5E d) r]
  .rfl
  .rw[B84]
   .rw[DTA]
    .rfl
    rw[AQA r r]
   .rfl
 .rw[B84]
  .dsimp only
  .rfl
def a4Q(a:kU)(i:Nat):AHF a.extract i a.size=a.toList.drop i:=by
 rw[DSA];rw[BQ1 List.take_length]
def a6l(a:kU)(i k:Nat):AHF a.extract i (i+k)=(a.toList.drop i).take k:=by
 rw[CSQ List.extract_eq_drop_take]
def b0N(a b out:AR)(ia ib:Nat):EO2 V1 BWZ BY0:=by
 rw[EUI V1]
def b0B(a b out:AR)(ia ib:Nat):EO2 a2u BY0 BWZ:=by
 rw[EUI a2u]
section
variable {kf:DM}{a b out:AR}{ia ib:Nat}
noncomputable def Good(st st':SortSt):Prop:=E7Y/\mF=arrOf st/\E7Z/\E80
structure Two(D:AIJ)(kf:DM)(a b:AR):Prop where
 da:EO6 a
 db:EO6 b
 sa:ZT a.toList.Pairwise
 sb:ZT b.toList.Pairwise
 last:RB b.toList (∀x,dP a YO->BQH)
def a0C{z:Keyed}(hs:AIU)(e:yU)(h:E12):A20 (l.drop i) z y:=λy a=>by
 rw[AZU]at a;rw[lM]
 .exact h
 rw[A77 h DUT]
noncomputable def MI(kf:DM)(a b out:AR)(ia ib:Nat):Prop:=CBY/\OS<a.size/\ib<b.size
noncomputable def E7(kf:DM)(a b r:AR):Prop:=a3V kf a.toList b.toList r.toList
def a1E(T:TU)(h:CBY)(hi:OS=a.size):EBN a2u:=by
 rw[EXL b0B h.lastA e d];rw[ER c (ia<a.toList.length) Array.length_toList (lq 899327150885942 hi)]
 rw[List.drop_eq_getElem_cons c,AJ5 List.drop_eq_nil_of_le Array.length_toList 0x5a832735f95836 hi,List.mem_singleton]at d;refine KeyOrd.kle_of_klt (T.last y (List.mem_of_mem_drop e) x ?_);rw[d,cB YO ia 0x1e85ad268dcc537cb72223fca7836 hi,<-Array.getElem?_toList,OG c]
def a1K(T:TU)(h:CBY)(hi:AVA ib):EBN V1:=by
 unfold E7;rw[AD b0N (h.done T.sa (AG Array.length_toList hi))]
def C2(hi:i<qQ.size){Q:aF Keyed}(h:∀x,OD qQ->OD qQ.toList->Q x st):HA (elem' qQ i):=by
 rw[elem'_eq];have e:CB qQ qQ[i]:=E22 qQ;rw[q8 e (h _ e (wJ Array.getElem?_toList))]
noncomputable def P2(kf:DM)(st:SortSt)(a b:AR)(c0:Nat)(c:T2)(st':SortSt):Prop:=EBZ
noncomputable def Y2(kf:DM)(st:SortSt)(a b:AR)(c0:Nat)(c:T2)(st':SortSt):Prop:=DNM
noncomputable def R2'(kf:DM)(st:SortSt)(a b:AR)(c0:Nat)(r:AFA T2)(st':SortSt):Prop:=B9M P2 Y2
variable {c0 mg k1 bc ac:Nat}
def b3p(T:TU)(g:ON)(h:B80)(i:DSG ia (kC BY0))(c:B5A):C17 (C8Q out ib):=by
 unfold loD;rw[LJ (C2 (by rw[yB YD a2q]) λx e1 e2=>?_)];have d:=(DE).stepA T.sa e2 (i x e2);rw[rD Array.toList_push d]
 rw[A8Z a1E d]
 .rw[ELW f ⟨d,by rw[PD YD 0x250058bd41fe53debd365014abc03f6 e],wI⟩]
  rw[A91 f (UG DHR b9E c)]
  rw[A80 f (UG DHR b9E c)]
def gdK(a:AR)(hi:i<a.size):AHW a a.getD:=by
 rw[Array.getD_eq_getD_getElem?,E22 a];rfl
def a1C(hs:AIU){y:Keyed}(b:uJ)(ex:yU)(a:GU l y):ZJ x y:=by
 rw[GD i j]
 .rw[CK];rw[AX ex a a];exact KeyOrd.kle_refl _
 .refine a0Q hs ex y ?_;have:yC BUV (j-(AO)) y:=by rw[List.getElem?_drop,<-a];congr 1;rw[DL 0x163f80474bddf74183d66a7707c48b37893a8dbbd6 b e]
  rw[uS List.mem_of_getElem?]
def b3q(T:TU)(t:JJ)(F:JH)(g:ON)(h:B80)(G:B7U ib (B5Y BWZ))(n:B5A):C17 EUP:=by
 unfold loC;rw[YJ l c h];rw[A5C c];have p:=u.stepB T.sb e2 (G y e2);rw[rD Array.toList_push p]
 rw[A8Z a1K p]
 .rw[B6Z DIQ];rw[iK (~~~a2q l) x f1 f2];rw[rR (EBV t F (OH+i) (AGD E3K (AH T.db E3K)) (xV o B C) (yQ 0x24ffb9f21f587ded6a925544bb35996 e)) k1 q H I]
  .rw[ERK (i:=OH+i) (j:=OH+j) (BH 0x20a831c11401f5d7 o) C]
   rw[B6P (AU 0x14b61b69134b284fbaf45fa0d8d8 o B)]
   rw[B6P (~~~b8R B)]
  .dsimp only;have f:∀(d:Nat),d=x8->d<b.size->∀x',AZL ia x'->A20 (b.toList.drop d) x' y:=λd e1 e2 x' ex'=>by
    rw[AX f2 ex' ex'];rw[yY r (A40 d (b.getD d UR)) (jB e2)]
    refine a0C T.sb r ?_;have:=I k1 BO (AU 0x3573da4e8baea0a11cd3a2c8bb0fd8 e1 e2);rw[<-e1]at this;rw[UI]
   split
   .have hbk:=MS.bulkB T.sb (k:=k1) p (BYP 0xdeebf96bdec48cd6f0f702cc397 c q) λi z hi v=>by
     refine a0C T.sa f2 ?_;have:=vJ H;rw[B20 (jB (AU 0x3020d489f603c7239b7d29faaaa18 q hi)) v v];rw[uS KeyOrd.kle_of_klt]
    rw[EMN]
    .rename_i m;rw[A35 (A34 a1K hbk m)]
    .rw[B6C m m (AVA x8) m];exact b3p T g ⟨hbk,l,EG7⟩ (f _ rfl EG7) (BH 0x14135f7e47eb60c261b318 n)
   .exact b3p T g ⟨p,l,E56⟩ (f _ AF E56) (~~~b8S n)
def a0h{Q:B25}(h:∀a,DRG->Q () a):tO CRE Q st':=by
 unfold a1A;exact wpS_modify (h _ CWC)
def Good.trans{st st' a:SortSt}(h:ON)(h2:DRG):Good st a:=⟨E4D,E6X,EAQ,mG h2.2.2.2 BPM⟩
def b3r(T:TU)(m:JJ)(B:JH)(g:ON)(h:B80)(q:B5A):C17 (loB a b out ia ib mg ac bc):=by
 unfold loB;rw[rC t c n];rw[EBI N L L];rw[A5C n];rw[rR (EO1 m (ia+i) (AGD DC4 (BF4 DC4)) (xV r J I) (AI0 0x111f92d7d95bab336)) k O K M]
 .have hle:ZJ (BHT (ia+j)) y:=by
   rw[C8Z I I]
  rw[F1C (i:=ia+i) (j:=ia+j) (~~~a8E r) (AU 0x6c34cde64573c518f124b58d8 r J) (~~~a7q J)]
 .dsimp only;have o:AW (CT3 YO):=T.last y (List.mem_of_getElem? e2) _ (jJ (AI0 0x7b192cbd0df46fcd1736));have d:ia+k<a.size:=by
   rw[D7A v];have:=K (YO-ia) (yQ 0x860be3fb038943a8225a50927759898b1a3737 v);rw[WX (cB (ia+(YO-ia)) YO 0x165c41e36538380c7f01c51b82b3800ce784d15862bfdf04c63a204fd00275d69b08359ffab36 c) o this this]
  have f:∀l,l=dV->∀C,A40 ib C->ADI (a.toList.drop l) C x:=λl e C G=>by
   rw[eS G G];rw[yY u (AZL l (a.getD l UR)) (jJ (yR 0xd76c3fb776eb60f338998 e))]
   refine a0C T.sa u ?_;have:=M k BO (BH 0x111f92d830307e997 d);rw[<-e]at this;rw[JR KeyOrd.kle_of_klt];rw[DX5]
  split
  .have hbk:=MS.bulkA T.sa k t (IU Array.length_toList c0f d) λi z hi H=>by
    refine a0C T.sb e2 ?_;have:=vJ K;rw[B20 (jJ (XD c0G d)) H H];rw[BI6];rw[BNM]
   rw[EMN]
   .rename_i p;rw[A35 (A34 a1E hbk p)]
   .rw[B6C p p (BMH dV) p];split
    rw[EG9 F F F]
    .exact ET8 ⟨hbk,yR 0x1524c619ee95c4cd99acfcf8291997 p,n⟩ D6G (BH 0xb78c8db95f67d46eb318 q)
  .exact ET8 ⟨t,c,n⟩ DQ9 q
noncomputable def P1(kf:DM)(st:SortSt)(a b:AR)(c0:Nat)(c:T1)(st':SortSt):Prop:=EBZ
noncomputable def Y1(kf:DM)(st:SortSt)(a b:AR)(c0:Nat)(c:T1)(st':SortSt):Prop:=DNM
noncomputable def R1'(kf:DM)(st:SortSt)(a b:AR)(c0:Nat)(r:AFA T1)(st':SortSt):Prop:=B9M P1 Y1
def c2B(T:TU)(n:JJ)(p:JH)(g:ON)(h:B80)(d:B5A):EKI loA out ia ib R1':=by
 unfold loA;rw[rC k f i];rw[A5C i];rw[EOA DG4 n p];cases o:BHK with
 |true =>
  rw[EJ];rw[iK i q m c];rw[eS c c];have j:=k.stepB T.sb e2 (CKX a0C T.sa f2 o);rw[rD Array.toList_push j]
  rw[A8Z a1K j]
  .rw[AH0 DIQ l (AOU ND ia OH) ⟨j,f,~~~b8X i e⟩]
   rw[A91 l ENJ]
   rw[A80 l ENJ]
 |false =>
  rw[aV];rw[iK DG4 x' m c];rw[AX f2 c c];have j:=k.stepA T.sa f2 (a0C T.sb e2 o);rw[rD Array.toList_push j]
  rw[A8Z a1E j]
  .rw[ELW l ⟨j,AU 0x25005aad589e96bc586cbbe21818b36 f e,i⟩]
   rw[A91 l ENK]
   rw[A80 l ENK]
def Z2{n:String}{Q:B25}(h:Q () st):HA (liftM (rule n):DAO):=wpS_lift (wpAny_rule B0V)
def a9k(T:TU)(i:JJ)(n:JH)(F:D5F)(t:BSM)(h0:B7U 0 (B5Y a.toList)){Q:D8U}
  (q:EZ4):D8N a5K:=by
 rw[b0p];rw[AGC];rw[A5C t];have j:oV MS (E0R toList) 0 1:=by
  have z:oV MS [] 0 0:=⟨.nil,.nil,(B6O),B6O⟩;exact z.stepB T.sb e2 (λx o=>h0 y e2 x o)
 rw[ELZ]
 rw[E2A a1K]
 .rw[B6Z (AVA 1)];split
  .rename_i e';rw[mR (AK q (A34 a1E j e') l)]
  .rw[EMM (BMH 0) (AGR (ON/\ABI BG5 (dG<=cY+mO))
    (Q:=v1 CM1)) ⟨j,by show 0+1<a.size;rw[DL 0x3f1f6b07edf61984563a2ea45d F e'],by show 1<b.size;rw[DL 0x149c8b704bc056e6ad5e745d t e]⟩ BO]
   case post =>
    rw[F0W K L]
   case fin =>
    rintro c st' ⟨g,e1,⟨_,h1,h2⟩,C⟩;exfalso;exact lq 0x1863c7cac5158f189d885fb29b560 C h1 h2
   case step =>
    rw[EYF H o p (COH Y1) P1 (AQE (dG+E21<=cY+mO) 0x5e2362d1faf50e18db491d9537 p)]
    case f1 =>
     rw[B9O ⟨e1,h1,AU 0x13c41450789e9987774adb889ce6bbf48a761e56f5450ed40cf19 o h2⟩]
    case s1 =>
     rw[B9P G];rw[AV1 (c2B T i n g h1 (c0:=dG) (rP 0x1fe6b2dfefbfa086a0948cda138938))];cases r with
     |done c'=>exact f
     | «yield» c'=>rw[ERR 0x372c8bd72f0bef767af54a945aec3f8]
    case p1 =>
     rw[EVF]
     rw[B9A]
     .rw[F12 (CMR Y2) P2]
      case f2 =>
       rw[B9O (ALN e1)]
      case s2 =>
       rw[B9P G];split
       rw[F1K]
       rw[F1K]
      case p2 =>
       rw[EVF]
       rw[B9A]
       rw[E92 J B (g.trans B)]
#where
section
variable {kf:DM}{la lb o:LZ}{na nb:Nat}
structure MH(kf:DM)(la lb o:LZ)(na nb:Nat):Prop where
 perm:o.Perm (la.drop na++lb.drop nb)
 sorted:BUD
 ra:FW AX0 (kC o)
 rb:FW AGH (kC o)
def a4b(hs:AIU)(h:yU):AUM BS5:=λy a=>by
 have:=hs.take (i:=AO);rw[a0j h,List.pairwise_append]at this;exact CQV y a x AZN
def MH.stepA(h:AXD (na+1))(hs:zM)(e:AWJ na)(c:DI0):EEH:=by
 rw[ER d (x∈la.take (na+1)) AHT (iB AZN)]
 rw[EP2]
 .rw[F2 AZU List.cons_append h.perm.cons x]
 .rw[List.pairwise_cons];rw[AY (λy a=>h.ra x d y a) h.sorted]
 .rw[lM]
  .exact a4b hs e z b
  .exact h.ra z (AG AHT (XQ b)) y a
 .rw[lM]
  .exact c z b
  .exact h.rb z b y a
def MH.swap(h:DKC):MH kf lb la o nb na:=EWQ
def MH.stepB(h:iA MH o na (nb+1))(hs:zN)(e:dP lb nb)(a:DI1):EEH:=EX6
def MH.bulkA(hs:zM){a:Nat}:∀(k:Nat) {o:LZ},AXD pN->a+k<=la.length->(∀i x,a<=i->i<pN->OD la->DI0)->iA MH (EQI la.take) a nb
 |0,o,h,b,_=>by
  rw[Nat.add_zero,D8Z List.length_take c0L,List.nil_append];exact h
 |CF,o,h,b,d=>by
  rw[C59 x c x (AWJ pN) (B05 97488289198839255)];rw[TB (MH.stepA (na:=pN) h hs c (d _ x BPY (KP 4205330760598) c)) (MH.bulkA hs k h1 (B05 89194779731367383) λi y h1 h2 e=>d i y h1 (rP 92315819697524503) e)];rw[B13 (a+A2U) (pN+1) c0F,a0j c,AJ5 List.drop_append_of_le_length List.length_take 0x149cc8f76c2794243ff015d7 b,List.append_assoc];exact h2
def MH.bulkB(hs:zN)(h:iA MH o na pN)(c:DM7 a)(b:∀i x,a<=i->i<pN->OD lb->DI1):iA MH (EQI lb.take) na a :=
 (MH.bulkA hs k h.swap c b).swap
def MH.done(h:AXD 0)(hs:zN):B92 (la.take 0) AGH o:=by
 rw[List.take_zero,List.nil_append];rw[EBK List.drop_zero]
 .rw[BMS a];rw[<-List.append_assoc];refine nK (D1R List.perm_append_comm) ?_;rw[List.append_assoc,List.take_append_drop]
 rw[AX6 hs.take h.sorted h.rb]
def MH.firstB(h:DKC)(a:zM)(hs:zN)(c:RB AGH (B5Y AX0)):B92 AGH AX0 o:=by
 rw[HS ?_]
 .rw[BMS h.perm];rw[List.append_assoc,<-DXU na,List.take_append_drop];rw[JR List.perm_append_comm.trans];rw[List.append_assoc];refine ACJ (List.perm_append_comm.trans ?_);rw[List.take_append_drop]
 .rw[EFV h.sorted]
  rw[AX6 hs.take a.take c]
  .rw[DB0]
   rw[B8S h.rb]
   rw[B8S h.ra]
#where
noncomputable def a5L:EGV:=sortPriv% PySem.Builtin.mergeHi
noncomputable def V2(a b out:AR)(na nb:Nat):AR:=a.extract 0 na++b.extract 0 nb++out.reverse
noncomputable def a0F(a b out:AR)(na nb:Nat):AR:=b.extract 0 nb++a.extract 0 na++out.reverse
noncomputable abbrev U1:Type:=B8P×Nat×Nat×BDK AR
noncomputable abbrev U2:Type:=B8P×Nat×Nat×AR×ALD
noncomputable def hiD(a b:AR)(na nb:Nat)(out:AR)(mg k k1:Nat):BXU :=
 sT LY (λx =>
 if DGK then AK4 (ALT LX LY) LY nb LX
 else if EIV then AK4 none LY nb LX
 else EJA LY nb LX)
noncomputable def hiC(a b:AR)(na nb:Nat)(out:AR)(mg k bc:Nat):BXU :=
 A4S KC>>=λy =>
 if DRE then ELF EEX
 else sT LY (λx=>W7 true x b 0 KC (KC-1)>>=λr =>
  match r with
  |D2C=>(if BHI > 0 then
    (if WG at_ 1 then ET5 (iC a0F AYA na at_)
    else if DGJ then ET5 (iC V2 AYA na at_)
    else DTW at_ AYA)
   else DTW KC ND)
  |_=>ELF (iC V2 ND na KC))
noncomputable def hiB(a b:AR)(na nb:Nat)(out:AR)(mg ac bc:Nat):BXU :=
 EK2 DFE 0 na LY (λr =>
 match r with
 |D2C=>(if BLE > 0 then
   (if DGJ then KQ (ALT CBL at_,at_,nb,CBL,mg,BLE,bc)
   else EEJ at_ CBL)
  else EEJ na out)
 |_=>KQ (ALT out na,na,nb,out,mg,ac,bc))
noncomputable def hiA(a b:AR)(na nb:Nat)(out:AR)(ac bc mg:Nat):A3H U1 :=
 DFE>>=λy=>sT LY (DME (λr =>
 match r with
 |AQ aWins=>(if AW aWins then sT LY (λx =>
   (if DGK then KQ (ALT LX LY,LY,nb,LX,ADC,0)
   else if DL9 then EAW LY nb LX
   else EBM LY nb LX))
  else A4S KC>>=λy =>
   (if DRE then KQ (EEX,na,KC,ND,0,ADB)
   else if DL8 then EAV na KC ND
   else EBL na KC ND))
 |_=>KQ (ALT out na,na,nb,out,ac,bc)))
def b0q(a b:AR):a5L a b=(do
 rule "list.sort.merge-hi"
 let y <-elem' a (a.size-1)
 if (a.size-1==0)=true then pure (V2 a b #[y] (a.size-1) b.size)
 else if (b.size==1)=true then pure (a0F a b #[y] (a.size-1) b.size)
 else do
  let g <-get
  let r <-forIn [:a.size+b.size] ((none,a.size-1,b.size,#[y],gallopOf g):qD (Array Keyed)×Nat×Nat×Array Keyed×Nat) λ_ c=>do
   let r <-forIn [:a.size+b.size] ((none,c.2.1,c.2.2.1,c.2.2.2.1,0,0):U1) λ_ d=>hiA a b d.2.1 d.2.2.1 d.2.2.2.1 d.2.2.2.2.1 d.2.2.2.2.2 c.2.2.2.2
   match r.1 with
   |some q=>pure (ForInStep.done (some q,r.2.1,r.2.2.1,r.2.2.2.1,c.2.2.2.2))
   |none=>do
    rule "list.sort.gallop"
    let t <-forIn [:a.size+b.size] ((none,r.2.1,r.2.2.1,r.2.2.2.1,c.2.2.2.2+1,r.2.2.2.2.1,r.2.2.2.2.2):U2) λ_ d =>
     if d.2.2.2.2.1 > 1 then hiB a b d.2.1 d.2.2.1 d.2.2.2.1 (d.2.2.2.2.1-1) d.2.2.2.2.2.1 d.2.2.2.2.2.2 else hiB a b d.2.1 d.2.2.1 d.2.2.2.1 d.2.2.2.2.1 d.2.2.2.2.2.1 d.2.2.2.2.2.2
    match t.1 with
    |some q=>pure (ForInStep.done (some q,t.2.1,t.2.2.1,t.2.2.2.1,t.2.2.2.2.1))
    |none=>do
     a1A (t.2.2.2.2.1+1)
     pure (ForInStep.yield (none,t.2.1,t.2.2.1,t.2.2.2.1,t.2.2.2.2.1+1))
  match r.1 with
  |some q=>pure q
  |none=>unsupported "internal:list.sort.merge-bound"):=by
 rw[F33]
 .rw[iN (A5E d) r]
  .rfl
  .rw[B84]
   .rw[DTA]
    .rfl
    rw[AQA r r]
   .rfl
 .rw[B84]
  .dsimp only
  .rfl
def a3R(a:kU)(i n:Nat):E2O toList=(a.toList.take n).drop i:=by
 rw[DSA]
def b0O(a b out:AR)(na nb:Nat):EO3 V2 BYI BXZ:=by
 rw[F2I V2]
def a8U(a b out:AR)(na nb:Nat):EO3 a0F BXZ BYI:=by
 rw[F2I a0F]
def a2P(out:AR)(x:Keyed):(out.push x).toList.reverse=x::out.toList.reverse:=by
 rw[Array.toList_push,List.reverse_append];rfl
def b4L(out a:AR)(i n:Nat):(out++E2O reverse).toList.reverse=(a.toList.take n).drop i++out.toList.reverse:=by
 rw[Array.toList_append,List.reverse_append,Array.toList_reverse,List.reverse_reverse,a3R]
section
variable {kf:DM}{a b out:AR}{na nb:Nat}
noncomputable def a7M(kf:DM)(a b:AR):Prop:=B7U 0 (FW a.toList BQH)
def a0y{z:Keyed}(hs:AIU)(e:yU)(h:DMK):A20 (l.take AO) y z:=λy a=>by
 rw[AHT]at a;rw[C2H]
 rw[A77 (a4b hs e y a) h]
 .rw[AD A4P h]
noncomputable def MJ(kf:DM)(a b out:AR)(na nb:Nat):Prop:=C9Q/\1<=na/\2<=nb/\na<=a.size/\nb<=b.size
def a1L(T:TU)(h:C9Q)(hi:na=0):EBO V2:=by
 subst hi;unfold E7;rw[BB b0O h.done T.sb]
def a0E(T:TU)(F:AMS)(h:C9Q)(hi:nb=1)(d:BSM):EBO a0F:=by
 subst hi;rw[EXL a8U h.firstB c f];rw[yY e (A40 0 E32) (jB d)]
 rw[AHT,List.take_zero,List.nil_append,List.mem_singleton]at c;rw[BB c KeyOrd.kle_of_klt (F _ e x (List.mem_of_mem_take f))]
noncomputable def P4(kf:DM)(st:SortSt)(a b:AR)(c0:Nat)(c:U2)(st':SortSt):Prop:=EC0
noncomputable def Y4(kf:DM)(st:SortSt)(a b:AR)(c0:Nat)(c:U2)(st':SortSt):Prop:=DNN
noncomputable def R4(kf:DM)(st:SortSt)(a b:AR)(c0:Nat)(r:AFA U2)(st':SortSt):Prop:=B9M P4 Y4
variable {c0 mg k1 bc ac:Nat}
def b3s(T:TU)(g:ON)(h:B89)(l:DSG LY (AUM BXZ))(c:B7K):ADY (hiD a b na nb out mg k k1) R4 c0:=by
 rw[B8I hiD f i m];rw[iK (DYI i) x e1 e2];rw[EQ7];rw[EGF l];have d:=f.stepA T.sa e2 (l x e2);rw[rD a2P d]
 rw[A8Z a1L d]
 .rw[AH0 (n=0) j (AB9 LX n nb) (CAD d e DDF m)]
  rw[A91 j (UG EAD c0u c)]
  rw[A80 j (UG EAD c0u c)]
def b3t(T:TU)(F:AMS)(H:JJ)(U:JH)(g:ON)(h:B89)(O:B7U KC (ADI BYI x y))(t:B7K):ADY (hiC a b na nb out mg k bc) R4 c0:=by
 rw[B8I hiC J C d];rw[C7T d];rw[F0U];rw[EGF O];have v:=J.stepB T.sb e2 (O y e2);rw[rD a2P v]
 rw[E29 v BX3]
 .rw[B6Z (m=1)];rw[iK (DYI C) x f1 f2];rw[rR (EBV H U (0+i) (AGD E3L (AH T.db E3L)) (xV u o S) (rP 0x5bc2574b0e696d8c3d7d)) c L W Q]
  .rw[ERK (i:=0+i) (j:=0+j) (~~~b9z u) S]
   rw[B6P (~~~lq 0x16235fda71aa69d5a6238 d u o)]
   rw[B6P (~~~b2w d o)]
  .dsimp only;have p:1<=c:=by
    rw[UJ Nat.pos_of_ne_zero z];have:=Q 0 (BH 0x597588f4813525 z) (rP 0x705c58315d7d);have R:=F E32 (BGJ (jB BX3)) x (List.mem_of_getElem? f2);rw[WD Nat.zero_add];rw[AX R this this]
   have f:∀x',AZL LY x'->∀l,l=c->A20 (b.toList.take l) y x':=λx' ex' l B=>by
    rw[AX f2 ex' ex'];rw[LV n K (∃n,l=CS) (l-1) (AU 0x5d799888913182bf1d83171079d8a6e p B)];rw[K];rw[yY G (A40 n (b.getD n UR)) (jB (~~~lq 0x2ad6683c64bdf6af751c1fc373239 d L B K))]
    refine C99 G ?_;rw[QS (W n (AU 0x32c5198c6338de6357 B K)) Nat.zero_add]
   split
   .rw[EYQ o m m L];have q:oV MH (EFQ b.toList.take (out.push y).toList.reverse) na c:=by
     rw[o]at v;refine MH.bulkB T.sb v (BYP 0x17c4bb318d7f0761bc21a38 d o) (DW i z V P N);rw[BTJ (Q i V (~~~c0t o P))];rw[B20 (jB (~~~lq 0x11742858ea0f3d0835a7bb221a39 d o P)) N N];have I:ZJ x (b.getD i UR):=this;have:=a0y T.sa f2 I;rwa[cB (LY+1) na 0x5e20d502b831f1a108d3048e6d h1]at this
    rw[<-o,<-b4L]at q;split
    .rename_i r;rw[A35 (a0E T F q (eq_of_beq r) BX3)]
    .rw[B6C r r (c=1) r];split
     rw[EG9 M M M]
     rw[EQ4 q (AU 0x1f18cbb1ec0893f2fd348e6d p r) (yR 0x1aee9e029f53c337421a38 o) rfl (AU 0x76c136ff75f24258d802f1940071f971e5db t o)]
   rw[EQ4 v (TC 0x17f38e159058a0dbc9bdd889b26e6 e L p) DCE AF (BH 0x66a26de2f2ac59a147b1e5d9 t)]
def b3u(T:TU)(F:AMS)(o:JJ)(B:JH)(g:ON)(h:B89)(r:B7K):ADY (hiB a b na nb out mg ac bc) R4 c0:=by
 rw[B8I hiB p l u];rw[EBI S N N];rw[C7T u];rw[rR (EO1 o (0+i) (AGD E3X (BF4 E3X)) (xV t k J) (vS c0p)) c M Q R]
 .have hle:ZJ (BHT (0+j)) y:=by
   rw[C8Z J J]
  rw[F1C (i:=0+i) (j:=0+j) (~~~b9z t) (TC 0xca67fea8a183c7a15d8 l t k) (~~~b2q l k)]
 .dsimp only;have f:∀d,d=c->∀G,A40 KC G->ADI (a.toList.take d) x G:=λd e G H=>by
   rw[eS H H];rw[CK];rw[BM K d 0]
   .rw[CM K List.take_zero QJ]
   rw[LV n rfl (∃n,d=CS) (d-1) (~~~c5M K)];rw[yY v (AZL n (a.getD n UR)) (jJ (AU 0xc5b0d291a35d7 l M))]
   refine a0y T.sa v ?_;rw[BTJ (Q n AZ3)];rw[BI6];rw[BNM]
  split
  .rw[EYQ k na na M];have m:oV MH (EFQ a.toList.take out.toList.reverse) c nb:=by
    rw[k]at p;refine MH.bulkA T.sa j p (BYP 0xd94fd40e3240437d937d8 l k) (DW i z P L I);rw[BTJ (R i P (~~~c0t k L))];rw[B20 (jJ (TC 0x9f93ba085bf9096fa16b4137d9 l k L)) I I];have C:O.klt (kf y) (E3T a.getD):=by
     rw[DX5]
    have:=C99 e2 C;rwa[cB (KC+1) nb 0x3f1f0b1fb2fa06efdcd304917d h2]at this
   rw[<-k,<-b4L]at m;split
   .rename_i q;rw[A35 (A34 a1L m q)]
   .rw[B6C q q (c=0) q];exact EUV g (CAD m q (AU 0xf63c8017f9d941f937d8 l k) u) D6G (AU 0x43dc1f6d67f825e267f3fb8654ed9d8a99b r k)
  .exact EUV g ⟨p,h1,h2,l,u⟩ DQ9 r
noncomputable def P3(kf:DM)(st:SortSt)(a b:AR)(c0:Nat)(c:U1)(st':SortSt):Prop:=EC0
noncomputable def Y3(kf:DM)(st:SortSt)(a b:AR)(c0:Nat)(c:U1)(st':SortSt):Prop:=DNN
noncomputable def R3(kf:DM)(st:SortSt)(a b:AR)(c0:Nat)(r:AFA U1)(st':SortSt):Prop:=B9M P3 Y3
def c2C(T:TU)(F:AMS)(p:JJ)(r:JH)(g:ON)(h:B89)(d:B7K):EKI hiA na nb out R3:=by
 rw[B8I hiA j l i];rw[C7T i];rw[EOA (~~~b2A h1 l) p r];rw[EQ7];rw[F0U];rw[Nat.add_sub_cancel]at e1 e2 f1 f2⊢;rw[Nat.add_sub_cancel];cases q:BHK with
 |true =>
  rw[EJ];rw[iK (~~~b2k l) x' o c];rw[AX f2 c c];have f:=j.stepA T.sa f2 (C99 e2 q);rw[rD a2P f]
  rw[A8Z a1L f]
  .rw[AH0 (n=0) k (AB9 LX n (m+1)) (CAD f e (~~~a3D l) i)]
   rw[A91 k ETQ]
   rw[A80 k ETQ]
 |false =>
  rw[aV];rw[iK (~~~b2k i) t o c];rw[eS c c];have f:=j.stepB T.sb e2 (a0y T.sa f2 q);rw[rD a2P f]
  rw[E29 f (~~~a8G i)]
  .rw[AH0 (m=1) k (AB9 ND CS m) ⟨f,h1,B07 0x366b64775d0f02e93b1bc3d7d e,l,DDF⟩]
   rw[A91 k ETR]
   rw[A80 k ETR]
def a9l(T:TU)(F:AMS)(i:JJ)(n:JH)(p:D5F)(t:BSM){Q:D8U}
  (q:EZ4):D8N a5L:=by
 rw[b0q];rw[AGC];rw[A5C DQJ];have j:oV MH (E0R toList.reverse) YO b.size:=by
  have z:oV MH [] (YO+1) b.size:=by
   rw[GA ?_ .nil ((E6M)) E6M];rw[CM (D24 (by rw[BB Array.length_toList lq 21300584710917])) (D8Z Array.length_toList b9f) .nil]
  exact z.stepA T.sa e2 (λx u=>D0P (T.last x (List.mem_of_mem_take u) y e1))
 rw[ELZ]
 rw[E2A a1L]
 .rw[B6Z (YO=0)];split
  .rename_i e';rw[mR (AK q (a0E T F j (BPB e') t) l)]
  .rw[EMM (b.size=1) (AGR (ON/\ABI BG6 (BCE LM cY (BJP)))
    (Q:=v1 CM1)) ⟨j,AQE (1<=YO) 0xc818c33e8de8deaaa782f47818c0a1a9168d7ae5 e,by show 2<=b.size;rw[DL 0x1f18cbb1ec0893f2fd3dec5d t e'],UG (YO<=a.size) lq 0x5a802defc012e5,BO⟩ (by show YO+b.size+(0+1)<=_;rw[DN 0x120447bb8c94f6fcd779e9105ec5e p])]
   case post =>
    rw[F0W L M]
   case fin =>
    rintro c st' ⟨g,e1,⟨_,h1,h2,_⟩,G⟩;exfalso;rw[DN 0x4ab1a8a6b7020069981ad03d5ee7198 G]
   case step =>
    rw[EYF J u o (COH Y3) P3 (by show LM+cY+(dG+E21)<=_;rw[DN 0x2058c3a48294721d6e7b75776d768541dd99 o])]
    case f1 =>
     rw[B9O ⟨e1,h1,rP 0xd8b76864b3ba3949674a2ae7cf257df9be707ffa233fd51fa394803d99⟩]
    case s1 =>
     rw[B9P H];rw[AV1 (c2C T F i n g h1 (c0:=dG) (rP 0xaf63bd5a60cd152a2cb863035dd4db55a3b4d9a))];cases r with
     |done c'=>exact f
     | «yield» c'=>rw[ERR 0x12f551ed8a7ba60a799cf08cd6aab53fc4a6afd9a]
    case p1 =>
     rw[EOC]
     rw[B9A]
     .rw[F12 (CMR Y4) P4]
      case f2 =>
       rw[B9O (ALN e1)]
      case s2 =>
       rw[B9P H];split
       rw[EVB]
       rw[EVB]
      case p2 =>
       rw[EOC]
       rw[B9A]
       rw[E92 K C (g.trans C)]
#where
noncomputable def b1t(qQ merged:AR)(sa:Nat):AR:=merged.toList.zipIdx.foldl (λa (p,j)=>a.setIfInBounds zJ p) qQ
noncomputable def mgC(sa:Nat)(merged:AR):BWC :=
 C7N (SortSt.mk' BUF (b1t BUG merged sa) ATS D87 (failedOf s))>>=DF (get>>=λs=>eH (DY2 s))
noncomputable def mgB(s:SortSt)(sa na sb nb:Nat):BWC :=
 EGW (sa+na-1)>>=λx=>W7 true x BUG sb nb KC>>=λr=>match r with
 |AQ n=>(if AEE n then DBR
  else if na<=n then F3G a5K
  else F3G a5L)
 |_=>DBS
noncomputable def mgA(s:SortSt)(sa na sb nb:Nat):BWC :=
 EGW sb>>=λy=>W7 false y BUG sa na 0>>=λr=>match r with
 |BCG=>MW (AEE DEU) DBR (mgB s (sa+k) DEU sb nb)
 |_=>DBS
def b0r(i:Nat):mergeAt' i=(get>>=λs=>match (DCK,E4Z)with
 |(AQ (sa,na,pw),AQ (sb,nb,_))=>set (BV2 BUF s (ED8 (A9W s setIfInBounds) (sa,na+nb,pw)) D87 (failedOf s))>>=DF (mgA s sa na sb nb)
 |_=>liftM (unsupported "internal:list.sort.pending" : A00)):=by
 rw[BOC s];dsimp only;rcases DCK with _|⟨sa,na,pw⟩
 .rfl
 rcases E4Z with _|⟨sb,nb,pw2⟩
 .rfl
 rw[BGC _];rw[E9I mgA y k]
 .rfl
 rw[AZ4 AX4];rw[E9I mgB x n]
 .rfl
 rfl
def a7x:∀(l:LZ) (qQ:AR) (sa j:Nat),zJ+l.length<=qQ.size ->
  AHF (AR8 l.zipIdx j) (λa (p:Keyed×Nat)=>a.setIfInBounds (sa+GW) CV) qQ=qQ.toList.take zJ++l++qQ.toList.drop (zJ+l.length)
 |[],qQ,sa,j,h=>AJ
 |AFW,qQ,sa,j,h=>by
  rw[List.length_cons]at h;rw[List.zipIdx_cons,List.foldl_cons,a7x l _ sa NK (BJE Array.size_setIfInBounds 0x1462514a6ccf82714dd98)];rw[Array.toList_setIfInBounds];rw[ER b (sa+j<qQ.toList.length) Array.length_toList (lq 0x10c512092358975bd4dd98 h)]
  rw[List.length_cons,B13 (sa+(j+1)) (zJ+1) c0F];rw[List.take_set,NY List.drop_set_of_lt];rw[List.take_succ_eq_append_getElem b,BQJ (XM List.length_take)];rw[List.length_take,cB (zJ-min zJ qQ.toList.length) 0 0x190317181db82956778c98301ad47b7c72b751997 b];rw[AZ0];congr 1;rw[VY 0x446a54bea122d4e97]
def a9M(qQ a:AR)(sa:Nat)(h:sa+a.size<=qQ.size):(b1t qQ a sa).toList=qQ.toList.take sa++a.toList++qQ.toList.drop (sa+a.size):=by
 rw[C1O (a7x a.toList qQ sa 0 (XM Array.length_toList)) Nat.add_zero Array.length_toList]
def c2A{M:Model}{σ:Type}{st a:σ}{Q:EK PUnit σ}(h:Q ⟨⟩ a):CER M (set a:StateT σ Sem PUnit) Q st:=by
 unfold wpS;rw[pL StateT.run_set B0V]
section
variable {kf:DM}
structure Runs2(kf:DM)(D:AIJ)(qQ:AR)(P LA LB R:LZ):Prop where
 eq:qQ.toList=CAS++R
 d:DM5
 sa:ZT LA.Pairwise
 sb:ZT LB.Pairwise
 na:0<LA.length
 nb:0<LB.length
variable {P LA LB R:LZ}
def Runs2.atA(h:A0N)(hi:i<LA.length):qQ[D7J]?=LA[i]?:=by
 rw[<-Array.getElem?_toList,h.eq,List.append_assoc,List.append_assoc,BVD List.getElem?_append_right,BPA (A76 0xd94fa8b9f0c4a3f666797)];congr 1;exact b9P
def Runs2.atB(h:A0N)(hi:i<LB.length):qQ[cI+i]?=LB[i]?:=by
 rw[<-Array.getElem?_toList,h.eq,List.append_assoc,AZI (by rw[C1S 0xd01dd87d58e9397]),AJ5 List.getElem?_append_left List.length_append 0x7f6241d77eb0460beaa649bb98 hi];congr 1;rw[C1S 0x33582e5d19de708aac6c3997]
def Runs2.dA(h:A0N):BJT LA:=EDV
def Runs2.dB(h:A0N):BJT LB:=EDV
def Runs2.size(h:A0N):qQ.size=cI+LB.length+R.length:=by
 rw[BQ1 h.eq];simp[Nat.add_assoc]
def Runs2.extA(h:A0N)(k:Nat):AHF qQ.extract qV cI=LA.drop k:=by
 rw[a3R,h.eq,EKJ,SE List.take_append_of_le_length];rw[D9G,List.drop_append,BVD List.drop_eq_nil_of_le,List.nil_append];congr 1;exact b9P
def Runs2.extB(h:A0N)(a:k<=LB.length):AHF qQ.extract cI (cI+k)=LB.take k:=by
 rw[a6l,h.eq,List.append_assoc,SE List.drop_append_of_le_length,SE List.drop_eq_nil_of_le,List.nil_append,List.take_append_of_le_length a]
def a9m{pw a8:Nat}{Q:BV1}(H:JJ)(hk:JH)(h:CGT KU)(hp:AHV B0H (CN1 LA.length))(a6:yC B0H AO (cI,LB.length,a8))(hf:BZ3)
  (q:GC st' SortSt M LZ (BAF st') (BLK->pendingOf st'=ER8 AO->a3V kf LA LB M->BWB=P++M++R->BYQ)):HA D4N:=by
 rw[b0r];rw[qX];rw[hp,a6];dsimp only;rw[u8 c2A];unfold mgA;rw[AE l (heq_of_eq h.size) I h.na];have p:=h.nb;generalize d:BV2 (kindOf st) st (ED8 CU6 CX4) (gallopOf st) (failedOf st)=c;rw[XX k2 (BAF c) d hk]
 have a2:arrOf c=arrOf st:=by rw[<-d]
 have p2:pendingOf c=ER8 AO:=by rw[<-d]
 rw[XX f2 (BD3 c) d hf]
 have C:DWJ=LA++LB->WT LA (kC LB)->Q true c:=EH a5 (by
  refine q c DWJ k2 f2 p2 (GH AZH List.pairwise_append.mpr ⟨h.sa,h.sb,a5⟩) ?_;rw[a2,h.eq];rw[AZ0])
 rw[LJ (C2 (by rw[PD BUS 0x36485bc6a7aa81fea58eb2f358861 p]) λy e1 _=>?_)];rw[XX ey (IP LB 0 y) (h.atB p) e1]
 have a1:kR LB (ZJ y z):=a0C h.sb ey (KeyOrd.kle_refl _);have W:r6 LA.length (yC KU D7J DDI/\AHW LA LA.getD):=XO (by
  have:AHW LA LA.getD:=B1S XR
  rw[EHJ h.atA])
 have X:r6 LB.length (yC KU (cI+i) DDJ/\AHW LB LB.getD):=XO (by
  have:AHW LB LB.getD:=B1S XR
  rw[EHJ h.atB])
 have B:∀{u v:Keyed},A60 ((uY u v))->ZJ v u:=λ{u v} z=>by
  rw[C8Z z z]
 rw[rR (EY1 (A8E h.dB ey) (!(uY y DDI)) W (A8E h.dA (BJK W)) I) k q1 q2 q3]
 .have:=KeyOrd.kle_trans (EJK h.sa W (A5T W a)) (B hb);rw[oJ KeyOrd.kle];rw[oH ltK this]
 .dsimp only;have Z:ADI B0W x y:=wQ (by
   rw[B90 hx List.length_take];have o:=BRQ BR6;have:=B (q2 j (BRQ BJH));have e2:=A5T W o;rw[List.getElem_take]at e;rw[B9Q o]
   rw[C39])
  split
  .rw[F0B x hx (Z x ?_) a1 f];rw[AD (List.take_of_length_le (B04 0xd1f5a4102f8f756)) hx]
  .rw[u5];replace e:k<LA.length:=Nat.lt_of_sub_ne_zero λz=>BBV;clear q1;have a3:FW BSS BQH:=wQ (by
    rw[B90 hx List.length_drop];rw[List.getElem_drop]at e;clear l p;have S:k+j<LA.length:= OJ a7q
    have:=q3 D7S ABO S;have e2:=(W D7S S).2;rw[B9Q S]
    rw[e2];rw[mT])
   unfold mgB;rw[LJ (C2 (by rw[PD BUS 0x1a85ca7454f87374fd1c6ad32eb29b0f20686f2caa8a023f3cb9a e]) λx f1 _=>?_)];rw[cB (qV+(LA.length-k)-1) (P.length+(LA.length-1)) 0xbaf9df3614a880507a08743fc3a57266ee830a638a7d4ed7edfa46dfa0de8db05ffd0c1be622597f7a797 e]at f1;rw[XX ex (dP LA BRD) (WW h.atA a8K I) f1]
   have V:kR LA E12:=λz f=>by
    have:=a0y h.sa ex (KeyOrd.kle_refl _) z;rw[bO (cB (BRD+1) LA.length 0x5e20d502b831f1a108d30dec5d I) this];exact this f
   rw[rR (EY1 (A8E h.dA ex) (uY DDJ x) X (A8E h.dB (BJK X)) DQJ) n r1 r2 r3]
   .exact KeyOrd.klt_of_kle_of_klt (EJK h.sb X (A5T X a)) hb
   .dsimp only;have O:kR B0T DMK:=λz f=>by
     rw[B90 f List.length_drop];rw[List.getElem_drop]at e;have U:n+j<LB.length:=by clear l I p;exact a7q a
     have:=r3 D7T ABO U;have e2:=(X D7T U).2;rw[B9Q U]
     rw[C39]
    have a4:kR BSJ (AW (uY z x)):=λz f=>by
     rw[B90 f List.length_take];rw[List.getElem_take]at e;have o:=BRQ BR6;have:=r2 j (Nat.lt_of_lt_of_le a BJH);have e2:=A5T X o;rw[B9Q o]
     rw[C39]
    split
    .rw[F0B u t (V u t) O ?_];rw[CM e List.drop_zero f]
    .rename_i Y;replace Y:0<n:=Nat.pos_of_ne_zero λz=>BEA Y;rw[AE L (h.extA k) N (h.extB r1)];generalize b0:A22 extract qV cI=Xa at L;generalize b1:A22 extract cI (cI+n)=Ya at N;rw[AE sX (heq_of_eq (show Xa.size=AX2 by rw[ACH L List.length_drop])) sY (heq_of_eq (show Ya.size=n by rw[<-Array.length_toList,N,List.length_take,DKO]))];have T:Two D kf Xa Ya:=by
      refine⟨E41,E41,AG L h.sa.drop,AG N h.sb.take,BT z f u eu⟩
      rw[EX9 h.dA List.mem_of_mem_drop k L]
      rw[EX9 h.dB List.mem_of_mem_take n N]
      .rw[N]at f;rw[<-Array.getElem?_toList,L,List.getElem?_drop,DD7,cB (k+(AX2-1)) BRD 0x2c3a6e5b65142fa4d2128f050af385a0790afaa2d9f2c9de72e6d207e7f0a5148294a8196 e,ex]at eu;cases eu;exact a4 z f
     have F:a7M kf Xa Ya:=λz G u t=>by
      rw[N,List.getElem?_take_of_lt Y,ey]at G;cases G;rw[L]at t;exact a3 u t
     have fin:∀(r:AR) (b:SortSt),E7 kf Xa Ya r->Good c b->tO (mgC qV r) Q b:=λr b hr g=>by
      unfold mgC;obtain⟨J,a7⟩:=hr;rw[L,N]at J;have a0:=heq_of_eq (show r.size=AX2+n by
       have:=J.length_eq;rw[List.length_append,List.length_drop,List.length_take,Array.length_toList,DKO]at this;rw[UI])
      rw[LJ (wpS_modify (wpS_bind (cT wpS_get wpS_pure)))];show Q (DY2 b) _;rw[g.2.2.2,f2];have K:kR r.toList (z∈BSS∨z∈BSJ):=λz f=>List.mem_append.mp (J.mem_iff.mp f);refine q _ (B0W++r.toList++B0T) (OT g k2) rfl (OT g.2.2 p2) D70 ?_
      .refine IJ (ACJ J).append_right _ ?_;rw[<-List.append_assoc (LA.take k),List.take_append_drop,List.append_assoc,List.take_append_drop]
      .have sAk:E70 B0W BSS:=by
        rw[ECS h.sa (List.take_append_drop k LA)]
       have a9:E70 BSJ B0T:=by
        rw[ECS h.sb (List.take_append_drop n LB)]
       rw[List.pairwise_append,List.pairwise_append];rw[FY ⟨h.sa.take,a7,EMY⟩ h.sb.drop EMY]
       .rw[BW (K v hv)]
        .exact sAk u t v z
        rw[A77 (Z u t) (AZK a1 v z)]
       .rw[E04]
        rw[A77 (AZK V u z) (O v hv)]
        .rw[BW (K u z)]
         rw[A77 (V u (List.mem_of_mem_drop z)) (O v hv)]
         .exact a9 u z v hv
      .show(b1t (arrOf b) r qV).toList=_;rw[g.2.1,a2,GX a9M (by rw[DD6,BUS];clear l;rw[DL 0x389b56d0ffd076adb196f9cd26ebafa482b9a e r1]),h.eq,DD6];have e1:(CAS++R).take qV=P++B0W:=by
        rw[List.append_assoc,List.append_assoc,List.take_append,BVD List.take_of_length_le,B13 (qV-P.length) k b9P,WW List.take_append_of_le_length a2s e]
       have e2:(CAS++R).drop DW7=B0T++R:=by
        rw[EKJ,List.drop_append,D24 (by rw[C1S 0x6b97cc26fa1de73a6eb216f98]),List.nil_append,List.length_append,cB (DW7-(cI)) n 0x27f0e3d4526f434cf2d19074fc04cf8e3e904e847afa7a798 e,List.drop_append_of_le_length r1]
       rw[A6E];rw[AZ0]
     split
     rw[F06 (a9k T H k2 (AVI sX (lq 0x9c8e632330fcf96 e)) E8U (λz G u t=>D0P (F z G u t)))]
     rw[F06 (a9l T F H k2 (XM DD7) E8U)]
#where
section
variable {kf:DM}
noncomputable def kx(kf:DM)(qQ:AR)(i:Nat):O.α:=E3T qQ.getD
noncomputable def SoO(kf:DM)(qQ:AR)(lo m:Nat):Prop:=ETE BZA (A4V j)
noncomputable def NiO(kf:DM)(qQ:AR)(lo m:Nat):Prop:=ETE (A4V j) BZA
noncomputable def Kept(lo:Nat)(st st':SortSt):Prop:=E7Y/\E7Z/\E80/\EBB/\r6 lo (eT mF=eT KU)
def Kept.refl{lo:Nat}:Kept lo st st:=C6G AZH CSP
def Kept.trans{lo:Nat}{st' a:SortSt}(h:A33)(h2:DC6 st'):DC6 st:=⟨E4D,E6X,EAQ,mG (aE h2) D8Q,XO (A2T (ATC h2) i hi (wI.2.2 i hi))⟩
noncomputable def AllD(D:AIJ)(qQ:AR):Prop:=DM5
def AllD.perm{a b:AR}(h:AllD D a)(p:b.Perm a):AllD D b:=λx c=>h x ((Array.perm_iff_toList_perm.mp p).mem_iff.mp c)
def a1j{a b:AR}(h:a[i]?=b[j]?):KM a i=KM b j:=by
 rw[eW kx Array.getD_eq_getD_getElem? Array.getD_eq_getD_getElem? h]
def Z3{Q:AWF}(a:JJ)(d:JH)(b:tF)(hi:i<oB)(c:j<oB)(h:oX (AFL (KM KU i) (KM KU j)) st):HA (ltAt' i j):=by
 rw[ltAt'_eq];rw[qX];rw[LJ (C2 hi λx e1 f1=>wpS_bind (NW C2 c y e2 f2))];rw[gdK _ hi]at e1;rw[AX (gdK _ c) e2 e1];cases e2;exact a2C a d (A8E b f1) (A8E b f2) h
def b6O{src:Nat}{Q:B25}(h:Q () (CLN (E5S KU))):HA (moveDown' src a):=by
 rw[BB moveDown'_eq wpS_modify h]
def a3J{src:Nat}(hs:src<qQ.size)(hd:a<=src)(i:Nat):KM (E5S qQ) i=if i=a then B0I src else if a<i/\i<=src then B0I (i-1)else KM qQ i:=by
 have e:=getElem?_bubble hs CST (KP 0x5a80e2fdd56156) i;rw[cB (src-(src-a)) a 0x201e5982c2a0b71559e72dcdf8752be8f64ce8cd6 hd]at e;split
 rw[ALO c rS]
 .rw[BE2 c yS];split
  rw[ALO c2 (CO c2)]
  rw[ALO c2 (BC c2)]
def a5y{l:Nat}(h:l<j)(h2:AJK):xK<k:= AU 0x5b2a0e77ae39639125e34ee97 h h2
section
variable {l:Nat}(hs:AAU<qQ.size)(hd:l<=k)
include hs hd
theorem c2l(h:i<l):AIF qQ i=BZA:=by
 rw[C7E,BC (bZ 0x1df7dc1daffeaa6797),A5V]
theorem b3f:AIF qQ l=A4V k:=by
 rw[C7E,EJ]
theorem a9d(h:l<i)(h2:B14):AIF qQ i=A4V ((i-1)):=by
 rw[C7E,BC (bZ 0x1419483072f8f00397),AI1,Nat.add_sub_assoc (bZ 0x5a893d766eab96)]
#where
def b6P{ok:Nat}{Q:BV1}(K:JJ)(T:JH)(R:tF)(N:DFU)(L:ok<=n)(hs:AWO ok)
  (h:∀st',A33->BDF n->BYQ):HA (binarySort' lo n ok):=by
 rw[binarySort'_eq];rw[AF7 (BDP (λk c st'=>CPU AX9)
  (Q:=v1 (CPU n))) ?init]
 case post =>
  rw[C5F rfl f e];rw[mR (h st' f e)]
 case init =>
  rw[FY rfl Kept.refl (A6H o u)];rw[BM h1 ok 0]
  .have:jN:= TC 0x8d9a90052f412929e2ffed465a7e4ecafebec5ce837d54fe18fc8d8 o u h1
   rw[A0W this]
  .exact hs i j o (AU 0x13302a8efe90729a1fabbb5e8aafa6f19e90d9ff4665c7640a17 u h1)
 case fin =>
  rw[C5F S f e];rw[LT S f];rwa[show min (max (max ok 1) n) n=n by rw[VY 0x8d0f6d605a149c2e3cc8f826125daa1840b6f78973a5f0603a1ea1e6]]at e
 case step =>
  rintro k c st' J z ⟨rfl,f,e⟩;rw[AZ6 (min k n=k) 0xbc719366d85f9c0361f196 z]at e;have y:AAU<A7U:=by have:=ALM f;exact lq 0x9f899a3bd11a39ad451be1ad99 N z this
  have H:=R.perm CS5;have B:min CF n=CF:= BH 0x366b99578181f59530f1fd996 z
  clear N L J z;rw[LJ (wpS_mono (BDP (λx c a=>a=st'/\BG1 (l<=r/\r<=k/\r-l<=k-x /\
    CPO r))
   (Q:=λc a=>a=st'/\BG1 (l<=k /\
    CPO l)) ?istep ?ifin ?iinit) ?ipost)]
  case iinit=>exact⟨rfl,0,k,rfl,BPZ,~~~b9f,KP 0x1e69948f84c2df57c7b82d25,XO AF,AF3 AF⟩
  case ifin =>
   rintro c a ⟨rfl,l,r,rfl,C,t,G,q,p⟩;have:l=r:= ~~~c9j C G
   rw[pJ];exact⟨rfl,l,l,rfl,t,q,p⟩
  case istep =>
   rintro x c a _ U ⟨rfl,l,r,rfl,C,t,G,q,p⟩;dsimp only;by_cases g:DXK
   .rw[CO g];have:l=r:= ~~~c0y C g
    rw[ARH this ⟨rfl,l,l,rfl,t,q,p⟩]
   .rw[BC g];rw[DR m M F P b4u (l+r)];rw[M];clear M;rw[YE (Z3 K (OT f T) H AF (~~~lq 0x38a72cd9fb5cab5d4ca92cb8b48b9e9a79bcab499a y t g F) ?_)];cases v:AFL (cP AHR k) (cP AHR m)with
    |true =>
     rw[EJ];rw[ACL ⟨rfl,l,m,rfl,AU 0x127489703eb12d621bca8769c48d7 g P,EJ9 0x4b5dfb7be5d9a4d36baf1cc2b7037d8,AU 0x387847a810938a30d0fc6a7120dda90480291100b65bf2a7842fedd79e79781bae35e6b08326afbaee1d54f74b2b534ceb359 G F,q,C71⟩];exact KeyOrd.kle_trans (KeyOrd.kle_of_klt v) (AK e h1 h2)
    |false =>
     rw[B2J ⟨rfl,m+1,r,rfl,AU 0x606b4b6cc593c6bcb8b18824d7 g F,AF,AU 0x62d27d49a3339666a7a001b003f6e7994a5a2dce8b441d2b2a570259f14e5ef086c5462bdfa142767c10f47cb1a1ae8dbdb359 G P,BK i h1,p⟩];exact KeyOrd.kle_trans (e i m (vS c0j) (EJ9 0x4b5dfb7beba2ad6978b4cdc2b7037d8)) v
  case ipost =>
   rintro c a ⟨rfl,l,r,rfl,b,q,p⟩;rw[C20 b6O (cO (f.trans (C6G (nN bubble_perm) DQP)) ?_)]
   .show eT (CIH AHR)=_;rw[getElem?_bubble y _ (KP 0x299b8fd6a1108c55c2936f97),BC (A76 0x9c7e33aab955b22226518caea144b4f3d64d1b1e198),A5V]
   rw[B];clear B;intro i j o u;replace u:AJK:=Nat.le_of_lt_succ u;show uX (AIF AHR i) (AIF AHR j);rcases Nat.lt_trichotomy i l with c|rfl|c
   .rw[c2l y b c];rcases Nat.lt_trichotomy j l with d|rfl|d
    .rw[AD (c2l y b d) (e i j o (Nat.lt_of_lt_of_le d b))]
    .rw[AD C60 (q i c)]
    .rw[AD CC4 (e i xK (Nat.le_sub_one_of_lt (Nat.lt_trans c d)) C68)]
   .rw[C60];rcases D0Q o with d|rfl
    .rw[AD CC4 (p xK (Nat.le_sub_one_of_lt d) C68)]
    .rw[BB C60 KeyOrd.kle_refl _]
   .have d:=Nat.lt_of_lt_of_le c o;rw[CM (a9d y b c (Nat.le_trans o u)) CC4 (e (i-1) xK (Nat.sub_le_sub_right o 1) C68)]
#where
noncomputable def c2s(lo a nrem:Nat):nJ AscSt:=forIn [a:nrem] (tW a:AscSt) λ_ c=>B41 D38 (nZ XI) (match r with
 |D2D=>(A3Z (AW sm) (tW XI) (iX (tW (XI+1))))
 |_=>KQ (AQ none,XI))
noncomputable def a1Z(lo n nrem:Nat):AJQ:=E75>>=DF (c2s lo n nrem>>=λc=>match LP with
 |fF=>rY
 |none=>B5R)
noncomputable def b4E(lo n nrem:Nat):nJ DescSt:=forIn [n:nrem] (ZS n 0:DescSt) λ_ c=>B41 ARA (nZ LM) (match r with
 |D2D=>(if AW sm then(if CRT then CYH E3D else E3D)
  else B41 (nZ LM) ARA (match r with
   |AQ lg=>DTN lg (ZS (LM+1) (PQ+1))
   |_=>B8T))
 |_=>B8T)
noncomputable def dpO(lo n nrem:Nat):AJQ:=EGT>>=DF (b4E lo CS nrem>>=λc=>match LP with
 |fF=>rY
 |none=>E1M EAJ EAJ)
def b6p(lo a:Nat):countRun' lo a=(c2s lo 1 a>>=λc=>match LP with
 |fF=>rY
 |none=>(if WG XI a then B5R else if XI > 1 then B41 lo (nZ XI) (match r with
   |AQ rose=>(if AW rose then B5R else BF2 lo D38>>=DF E40)
   |_=>DBT)
  else E40)):=by
 have e:∀(n:Nat),(E75>>=DF (AK2 c2s>>=λc=>match LP with|fF=>rY|none=>B5R))=AK2 a1Z:=λn=>rfl;rw[AYT countRun'_eq];rw[iN ?_ c]
 .rfl
 rcases c with⟨_|q,n⟩
 .dsimp only;have d:∀n:Nat,(EGT>>=DF (b4E lo CS a>>=λc=>match LP with
    |fF=>rY
    |none=>E1M E3Z E3Z))=AK2 dpO:=λn=>rfl
  have b:∀{β:Type}{m:nJ β}{f g:β->AJQ},(∀c,f c=g c)->(m>>=f)=(m>>=g):=λh=>mB (funext h);refine AX4 λ_=>gJ BZI _
  .rw[UJ b r];rcases r with _|r
   .rfl
   .rw[AZ4 AX4];rw[UJ b _];rw[<-d];rw[A8H]
    .rfl
    .rw[ER3]
     .rw[AZ4 BZI]
      .rw[UJ b _];rw[A8H]
       .rfl
       rw[B4D]
      .rw[A8H]
       .rfl
       rw[B4D]
     .rfl
  .rw[<-d];rw[A8H]
   .rfl
   .rw[ER3]
    .rw[AZ4 BZI]
     .rw[UJ b _];rw[A8H]
      .rfl
      rw[B4D]
     .rw[A8H]
      .rfl
      rw[B4D]
    .rfl
 .rfl
section
variable {kf:DM}
def a3I(a:DEX)(k:Nat):DPY (if B14/\k<j then B0I (i+j-1-k)else DE7):=by
 have e:=getElem?_mirror_all (i:=i) a k;split
 rw[ALO c rS]
 rw[ALO c yS]
def R6(b:DEX)(a:∀k,B14->k<j->KM qQ k=B0I xK)(k:Nat):DPY DE7:=by
 rw[a3I b];split
 .rw[a _ AF AF,a k AF AF]
 .rfl
def Kept.rev(hi:lo<=i)(a:j<=oB):CUT DP4:=C6G (GX mirror_perm _) (λk b=>by
 show(DP4)[k]?=_;rw[getElem?_mirror_all a,A5V])
def a9o{b:Nat}{Q:aF AscSt}(r:JJ)(v:JH)(t:tF)(q:ALL b)(p:1<=a)(f:a<=b)(hs:AWO a)
  (h:∀n,a<=n->n<=b->AWO n->(n=b∨EGM)->Q (tW n) st):HA (c2s lo a b):=by
 rw[B8Y c2s (AO7 (st'=st/\c=tW x/\AWO x)) ?fin (vC hs)]
 case fin =>
  rw[C5F rfl rfl d];rw[Nat.max_eq_right f]at d⊢;exact h b f BO d (.inl rfl)
 case step =>
  rintro x c st' k g ⟨rfl,rfl,d⟩;dsimp only;replace p:1<=x:=Nat.le_trans p k;rw[show AWQ=lo+BFF by clear q f k g;rw[DN 0xd2e9c3eeaa316adf1c189a8abfb4d5c74703958fcd657aca6e p]];rw[LJ (Z3 r v t (AU 0x427e8d7d5e90cc398 g q) (AU 0x5d84986f50ae6df186260dc548cc398 g q) ?_)];clear q f;dsimp only;cases e:E74 with
  |true =>
   rw[q8 EJ (h x k (~~~a2s g) d (.inr e))]
  |false =>
   rw[B2J (vC (A6H m u))];by_cases o:j<x
   .exact d i j m o
   .rw[C4L u o]
    rw[B6B l]
    .rw[A0W l]
    rw[A77 (d i xK (~~~c0w m l) (~~~c0p p)) e]
def a4U(e:JJ)(o:JH)(k:tF)(d:ALL a)(h1:fO)(b:n<=a)(hs:C0M n)
  (h:CD5 a):HA (AK2 a1Z):=by
 unfold a1Z;rw[u8 wpS_reverse];have c:DTY:=C1L Kept.rev (~~~c0r d b);rw[LJ (a9o e (D81 o) (k.perm mO) (AG DFY d) h1 b (A6H f l) λm p q r _=>wpS_pure (h m _ c (AQH 88870131167231598 p) q r))];show uX (cP AYG i) (cP AYG j);have g:DFU:= ~~~c0r d b
 rw[a3I g,a3I g];clear d h1 b g;rw[AI1,AI1,ED6 i ((AZY-i)),ED6 j ((AZY-j))];exact AK hs (BH 0x4c827d8b823336a35f881e13c6226979409ce812082ddc7565c7fc7b0d6c2cf7b6f8242e1339d7 f) (BH 0xa39d60f3830f1a821ee8387c0e3b2e97 l)
def b4P{d:Nat}{Q:aF DescSt}(H:JJ)(K:JH)(N:tF)(M:ALL d)(h1:fO)(B:n<=d)(hs:C0M n)
  (h:∀m a st',A33->n<=m->m<=d->CTW m->bE<=m->CY6 yJ yJ (nZ m)->A43 (ZS m a)):HA (b4E lo n d):=by
 rw[B8Y b4E (AO7 (∃a,c=ZS x a/\A33/\CTW x/\bE<=x /\
   CY6 AE6 AE6 AWQ)) ?fin ⟨0,rfl,Kept.refl,hs,AF,AF3 (by congr 1;rw[A8L 0x3c4412843342640a04f4823d2cb393855e1cc0f2f649856817c9b881c197])⟩]
 case fin =>
  rintro c st' ⟨a,rfl,b,g,v,F⟩;rw[Nat.max_eq_right B]at g v F⊢;exact E5X d B BO g v F
 case step =>
  rintro x c st' o e ⟨a,rfl,b,g,v,F⟩;dsimp only;rw[ER z (AE6<A7U) (ALM b) (Nat.lt_of_lt_of_le (Nat.add_lt_add_left e lo) M)]
  have G:=N.perm D8P;replace e:x<=d:=Nat.le_of_lt e;have ex:HEq AWQ (lo+BFF):=heq_of_eq (by clear M h1 B o e z;rw[DN 0x2ef12cfed0c26c3bc06bd0c604ee7275257286b8807fcc9fb0237 v]);have l:AWQ<A7U:=Nat.lt_of_le_of_lt (BS Nat.sub_le) z;clear M h1 B;rw[ET2 z l];rw[APV ex]at F l⊢;cases u:E74 with
  |true =>
   rw[EJ];have y:∀xs:AR,(∀k,KM xs k=KM mF k)->NiO kf xs lo dG:=by
    intro xs K i j q L;rw[K,K];by_cases r:j<x
    .exact g i j q r
    .rw[C4L L r]
     rw[B6B p]
     .rw[A0W p]
     .exact KeyOrd.kle_trans (KeyOrd.kle_of_klt u) EV3
   by_cases f:BTT
   .rw[CO f];rw[C20 wpS_reverse (F49 (b.trans (Kept.rev (by clear z l ex o e f;exact c0U v) (Nat.le_of_lt z))) (R6 (Nat.le_of_lt z) (λk P R=>AVI ex (F k P R))))]
   .rw[BB (BC f) wpS_pure (F49 b A3C)]
  |false =>
   rw[aV];rw[ET2 l z];clear z l;cases t:AFL BKH BKG with
   |true =>
    rw[AD EJ (wpS_pure (E5X x o e g v (AVI ex F)))]
   |false =>
    rw[aV];have C:BKG=BKH:=KeyOrd.kle_antisymm t u;clear o e;rw[ACL ⟨bE,rfl,b,A6H q L,BH 0x22619215c9f82a36 v,C71⟩]
    .by_cases r:j<x
     .exact g i j q r
     .rw[C4L L r]
      rw[B6B p]
      .rw[A0W p]
      .rw[AD C EV3]
    .rw[jX (show nZ (BJP)=AE6 by rw[VY 0x48d032331e493b7434f8c15d6]) J i AE6]
     .subst J;rfl
     .rw[AD C (F i (BRO 0x196d6b7cfa6b909dc418023e934a254b785c315d8) (B07 0xc15037c66930220f80cb70dcde17 J))]
def b3v(e:JJ)(t:JH)(z:tF)(q:ALL a)(u:CS<=a)(hs:C0M CS)
  (h:CD5 a):HA (AK2 dpO):=by
 unfold dpO;rw[AGC];rw[YE (b4P e t z q A5N u hs λm k st' b F f p v B=>?_)];have x:=heq_of_eq (ALM b:A7U=oB);rw[ER g (yJ<=A7U) BRA (Nat.le_trans (Nat.add_le_add_left f lo) q)]
 have o:=z.perm D8P;by_cases d:k > 0
 .rw[CO d];have c:DHJ (setArr st' (mirror mF (yJ-A2U) yJ ((yJ-(yJ-A2U)) / 2))):=Kept.rev (~~~c0U v) g;rw[DZ1 (a4U e (D81 (OT b t)) (o.perm mO) (IG DFY BRA q) (~~~c0q v) f (A6H r C) λy l k2=>h y l (b.trans (c.trans k2)))];show uX DPB DPB;rw[CM E9K E9K (p i j r C)]
 .rw[AD (BC d) (a4U e (OT b t) o (AG BRA q) (~~~c0q v) f p λy l k2=>h y l (b.trans k2))]
def b1c{c:Nat}(p:JJ)(u:JH)(H:tF)(v:ALL c)(h1:1<=c)
  (h:CD5 c):HA (countRun' lo c):=by
 rw[b6p];rw[YE (a9o p u H v (Nat.le_refl 1) h1 (λi j g z=>by have:jN:=(AU 0xa094c5a5635664e6918d6 g z);rw[A0W this]) (DW n l b q G))];rw[BM a n c]
 .rw[BB (iO (by rw[BPU])) wpS_pure F2L]
 .rw[LK (by rw[BPU])];have B:EGM:=G.resolve_left a;replace a:CS<=c:= ~~~c0x b a
  clear G b h1;replace b:=Nat.le_of_succ_le a;have r:WS<oB:=Nat.lt_of_lt_of_le (Nat.add_lt_add_left a lo) v;by_cases e:n > 1
  .rw[NL];rw[YE (Z3 p u H (BH 0xd20045e3fb6d997 r) (BH 0x9f93b901297e04c77b530d1997 r) ?_)];have ex:WS-1=lo+(n-1):=by clear v a b r;rw[DN 0x788557cf61c5a34abbc211c1427ff51c59b748fcd65842b6e e]
   rw[ex];cases y:AFL (KM KU lo) BLS with
   |true =>
    rw[q8 EJ F2L]
   |false =>
    rw[aV];have x:=v;clear v;have d:∀k,k<n->cP KU k=BLS:=by
     intro k u;clear r a b ex;rw[AE L (q 0 k F1 u) M (q k AZY (BH 0x9c8dc589d0d2196 u) (B04 0x23298a70e5171a9ef6d))];exact KeyOrd.kle_antisymm M (KeyOrd.kle_trans y L)
    have C:∀k,KM AYG k=KM KU k:=R6 (Nat.le_of_lt r) λk K P=>by
     rw[ex];clear r a b ex x;have:=d (k-lo) (~~~b2G K P);rwa[AQ2 (lo+(k-lo)) k b4c K]at this
    have o:DTY:=C1L Kept.rev (Nat.le_of_lt r);rw[DZ1 (b3v p (OT o u) (H.perm (aE o)) (AG (ALM o) x) a E6S λN J k2=>h N J (o.trans k2))];show uX DPC DPC;rw[C,C];clear r a b ex x l;by_cases t:j<n
    .rw[F2 (d i (~~~b2s g t)) (d j t) KeyOrd.kle_refl _]
    .have hj':j=n:= ~~~a8J z t
     rw[B6B f]
     .rw[A0W f]
     .rw[BB (d i (~~~c0g g f)) KeyOrd.kle_of_klt B]
  .rw[IX];have F:n=1:= AU 0x1f18e9ec0b79bc248fb4166d l e
   subst F;refine b3v p u H v a E6S h;clear r a b v l e;rw[BM f i j]
   .rw[A0W f]
   .have hi0:i=0:= ~~~lq 0x2057e1c4fa8b324e8ebe677e87c4347558d6 g z f
    have I:j=1:= TC 0xa44f6d1fe186111ccec317735cc00870c860e6 z f hi0
    subst hi0;rw[mH I KeyOrd.kle_of_klt B]
#where
noncomputable def a4v:Nat->qU->DLS
 |_,[]=>[]
 |o,B37=>(o,r.length)::E76 a4v rs
def W3:∀(o:Nat) (X Y:qU),a4v o (X++Y)=a4v o X++a4v (o+X.flatten.length) Y
 |o,[],Y=>IF a4v
 |o,r::X,Y=>by
  simp only[List.cons_append,a4v,W3 (o+r.length) X Y,List.flatten_cons,List.length_append,Nat.add_assoc]
def a5G:y4 o X qU (IS a4v o X=X.length)
 |_,[]=>rfl
 |o,r::X=>by simp only[a4v,List.length_cons,E76 a5G X]
noncomputable abbrev ent(e:ALD):DIT:=(e.1,e.2.1)
section
variable {kf:DM}
structure RI(kf:DM)(κ:SortKind)(a0:AR)(st:SortSt)(runs:qU)(rest:LZ):Prop where
 kind:JH
 failed:BZ3
 perm:(arrOf st).Perm a0
 eq:BVJ=runs.flatten++rest
 sorted:jA runs BUE
 ne:jA runs AQL
 pend:BGW toList.map ent=a4v 0 runs
def RI.size(h:B5V):D9S=runs.length:=by
 rw[<-Array.length_toList,<-EIS,h.pend,a5G]
def a3Y{X Y:qU}{ra c:LZ}{Q:BV1}(k:JJ)(G:B8O)(h:A2E st (X++ra::c::Y))
  (q:∀(st':SortSt) (M:LZ),A2E st' (X++M::Y)->M.length=ra.length+c.length->BYQ):HA (mergeAt' X.length):=by
 have t:=h.pend;rw[W3,a4v,a4v]at t;obtain⟨e,N,j,e1,e2⟩:=List.map_eq_append_iff.mp t;obtain⟨x,O,v,g,B⟩:=List.map_eq_cons_iff.mp e2;obtain⟨y,H,C,i,p⟩:=List.map_eq_cons_iff.mp B;subst v C;obtain⟨I,J,u⟩:=x;obtain⟨K,L,o⟩:=y;rw[Nat.zero_add]at g i p;have g:(I,J)=(X.flatten.length,ra.length):=g;have i:(K,L)=(DW6,c.length):=i;rw[pI g i];have a:e.length=X.length:=by rw[<-EIS,e1,a5G]
 have g1:yC B0H X.length (X.flatten.length,ra.length,u):=by
  rw[ER2 D7W ENV]
 have F:yC B0H CQM (DW6,c.length,o):=by
  rw[ER2 D7V ENW]
 have b:Runs2 kf D KU X.flatten ra c (Y.flatten++rest):=by
  rw[DO ⟨?_,λz m=>(G.perm h.perm) z m,DJ3,DJ3,DJ4,DJ4⟩ h.eq];rw[AZ0]
 refine a9m k h.kind b g1 F h.failed λst' M k1 k2 k3 n k5=>?_;have d:M.length=C4T:=by rw[n.1.length_eq,List.length_append]
 refine q st' M ⟨k1,k2,?_,?_,DLT,DLT,?_⟩ d
 .rw[JR Array.perm_iff_toList_perm.mpr];refine List.Perm.trans ?_ (Array.perm_iff_toList_perm.mp h.perm);rw[k5,b.eq];refine D1R ?_;rw[AD (List.append_assoc X.flatten) (ACJ n.1)]
 .rw[k5];simp[List.append_assoc]
 .rw[E05]
  .exact h.sorted r BW3
  .rw[BZY]
   .exact n.2
   .exact h.sorted r D99
 .rw[E05]
  .exact h.ne r BW3
  .rw[BZY]
   .have:=h.ne ra AJ;rw[UN 0x29589d39557d1b8a683cb17 d]
   .exact h.ne r D99
 .rw[k3,Array.eraseIdxIfInBounds];have m:D9S=X.length+(Y.length+2):=by rw[LS h.size]
  rw[AJ5 dif_pos Array.size_setIfInBounds 0xb8aac9891cd2039e5117 m,Array.toList_eraseIdx,Array.toList_setIfInBounds,j];rw[BQJ D7W,ENV,List.set_cons_zero];rw[List.eraseIdx_append_of_length_le D7V,ENW];show FQ (e++(X.flatten.length,C4T,u)::H) ent=_;rw[List.map_append,List.map_cons,e1,p,W3,a4v,Nat.zero_add,d];show _++(X.flatten.length,C4T)::_=_;rw[Nat.add_assoc]
#where
noncomputable def a4F(lo n:Nat):DD2 :=
 C7N (setPending s (A9W s push ED3))>>=DF (iX CS2)
noncomputable def a1o(sz pw:Nat):DAP :=
 EYU (match CZ0 with
  |AQ (_,_,older)=>(A3Z (older<=pw) aN (ERY wX))
  |_=>D6P)
noncomputable def a2B(sz lo n:Nat):DD2:=get>>=λg=>match CVP with
 |AQ (s1,n1,_)=>a1o sz F03>>=λc=>match LP with
  |fF=>KQ (fF,lo)
  |none=>C7N (setPending s ((pendingOf s).modify (AO5 s-1) λx=>(EN,dI,F03)))>>=DF C63
 |_=>C63
noncomputable def b4l(sz:Nat):DAP :=
 (EYU (if BB5<=1 then D6P
  else ERY (if uE Option.any (λx=>CJ (x<(BHJ (wX+1)).elim 0 λx=>dI)) (if wX > 0 then Option.map (λx=>dI) (BHJ (wX-1)) else none) then wX-1 else wX)))
section
variable {kf:DM}
def two_last{l:CL}(h:2<=l.length):∃X a b,EKS ZH AWL:=by
 refine⟨l.take AWL,DIZ,DJ0,?_,IU List.length_take lq 0x540f9bc5ace134bff1e68f78c9ecbf65f1a930d54e28e44a3c95852c868a5⟩;have e1:l.drop AWL=[DIZ,DJ0]:=by
  rw[D49,List.drop_eq_getElem_cons (bZ 0x5bc2574b96245182517d),A23 List.drop_eq_nil_of_le 0x67ca5af3423a405];congr 2;congr 1;rw[DN 0x12f595d9a28554586c60db3aabe07fdb89502517d h]
 rw[CQI e1]
def a7O{sz:Nat}{Q:D8V}(f:JJ)(g:B8O)(h:B5V)
  (q:∀st' a,AEY->CT7->CT6->A43 aN):HA (a1o sz i):=by
 rw[B8Y a1o (λ_ c st'=>c=aN/\∃a,AEY/\CT7/\CT6) (λc st' k=>by obtain⟨e,d,h1,h2,b⟩:=k;rw[AD e (q st' d h1 h2 b)]) (GJ rfl runs h BO)];rintro x c st' _ _ ⟨rfl,d,h1,h2,b⟩;rw[qX];split
 .rename_i older heq;split
  rw[EX5]
  .have hz:BVS > 1:=by
    rw[D7A z];rw[AX (BC (BH 0x9df33abe10e5 z)) heq heq]
   have hs:=h1.size;obtain⟨X,ra,m,e1,e2⟩:=two_last (l:=d) (AU 0x46579576673d8fe5f6e hz hs);rw[e1]at h1;rw[show BVS-2=X.length by rw[DL 0xfcd762529b6398a2260ea5b68cd61004465d95dbc1b69c6d58c5f957 hs e2]];rw[rR (a3Y f g h1) j M k1 k2];rw[B2J (bD rfl k1 ?_ ?_)]
   .rw[<-h2,e1];simp[k2]
   .rw[e1]at b;simp at b⊢;rw[DN 0xb4cbcdad2e3a6 b]
 rw[EX5]
def a3X{Q:E2B}{r:LZ}(h:EE1)(e:BUE)(d:0<n)(c:ACR)(a:DEZ)
  (q:∀st',A2E st' (runs++[r])->EHA):HA C63:=by
 unfold a4F;rw[C20 wpS_modify (q _ ⟨h.kind,h.failed,h.perm,?_,DQQ,DQQ,?_⟩)]
 .show BVJ=_;rw[LS h.eq]
 .rw[EFX]
  .exact h.sorted z y
  .rw[AD D5H e]
 .rw[EFX]
  .exact h.ne z y
  .rw[CM D5H c d]
 .show(BGW push ED3).toList.map ent=_;rw[Array.toList_push,List.map_append,h.pend,W3,Nat.zero_add,a,<-c];rfl
def map_modify{p:TZ ALD}:(p.modify i λx=>(EN,dI,a)).toList.map ent=p.toList.map ent:=by
 rw[Array.toList_modify];rw[A4Z j];rw[List.getElem?_map,List.getElem?_map,List.getElem?_modify];cases p.toList[j]? with
 |none=>rfl
 |some x =>
  rw[GD i j]
  .simp[e]
  .simp[e]
def b1e{sz:Nat}{Q:E2B}{r:LZ}(e:JJ)(j:B8O)(h:EE1)(i:BUE)(g:0<n)(d:ACR)(b:DEZ)
  (q:∀st' a,AEY->a.flatten.length=WS->AD7 (runs.length+1)->EHA):HA DIE:=by
 unfold a2B;rw[qX];split
 .rw[YE (a7O e j h (DW st' a k1 k2 k3))];rw[u8 wpS_modify];refine BI a3X runs a rest rest ⟨k1.kind,k1.failed,k1.perm,k1.eq,k1.sorted,k1.ne,map_modify.trans k1.pend⟩ i g d (AG k2 b) λc f=>EXB
  .simp[k2,d,b]
  .simp;omega
 .refine a3X h i g d b λc f=>EXB
  .simp[d,b]
  .simp
#where
section
variable {kf:DM}
def c2q{l:CL}(h:AO<l.length):∃X a b Y,EKS (a::b::Y) i:=by
 refine⟨BS5,l[i],l[AO],l.drop (AO+1),?_,DLK 0x149c6c1f3faa75105eb66b36⟩;rw[<-D49,<-WW List.drop_eq_getElem_cons a2q h,List.take_append_drop]
def a9n{sz:Nat}{Q:D8V}(j:JJ)(l:B8O)(h:B5V)(m:CNB)
  (q:∀st' a,AEY->AD7 1->A43 aN):HA (b4l sz):=by
 rw[B8Y b4l (AO7 (c=aN/\CYA AEY x)) (λc st' ⟨e,g,h1,h2⟩=>AG e ES1) (A5L runs h (BH 0xb39fb5821a7d6 m))];rintro x c st' _ _ ⟨rfl,g,h1,h2⟩;rw[qX];have hs:=h1.size;split
 rw[BB2 ES1]
 .rename_i hz;have k:∀i,AO<g.length->tO ((D4N>>=λb=>if A60 b then lU ForInStep.done CUS else DJI):A3H ASO) (EI4 d (Q c' d) (c'=aN/\CYA (A2E d a) (BJP))) st':=XO (by
   obtain⟨X,ra,p,Y,e1,e2⟩:=c2q hi;rw[e1]at h1 h2;rw[<-e2];rw[rR (a3Y j l h1) o M k1 k2];rw[B2J (A5L _ k1 ?_)];simp at h2⊢;rw[DN 0x2430271a7733860135b14a03b3d8 h2])
  refine wpS_mono (k _ ?_) (λr d n=>by rw[AS1 n]);by_cases f:BVS-2 > 0
  .rw[CO f];split<;>omega
  .rw[CM (BC f) xM (lq 0x1152e78527f51f7c4ea7b493a356 hs hz)]
def RI.kept(h:B5V)(k:CFA runs.flatten.length):A1M a0 st' runs ((arrOf st').toList.drop runs.flatten.length):=by
 refine⟨OT k h.kind,OT k.2.2 h.failed,mG (aE k) h.perm,?_,h.sorted,h.ne,AG k.2.1 h.pend⟩;have e:uO toList.take runs.flatten.length=runs.flatten:=by
  rw[wH a (A22 toList.take runs.flatten.length=runs.flatten) h.eq List.take_left']
  rw[<-a];rw[A4Z i];rw[List.length_take];rw[UX hi runs.flatten.length]
  .have hle:runs.flatten.length<=A22 toList.length:=by rw[CM h.eq List.length_append a1e]
   rw[List.getElem?_take_of_lt (AU 0x178fd23175172dc861a2e97 hi hle),List.getElem?_take_of_lt hi,Array.getElem?_toList,Array.getElem?_toList];exact ATC k i hi
  .rw[AJ5 List.getElem?_eq_none List.length_take 0xdcfbe2ccc8dcf372d58c0acfe98 hi,AZJ (by rw[BB List.length_take c0O hi])]
 rw[<-List.take_append_drop runs.flatten.length BWB,e];congr 1;rw[ZM List.drop_append_of_le_length,List.drop_length,List.nil_append]
def c2H(h:SoO kf qQ lo n)(c:WS<=qQ.size):ZT (ACA qQ.toList.drop lo n Pairwise):=by
 rw[EWP a b];rw[List.length_take,List.length_drop,Array.length_toList]at hi a;have q:=h i j (Nat.le_of_lt b) D7U;unfold leK;have g:∀k,k<n->A4V k=kf (qQ[AAU]?.getD UR):=λk _=>AYQ kx Array.getD_eq_getD_getElem?
 rw[g i (eM b2H),g j D7U,E0O (eM c5I),E0O (OJ c5I)]at q;simp only[List.getElem_take,List.getElem_drop,Array.getElem_toList];exact q
def a5r:∀{runs:qU},DX r runs AQL->CIQ runs.flatten.length
 |[],_=>BO
 |r::runs,h=>by
  have:=a5r (runs:=runs) λz a=>E0Z;have:=h r List.mem_cons_self;simp only[List.length_cons,List.flatten_cons,List.length_append];omega
def a6X{m m':nJ α}{Q:aF α}(e:m=m')(h:HA m'):HA m:=AG e h
def a9j{Q:B25}(i:JJ)(T:JH)(H:tF)(hp:pendingOf st=#[])(S:BZ3)
  (q:∀st':SortSt,EBB->BLK->ZT (uO toList.Pairwise)->A43 ()):HA sortRuns':=by
 rw[sortRuns'_eq];rw[qX];dsimp only;generalize M:oB=sz;have R:A1M KU st [] BVJ:=⟨T,S,AZH,rfl,xE,xE,VL hp⟩;have N:F2H A7U:=λh=>AG h.perm.size_eq M
 have O:F2H (runs.flatten.length+rest.length):=λh=>by
  rw[AWY h.eq];rw[Array.length_toList,N h,List.length_append]at this;rw[QN 0x5cd6b16710569b0fbb17]
 rw[AF7 (AGR (LP=none/\∃runs rest,CNP/\AR3 XI/\x<=XI)
  (Q:=v1 (LP=none/\CYQ st'))) (y7 [] _ R rfl BO)]
 case fin =>
  rintro c st' ⟨e1,runs,rest,h1,h2,G⟩;have:=O h1;rw[EMU 0x6529b3b04890bf838042651703e5e71f2ce7173558 G this];subst p;rw[EF e1 runs h1 (bM DVW)]
 case step =>
  rintro x c st' _ W ⟨e1,runs,rest,h1,h2,G⟩;obtain⟨P,lo⟩:=c;dsimp only at e1 h2 G⊢;subst e1;rw[AE u (O h1) C (N h1)];by_cases e:lo ≥ sz
  .rw[NL];rw[EMU 0x24b0ce514bb530b59bc27a3e85458 u e];rw[ARH p (A5L runs h1 (by rw[PD DVW 0xb9c9360e155c3b542598 u]))]
  .rw[IX];have t:=H.perm h1.perm;have add:y4 n d SortSt (DHJ d->0<n->WS<=sz->AA8 SoO d n->tO DIE (EI4 f (c'.1=none/\CYQ f) (c'.1=none/\∃runs rest,CK4 f/\AR3 c'.2/\dG<=c'.2)) d):=λn d l v y j=>by
    rw[h2]at l;have hR:=h1.kept l;rw[<-h2]at hR;have k:=N hR;rw[<-List.take_append_drop n (A9L d toList.drop lo)]at hR;refine b1e i H hR (c2H j (AU 0xd94fd4752f8c7a2a06d98 y k)) v (by rw[List.length_take,List.length_drop,Array.length_toList];rw[DL 0x27955d76ad6040c071aaca63367bfff227274b117dc6d98 y k]) h2 λF V k1 k2 k3=>y7 V _ k1 k2.symm (by show dG<=WS;exact c5L G v)
   rw[YE (b1c i h1.kind t (AU 0x48c5ac458b43aae1e07b64457 C e) (B04 0x111f8206ed61294d6) (DT m d l K L j))];split
   .rw[AGC];rw[oY k (A9L d size) sz (ALM l) C]
    rw[LJ (b6P i (OT l h1.kind) (t.perm (aE l)) (AU 0x2aff5f57733910419a10d723dc4cad2da4d8 e k) AF j λF J B=>?_)];rw[aV];rw[F05 (BFY (min (sz-lo) (minRun' sz sz 0))) (by
     rw[F16]
     .rfl
     .rw[D1F]
      rw[F46]
      rw[B4E]) F (l.trans J) AF (B04 0x1524a5fa4457de333217c0c09d08d7) B]
   .rw[F05 (BFY m) (by
     rw[F16]
     .rfl
     .rw[D1F]
      rw[F46]
      rw[B4E]) d l (BH 4412211398253 K) (AU 0x24122acc624d835f927cfa4d7 e L) j]
 case post =>
  rintro c st' ⟨e1,runs,h1,h2⟩;obtain⟨P,lo⟩:=c;rw[BHC];dsimp only;rw[YE (a9n (sz:=sz) i H h1 h2 (BT d U k1 k2))];rw[ACL (q d k1.perm k1.failed ?_)];rw[BPO k1.eq]
  match U,k2,k1.sorted with
  |[],_,_=>rw[A4J]
  |[r],_,hs=>simpa using hs r AJ
  |_::HI,k2,_=>simp at k2
#where
noncomputable def J5(h:Heap)(v:qB):qI:=match v with
 |F0=>match D3P with
  |AQ o=>match o.data with
   |.seq xs _=>xs.toList.map numOf
   |_=>[]
  |none=>[]
 |_=>[]
def F4{b:qE}{its:CY}{r:qI}(t:B3N)(i:C6S):J5 h F0=r:=by
 rw[wF h1 h2 n a t];unfold J5;simp only[h1,a];exact i.nums
def R5{β:Type}{f:DKR}{os ls:A6V}(h:os.Perm ls):∀{T:CL},ls=T.map f->∃c:CL,c.Perm T/\c.map f=os:=by
 induction h with
 |nil=>intro T e;cases T with|nil=>rw[BA [] .nil rfl]|cons _ _=>rw[CP]
 |cons x _ k =>
  intro T e;cases T with
  |nil=>rw[CP]
  |cons t T =>
   rw[ALH]
   rw[BX c h1 h2 k e2];rw[BA (t::c) (h1.cons t) (pU List.map_cons h2 e1)]
 |swap x y l =>
  intro T e
  match T,e with
  |a::b::T,e =>
   rw[ALH]
   injection e2 with e2 e3
   rw[BA (b::a::T) (.swap a b T) (DWL List.map_cons e1 e2 e3)]
 |trans _ _ d g =>
  intro T e;rw[bC h1 h2 (g e)];rw[BX T2 i j d h2.symm];rw[BA T2 (i.trans h1) j]
noncomputable def kfH(h:Heap):BA5 OL.α:=λx=>(J5 h EN:qI)
noncomputable def DH(h:Heap)(x:Keyed):Prop:=∃b its r,BXJ EN/\B3N/\C6S
def c9I:BAC CTR (DH s.heap) (ltK (kfH s.heap)):=by
 rintro⟨x,x'⟩ ⟨y,v⟩ C ⟨b,its,r,e1,h,d⟩ ⟨b',a,q,e2,i,e⟩ c;dsimp only at e1 e2;subst e1 e2;have c:C (HT.lexLt (AR7 J5 F0) (J5 s.heap (AM b'))) s:=c;rw[F4 h d,F4 i e]at c;rw[QG o l u n p];obtain⟨o',f,m,t,g⟩:=i;refine kat_lt l p f g (b0C 0 d e ?_);rw[DG9 j its.size r.length d.length]
 rw[DG9 k a.size q.length e.length]
 rw[j,k,b0y];exact c
def a1V{a:qE}{P:BSV}(m:PY s.heap.get? (tS vs.toArray n))(T:B4S)(hw:B58)(hz:A73)
  (h:EXW (GI (CVK s.heap os.toArray))) :
  LI KK (Builtin.«list.sort» (JY aM)) P:=by
 rw[list_sort_plain];have M:mW a:=Heap.lt_size m;rw[u7 listItems_at m rfl];rw[AZ (listUpdate_at m rfl ?_ (XM List.size_toArray) (Nat.zero_le _))];rw[LV e1 p (∃e1,BO5 (ARK BDM get?)) _ (get?_update_seq m BS6)];rw[C3R p];rw[BNS (wpAny_newTuple ?_ (wC (vs.length<=_))) F1];rw[BJZ];rw[ESS BI0 (by
  rw[CM (D7H (IG size_push' Heap.size_update (AQ9 M))) (D7H (IU Heap.size_update Nat.ne_of_lt M)) p])]
 have g:CUV CC1:=λb its ⟨o,B,l,L⟩=>by
  have R:BSC:=λz=>by
   rw[WX z m B B];have l:Value.type "list"=Value.type "tuple":=l;injection l with l
   rw[EV l AI]
  rw[GA o ?_ l L];exact nQ (AG (BT6 R) B)
 have G:=T.keeps g;show FN KK A _ P E (GI CC1);have c:CZF (BI0 BG3).push w6:=λv V=>by
  rw[lG i hi V];rw[B9B C F C80];rw[e2,F4 C F,F4 (g b its C) F]
 generalize I:CC1=k at d G c;dsimp only;have fin:EXW (D4P (CFX os.toArray)):=λos h1 h2=>by
  have:=h os h1 h2;rw[oJ sortedHeap];rw[A5Z I]
 by_cases h2:vs.toArray.size<2
 .rw[MA h2' DPV h2]
  rw[BSI,BSI];rw[rW];rw[StateT.run_pure];rw[rW];dsimp only;rw[C3R d];rw[EX8 (by rw[Array.size_map];show(pairsOf vs).size<=_;rw[BB pairsOf_size a1U hz])];rw[EGA];have e:((vs.toArray.zip vs.toArray).map (·.2))=vs.toArray:=by
   rw[D1I];simp[List.map_snd_zip]
  rw[lX _ _ (D4P ((Obj.mapSeq λ_=>(vs.toArray.zip vs.toArray).map (·.2))))];rw[e];rw[RT (fin vs AZH ?_)];rw[EWP X S];omega
 .have h2':2<=vs.length:=by
   have:¬DPV:=BJN
   rw[QN 0x66c3a9712ba5]
  rw[BC h2,BC h2];rw[AZ (b4U G hw (BH 4412211399037 h2') ?_)];have H:AllD (DH k) (D0S vs.toArray.zip):=λx u=>by
   rw[MA J (x∈vs.zip vs) u]
   obtain⟨_,U⟩:=mem_zip_self J;rw[lG i hi U];rw[B9B C F (G.2 i _ hi)];rw[GZ b its r e2 C F]
  rw[AZ (gX (BI a9j s (GI k) st (SortSt.mk' CTR (vs.toArray.zip vs.toArray) #[] 7 none) (kf:=kfH k) (D:=DH k) (c9I (s:=GI k)) rfl H rfl rfl
   (Q:=EH st' (uO Perm (vs.toArray.zip vs.toArray)/\BLK/\(arrOf st').toList.Pairwise (leK (kfH k)))) λst' B l L=>⟨B,l,L⟩) ?_ _ _ e e)]
  rintro⟨⟨⟩,st'⟩ s' ⟨rfl,O,N,hs⟩;dsimp only at O N hs⊢;have t:uO toList.Perm (vs.zip vs):=by
   rw[vR (Array.perm_iff_toList_perm.mp O)]
  have q:((arrOf st').toList.map (·.2)).Perm vs:=by
   have:=t.map Prod.snd;rwa[ZM List.map_snd_zip]at this
  have f:FW BWB (EN=NB/\EN∈vs):=λx u=>mem_zip_self (t.mem_iff.mp u);have e:HM arrOf st' (·.2)=AVB (((arrOf st').toList.map (·.2))):=by
   rw[D1I];simp
  rw[C3R d];rw[e];rw[EX8 (by rw[F2 List.size_toArray q.length_eq a1U hz])];rw[N];rw[EGA];rw[RT (fin _ q ?_)];rw[List.pairwise_map];rw[CNY u W K];rw[TB (f x u) (f y W)];rw[<-h1.1,<-h2.1,<-c _ h1.2,<-c _ h2.2];exact K
def a4B{x:qB}{Q:qH}(g:EQS q t l (l vs D4O) (E9U q t))
  (T:B4S) (hw:B58) (D:A73)
  (h:∀(h1 h':Heap) (os:AN) (c:Nat),F0E (BRT h1.objs.size)) :
  ED5:=by
 rw[F57 (KH (nN g) h1 k1) F G F G (λv z=>by
  rw[AF1 D59];rw[B9B n p C80];rw[EMH])]
 rw[F4H CRD CRD D u (EK5 k1 AWE u j (DW4 B C))]
 rw[EOU]
 .rw[<-DLC,<-d _ (j.mem_iff.mp C)];exact k
inductive rSortA(K:qF)(xs:AA)(H:Hp)(Q:VK):Prop
 |mk (p:qE) (ys:AA) (rss:LLI) (_:sF) (_:C64) (_:BU5) (_:BYE) (_:∀l zs qN,A46->AGL->DPR->xS->zs.Perm ys->CU9):lP rSortA
def a1y:∀{ys:AA}{us:AN}{rss:LLI},A7M->BCW rss.length->∃T:DYL,T.map (·.1)=us/\T.map (·.2.1)=ys/\T.map (·.2.2)=rss/\∀(i:Nat) t,CB T t->BII/\CB ys APD/\nY ABN
 |[],us,rss,r,e=>by
  cases r;cases rss with
  |nil=>exact AEB [] rfl (λi t h=>sJ)
  |cons _ _=>rw[CP]
 |NU,us,rss,r,e=>by
  cases r with
  |cons h hs =>
   cases rss with
   |nil=>rw[CP]
   |cons r rss =>
    rw[kD T e1 e2 b c (a1y hs D41) ⟨(_,y,r)::T,B1C e1,B1C e2,B1C b,oA t a⟩];cases i with
    |zero=>cases a;rw[QQ h rfl]
    |succ i=>exact c i t a
def V7:∀{T:DYL},DX t T BII->ML ((T.map (·.2.1))) ((T.map (·.1)))
 |[],_=>.nil
 |t::T,h=>.cons lK (V7 λu a=>h u jK)
def b3c(K:qF)(Z:AT:=by rfl):A7S "sorted" rSortA:=by
 subst Z;rw[nF us rv];rw[ENL p ys w hI];obtain⟨its,L,g,r⟩:∃its:AN,BWH/\kT/\EQS D E B (B its D4O) (FN UA D (CRK p) B E s):=by
  rw[AM8 w]
  rw[F3Q I.list pl.isList NA]
  rw[F3Q I.tuple pl BQO]
 rw[EWM R];refine a4B r TT hw (~~~M5 g hl) λh1 h' os c k1 k2 e hp hs=>?_;rw[EVH j R.symm];rw[CDF M (E4V k1) C j J (by
  rw[CDU J P a0 O P O O];rw[CAM U (CB its t.1) R]
  rw[CZB l N W Y U P (AG f2 (F4 W Y))])]
 have A:(j.map (·.2.1)).Perm ys:=by rw[nM t2 p1.map _]
 rw[CBA hv ((j.map (·.2.1))) J C J]
 rw[CDG S (BI M.laid h' h' a h1.objs.size (o:=DD ((j.map (·.2.1)))) (t':=s.toks)) (AG A.length_eq g) hv S (BWJ ((j.map (·.2.2))) M.hok.fresh (C30 m) EDY ?_ A)]
 .rw[AZ5 m];cases e2:j[i]? with
  |none=>rw[eS m m]
  |some t =>
   rw[C75 m m C]
 rw[CEA hx z (C x hx) C z z]
def b0G(K:qF){e:Expr}{t:TA}{p pos:Pos}(f:BSY)(g:BU9)(c:rX)(b:AT:=by rfl)(d:A0U:=by rfl)(a:A08:=by rfl):CU (ABG "sorted" ZU) (AQZ rSortA):=(C48 b3c a3T)
noncomputable def DRaw(h:Heap)(d:qE)(es:yE)(ep:Nat):Prop:=∃ob:Obj,kF d ob/\ob.ExactDict/\ob.data=B5U
def DRaw.typ(x:A87):vK d "dict":=by
 obtain⟨a,e1,e2,_⟩:=x;rw[BA a e1 e2.1]
def DRaw.lt(x:B3J):d<h.objs.size:=by
 obtain⟨a,e1,_⟩:=x;exact Heap.lt_size e1
def DRaw.to{h':Heap}(x:B3J)(k:∀a,kF d a->BF3 d a):APA h':=by
 rw[OP a e1 q x a (k _ e1) q]
section
variable {it:qE}
def b7z{Q:qH}(hs:AJZ)(D:A87)
  (q:DSH "dict_keyiterator" #[A4M,AAH 0,AAH es.size,AAH ep]):BYT d:=by
 rw[CAB b a D];rw[BRE ty PySem.F.slot_dict_iter (nR PySem.F.slot_dict_iter ty PySem.F.entry_dict_iter ?body PySem.F.args_dict_iter_1)]
 case body =>
  rw[A6S Builtin.«dict.__iter__» Builtin.Dict.dictSlotNone (AOK wpAny_notOrdered_dict ty)];rw[AMF (Builtin.Dict.showsAll d)];rw[GO Builtin.Dict.showsAll (BC (λz=>by rw[A3J hs]))];rw[E47 (BKY (EGZ wpAny_bind (wpAny_dictEpoch e1 a ?_))) "dict_keyiterator" PySem.F.slot_dict_keyiterator_next.lookup]
def b7A{Q:B0Y}(I:EBG)(D:A87)(hi:D3A)
  (q:BLT (DOM h'.IsKeyIter) (oX (BTW).key RP)):B11:=by
 rw[F28 f a]
 case body =>
  rw[DR2]
  rw[B8M]
  rw[AZ (wpAny_fieldsOf f1 a ?_)];rw[F0Q];have b:DN1:=Bool.false_ne_true;rw[AKF];rw[EYV (EON=some BTW) Array.getElem?_eq_getElem]
  rw[B8M]
  rw[AZ (wpAny_isOneOf_keyiter I.typeIs ?_)];rw[AMF (setField wG 1 (rawInt CKV))];have c:DOM (s.heap.update it CZE).IsKeyIter :=
   GT (yA f1 (Obj.isFreed_of_fields (Obj.data_mapFields a _))) (IJ Obj.cls_mapFields .. f2) (by rw[Obj.data_mapFields a];simp[rawInt])
  rw[vB (wpAny_setField f1 a AJ (AC6 wpAny_holding)) (wpAny_isOneOf_keyiter (s:=GI (s.heap.update it CZE)) c.typeIs ?_)];rw[BVG wpAny_pure (DK (y3 (q _ c AJ2)))]
def c3c{Q:B0Y}(g:PH)(I:EBG)(D:A87)(hi:es.size<=i)
  (q:E9R):B11:=by
 rw[F28 h f]
 case body =>
  rw[DR2]
  rw[B8M]
  rw[u7 wpAny_fieldsOf f1 f];rw[F0Q];have c:DN1:=Bool.false_ne_true;rw[BC c];rw[EYV (MQ (EON)) Array.getElem?_eq_none]
  rw[B8M]
  rw[AMF (setField wG 0 .none)];rw[AZ (wpAny_setField f1 f AJ ?_)];rw[AMF CB8];rw[EZR]
def b5k(m:PH)(J d:qE)(f:d≠J)(es:yE)(ep:Nat) :
  EWJ d C94 (BIF h.IsKeyIter J i) B3J where
 sub:=λb c=>A70 (List.mem_singleton.mp c)
 frame:=xZ g ⟨SH (bV).at (g J List.mem_cons_self o e),SH (bU).to (g d B0K o e)⟩
 item:=EXX a (b7A bV bU hi λh' k j=>B66 (a _ h' s.toks (NJ BTW (IF hi)) ⟨k,SH (bU).to (j.extBut d o f e)⟩) c j.extBut c)
 done:=λs Q E st a=>c3c m bV bU BO λh' l=>B66 (a h' s.toks) c l c
 self:=λ_ _ _ _ st a=>wpAny_pyIter_keyiter bV a
def b3S(hs:AJZ)(es:yE)(ep:Nat):cS KdlSrc "dict" d d es.size C94 (λh=>B3J) where
 type:=DM1
 there:=EA0
 keep:=VB D b (SH D.to (b d NA o e))
 notList:=AI
 notTuple:=AI
 hint:=ENX kdl_hint_dict
 iter:=VB a D (ENF (b7z hs D q) (b5k a _ d DCB es ep))
#where
def a0M{x:qB}{Q:qH}(g:CZZ q l l vs (E9U A.in1 q))
  (T:B4S) (hw:B58) (C:A73)
  (h:∀(h1 h':Heap) (os:AN) (c tk:Nat),F0E (NZ h1.objs.size aJ)) :
  ED5:=by
 rw[F57 (BS g λh1 tk k1=>?_) D F D F (λv u=>by
  rw[lG i hi u];rw[B9B n p C80];rw[EMH])]
 rw[F4H CSM CSM C t (EK5 tk k1 AWE t j (DW4 z B))]
 rw[EOU]
 .rw[<-d _ (j.mem_iff.mp z),<-DLC];exact k
noncomputable def IK(rss:LLI):BA6 Key:=ASM DII
inductive rSortD(xs:AA)(H:Hp)(Q:VK):Prop
 |mk (d:qE) (qL:YP) (rss:LLI) (_:D9R) (_:C7Z) (_:C19) (_:BYE) (_:EWG DPR):fZ rSortD
def b4g{H:Hp}:∀{qL:YP}{xs:ALZ}{rss:LLI},A6M->C19->A9M (BM7 xs.map)/\xs.length=rss.length:=by
 intro qL xs rss r e;induction r generalizing rss with
 |nil =>
  cases rss with
  |nil=>rw[AY (EQ (λi v z=>AAN z)) rfl]
  |cons _ _=>rw[CP]
 |@cons p q ps qs h _ c =>
  cases rss with
  |nil=>rw[CP]
  |cons r rss =>
   rw[ALH]
   rw[NG (c e2)];rw[FT ⟨by rw[List.length_map,List.length_cons,List.length_cons,h2],oA v b⟩ (pU List.length_cons List.length_cons h2)];cases i with
   |zero =>
    cases b;refine AEB r q.2.1 ?_;have a:=YD;have e1:CV=r.map Sum.inl:=e1;rw[e1,List.map_map]at a;exact a
   |succ i=>exact h1.2 i v b
def a1z{α:Type}(f:α->qE):∀xs:CL,ML (DFH V.ref) (DFH Value.ref)
 |[]=>.nil
 |IO=>A5S rfl a1z f xs
def b3b(hc:DV):D9T rSortD:=by
 rw[nF us rv];rw[ENL d qL hd hk];obtain⟨J,z,j,U,ob,es,ep,e1,e2,e3,O,P⟩:=DLE;obtain⟨hI,R⟩:=b4g U hk;rw[AHU n j.length (Paired.length U)];rw[B7V l j.length O]
 have D:A87:=C2Y ob e3;have L:ML (BM7 j.map) B5B:=a1z E6Z j;have w:EFG M C C B5B d C M:=λM C k=>by
  rw[EY3 (EGQ z) (~~~b2I J n l) m B5B (by
   rw[CBS j.length]
   .rw[CBC m.1 l]
    rw[C7K he G m];rw[yY g (CB es.toList e) he]
    rw[BPQ O XR g];injection g with g
    rw[CAG G g]
   rw[CBF m.1 l])]
  rw[ER6]
 rw[EWM Z];rw[F59 w hw (M5 J n)];rw[EVH p Z.symm];rw[CDF N (C0Y k1) B p F (by
  rw[CDU F Y a0 W Y W W];rw[CAM P (AHV B5B t.1) Z]
  rw[EWK S P Y])]
 have K:BZ (VD ((p.map (·.2.1)))):=by
  rw[ERZ E E E];exact b2I J n E
 rw[CBA G ((p.map (·.2.1))) F B F]
 rw[CDG I2 (BMV N.laid h1.objs.size (o:=DD ((p.map (·.2.1))))) K G I2 (BWJ ((p.map (·.2.2))) N.hok.fresh (C30 r) EDY ?_)]
 .rw[AZ5 r];cases e2:p[i]? with
  |none=>rw[eS r r]
  |some t =>
   rw[C75 r r B]
 rw[CEA hx A (B x hx) B A A]
#where
section
variable {X:Cx}
#where
section
open PySem.W
section
variable {prog:qG}{w:World}{A:Around}{E:qH}{s:qC}{d:qE}{ep:Nat}{es:yE}
def c3b{Q:qH}(hs:AJZ)(D:A87)(hz:BG es.size<dQ)
  (q:Q (WE es.size gW) (A1H (gW+1))):EE (ACD "len" (A1Y d)):=by
 rw[CVV kind_len plain_len entry_len args_len1];rw[CAB b a D];unfold Builtin.«len»;refine BID (oneArg "len" _);refine AUS (IR callSpecial? d CLI) (BIM CLI ty PySem.F.slot_dict_len PySem.F.slot_dict_len ty PySem.F.entry_dict_len PySem.F.args_dict_len_1)
 case body =>
  rw[PX (dictSize d>>=λn=>_)];unfold dictSize;rw[OA wpAny_bind (EGZ wpAny_pure ?_)];rw[PX (Builtin.Dict.pendingCount d>>=λn=>_)];rw[AZ (wpAny_pendingCount_other hs (wpAny_ret_mkInt ?_))];rw[lX _ _ dW];rw[show BSP+BGS=BG es.size by simp];rw[AZ (nV wpAny_holding DDN)];rw[PX (jP (BSP<0) _)];rw[BC CKR];rw[PX (jP (BQ2 BSP) _)];rw[BB (BC (BH 4879956384879447 hz)) wpAny_bind (nV wpAny_mkInt (DK q))]
#where
inductive rLenT(xs:AA)(H:Hp)(Q:VK):Prop
 |mk (a:qE) (qL:YP) (_:mY D2W) (_:A0X) (_:QM qL.length):fZ rLenT
section
variable {X:Cx}
def b6z:B2G rLenT:=by
 rw[kB p];rw[QG a qL rfl j q];rw[T6 n r.one n];obtain⟨k,b,f,l,m,es,ep,e1,e2,g,i,o⟩:=BJB j;rw[AHU d f.length (Paired.length l)];rw[B7V c f.length i]
 have e:=k;rw[sizeLine_eq]at e;refine c3b b (C2Y m g) AF ?_;rw[c,<-d];rw[EB (BQ qL.length) H ZL RH q]
variable {a b c e o i value:Expr}{es rest:BN}{ta tb tc te to td ty tv:TE}{t:TA}{pos p qO qM p2 pos' tpos:Pos}
def c4A(d:B0Z)(f:B1J)(b:rX)(c:A0U:=by rfl)(a:A08:=by rfl):DKE rLenT:=AY2 F5 b6z a9e
def c1w(f:BSY)(g:BU9)(b:rX)(c:DV:=by rfl)(d:A0U:=by rfl)(a:A08:=by rfl):AXH "sorted" rSortD:=(DSP b3b a3T)
def b4o:EDL b7c:=⟨b8b⟩
def c9D(c:GG)(hi:ALP)(b:sB)(a:DS6):CU (CYW .In) DU7:=CCB c6U b8h
def c7L(c:GG)(hi:ALP)(b:sB)(a:DS6):EIH .In c6q:=CCB b7E b8h
def b5T(c:GG)(hi:ALP)(b:sB)(a:AB5 .NotIn o):EIH .NotIn b3G:=CCB b7E b5u
def a1G(b:GG)(a:sB)(hi:ALP)(c:DQN)(hs:DNC:=by rfl):B5F JS BMB E89:=⟨c3i DE2 a.h hi.h c.h hs⟩
def C8(K:qF){f:Str}(c:ANE e)(a:AT:=by rfl)(b:EQ9:=by rfl):iT .Attribute e f (c8R K ta f):=by
 subst a;exact⟨c6T c.h b⟩
def F8(K:qF){f:Str}(b:B10)(c:DQN)(a:AT:=by rfl)(hs:DND:=by rfl):B5F JS BNE (c8V K ta tv f):=by
 subst a;exact WY c6G b.h c.h hs
#where
structure MethOk(P:qG)(w:World)(K:qF)(mg:BJ)(base:Heap)(C:qE)(m:Str)(k:Nat)(ps:AC)(sp:Sp):Prop where
 ex:CC6 rA C2N
structure MethAt(K:qF)(C:qE)(m qual:Str)(st:Stmt)(ps:AC):Prop where
 ex:CC6 (Fun K m qual st f fd) rA
structure MakeOk(P:qG)(w:World)(K:qF)(mg:BJ)(base:Heap)(x:Str)(C:qE)(k:Nat)(ps:AC)(sp:Sp):Prop where
 ex:∃f fd,C0O/\Mk K C f/\rA/\C2N
section
variable {P:qG}{w:World}{K:qF}{mg:BJ}{base:Heap}{C:qE}{m qual:Str}{st:Stmt}{N ps:AC}{k:Nat}{sp:Sp}
def MethAt.fnJ(F:DPF)(S:A12)(len:lR)
  (b:ANA qual (dM ->
   DKD)):E28 m CF:=by
 rw[AMV c F.ex];rw[EB f fd h1 c (E54 h2.okJ)]
def MethOk.make{x:Str}(O:E28 "__init__" k)(d:C0O)(c:BZC)(b:DJN):TY MakeOk base x C k ps sp:=by
 rw[AMV a O.ex];rw[GZ f fd d ⟨c,h1.at_,h1.fn,b⟩ h2 a]
#where
section
variable {X:Cx}{C:qE}{m x:Str}{k:Nat}{ps:AC}{sp:Sp}{o e:Expr}{es:BN}{ta:TE}{t:TA}{pos qO p:Pos}
def a2x{pl:A00}(O:DVJ)(c:t5)(j:QU)(i:B10)(h:ET)
  (b:CI:=by rfl) (a:HV:=by rfl)
  (l:QY B1R=(ANO>>=λd=>CDQ [d] (getMethod d m pl) f f (BHS (WC LD)) E6B):=by rfl) :
  AAG AQ5 (E0J t):=by
 rw[AMV g O.ex];exact⟨CBH b3X i.h g j h2 .nil a9Y h.h b a l⟩
def a4N{pl:A00}(O:DVJ)(c:t5)(e:QU)(d:B10)
  (g:QY B56=(ANO>>=λa=>CDQ KG (getMethod a m pl) f f C2F E6B):=by rfl) :
  CU B56 (E0J X0):=by
 rw[AMV b O.ex];exact⟨CBH b7W d.h b e h2 .nil a9Y g⟩
def c1z(O:EFC)(j:ALW)(i:JC)(g:ET)(a:FK:=by decide)
  (h:CI:=by rfl) (b:HV:=by rfl) :
  AAG A1U (ETX t):=by
 rw[E86 c d];exact⟨c3B h1 d j i c h2 .nil a9Y g.h a h b⟩
def c4E(O:EFC)(e:ALW)(d:JC)(a:FK:=by decide) :
  CU DHI (ETX X0):=by
 rw[E86 b c];exact⟨b7X h1 c e d b h2 .nil a9Y a⟩
#where
#where
section
variable {H:Hp}
def a5R{K:qF}{src:NM}{σ caps:St}{Q:VK}{a:qE}{vs:AA}{rss:LLI}{k:TT}(t:A36 qI)(m:A73)(b:E7N)(hI:TM)(d:cG)
  (g:EU4 t (k AEF H1 j)) (hd:∀H1 p ws,LQ->AOB->Its H1 ws (rss.filter t)->D6A ws):BXC k AJN:=by
 refine a0f (xs:=vs) AF (fA (Its H' ys (mM rss.take i t))) (AAW (BL Its.nil)) (QT ys ⟨BFG,AG YD (dZ bF uL)⟩) ?_ ?_
 .rintro i x ys H' hx ⟨s,hy⟩;rw[DR r l f c hI.mem hx];rw[ADW EIQ d (F1Y c.same ?_)];rw[List.take_add_one,f];cases e:t r with
  |true=>exact UU wR (by simpa[e]using DQ8 s2 ((c.same s).same s2))
  |false=>rw[AY wR (BJ0 e D6Y)]
 .rintro ys H' ⟨s,hy⟩ p hp;rw[bO GE hy];exact hd H' p ys s hp hy
noncomputable def Prs(H:Hp)(ps:AA)(f:B0M)(js:rE):Prop:=ps.length=js.length/\GC i Nat q V (CB ps q) (∃(j:Nat) (b:qE) (v:V),CB js j/\LH q b/\DFG/\ETD)
def Prs.same{H H':Hp}{ps:AA}{f:B0M}{a:rE}(h:EIT H)(s:BP):EIT H' :=
 (AP1 (OM q (CCD j b v (uH q) ⟨j,b,v,e1,e2,D57,e4.same s⟩)))
def Prs.nil{f:B0M}:Prs H [] f []:=EQ (OM q BKW)
def Prs.snoc{ps:AA}{f:B0M}{c:rE}{j:Nat}{b:qE}{v:V}(h:Prs H ps f c)(d:DFG)(g:ETD):Prs H (ps++[F0]) f (c++[j]):=by
 rw[CCJ DTX (OM q ?_) ps.length]
 .rw[BHO];obtain⟨k,b',l,e1,e2⟩:=uH q;rw[EB k b' l CMU e2]
 .rw[BZ9];have a:DD9=0:=by
   rw[ABJ (Nat.eq_zero_or_pos DD9)]
   rw[NQ]
   .rw[FH (AZJ (by simp;rw[DN 0x6ca87428612c29990c9d322d15e z]))]
  rw[FH a];exact⟨j,b,v,DWM a,rfl,d,g⟩
noncomputable def b3B(K:qF)(i:Nat)(sp:Sp)(t:TA)(z:Int):TX:=CE4 (EOS (rIxT K v AAT H2) H3 H3)
def b5q{X:Cx}{k:Nat}{ps:AC}{sp:Sp}{x y:Str}{p pos qM pos' ip sp':Pos}{e:Expr}{es:BN}{t:TA}{i:Nat}{z:Int}{jj:Nat}(d:t9)(O:A8N)(hr:QU)(Z:JC)
  (T:X.N.Nodup) (hi:sN) (hy:sZ) (U:YV) (l:FK:=by decide)
  (W:CI:=by rfl) (m:L1:=by rfl)
  (n:DVU:=by rw[A0M])
  (hs:DHM:=by rfl) (Y:tE:=by rw[TV]) :
  A92 PSx BLO (b3B X.K i sp t z):=by
 rw[EQG V];rw[AN2 Z hm l hk (CDR U g a a.kIn d) W m];rw[C92 hl g.length]
 rw[B6R b (V s1 g a.kIn DG5) b (CCV (JY g) g vs _ _ hr a.env0 b r q) c];cases r with
 |error e =>
  rw[B9W K L M N P Q S j c];cases S;exact CA8 a K L M N P Q j
 |ok fl =>
  cases fl with
  |ret u =>
   rw[DV6 A];rw[JR wpAny_Constant_int];have E:=A.tok (s'.toks+1);refine pT (AK c1B qK _ σ H2 v AAT u _ _ E rv RH q2 (BS n)) (DS u' s4 ⟨v',w,G,o,q4⟩) d;exact a0P G T hi hy o (λs2 J=>AYM (GT w J q4)) Y
  |next=>rw[HU c]
  |brk=>rw[HU c]
  |cont=>rw[HU c]
section
variable {X:Cx}{k:Nat}{ps:AC}{sp:Sp}{x y:Str}{p pos qM pos' ip sp':Pos}{e:Expr}{es:BN}{t:TA}{i:Nat}{z:Int}{jj:Nat}
def c1j(K:qF)(O:A8N)(n:QU)(m:JC)(g:X.N.Nodup)(hi:sN)(o:sZ)(h:ET)(f:AT:=by rfl)(d:t9:=by rw[AM9])(a:FK:=by decide)
  (j:CI:=by rfl) (b:L1:=by rfl) (c:DVU:=by rw[A0M])
  (hs:DHM:=by rfl) (l:tE:=by rw[TV]) :
  A92 JX BLO (b3B K i sp t z):=by
 subst f;exact⟨b5q d O n m g hi o h.h a j b c hs l⟩
#where
#where
universe L2
section
open PySem PyProof.Rows
#where
namespace L2
open PySem PySem.Spec PyProof.Rows
section
variable {X:Cx}
variable {o e:Expr}{es:BN}{to:TE}{t:TA}{pos qO qM:Pos}
#where
universe L2
namespace L2
variable {α:Type}
def c9B{us:CL}(h:us.length=0):us=[]:=D3Y
def c7A{us:CL}(h:us.length=1):∃a,us=KG:=by
 cases us with
 |nil=>cases h
 |cons a us=>rw[AY a (X3 (AN3 c9B))]
def c7z{us:CL}(h:AYP 2):∃a b,us=ZH:=by
 cases us with
 |nil=>cases h
 |cons a us=>rw[OU b (AN3 c7A)];rw[BA a b BV0]
def c7y{us:CL}(h:AYP 3):∃a b c,us=[a,b,c]:=by
 cases us with
 |nil=>cases h
 |cons a us=>rw[xC b c (AN3 c7z)];rw[EF a b c BV0]
def c9l{us:CL}(h:AYP 4):∃a b c d,us=[a,b,c,d]:=by
 cases us with
 |nil=>cases h
 |cons a us=>obtain⟨b,c,d,e⟩:=AN3 c7y;rw[EB a b c d BV0]
def c9A{us:CL}(h:AYP 5):∃a b c d e,us=[a,b,c,d,e]:=by
 cases us with
 |nil=>cases h
 |cons a us=>obtain⟨b,c,d,e,q⟩:=AN3 c9l;rw[GZ a b c d e (X3 q)]
section
open PySem PySem.Spec PyProof.Rows PySem.W
noncomputable abbrev FnL(K:qF)(f:qE)(nm qn:Str)(st:Stmt)(oc:qB)(od:IM)(sl:YX)(kV dc pm:qB)(an:IM)(cd ct:qB):Prop:=B96 (C8J (PySem.W.fnOf nm qn AQI A29) dc pm an cd ct) sl
variable {K:qF}{h:Heap}{mg:BJ}{x qn:Str}{st:Stmt}{f:qE}{od an:IM}{sl:YX}{oc kV dc pm cd ct:qB}{C:qE}{m:Str}
def c9r(X:B01)(G:AWW)(a:CBU)(l:EC6)(c:DOK)(k:B2Z){ps:AC}
  (e:CZH E8B):AMZ:=EJ8 (mg_of X G a)
def c9i(a:EM6)(i:DBD)(l:EC7)(c:DOL)(k:B2Z){ps:AC}
  (e:EWL):DPE:=(EJ8 ⟨a,i,k⟩)
#where
section
open PySem PySem.Spec PyProof.Rows PySem.W
variable {K:qF}{h:Heap}{mg:BJ}{x nm qn:Str}{C N:qE}{bs bm sub bmB above:AN}{hd ab:Bool}{sn:AC}{col:vI}{dd:IM}{k0 k1 k2 k3 k5:U3}{qR:String}
def c6Y(X:B01)(b:C0O)(c:EAR)(tx:AAZ tailIn bmB bm)(ok:ZK nsOkIn N)(a:ANH nsIn N "__init__"):CZN h :=
 ⟨b,bm,N,nm,qn,bs,hd,sn,sub,ab,col,dd,k0,k1,k2,k3,k5,_,AH X c,.of_isNs (isNs_of_in X ok),nsMap_none_of_in X ok a,tail_of_in X tx⟩
def b4I(b:EAR)(a:BLH):ClsX K C [] :=
 ⟨nm,qn,N,bs,bm,hd,sn,sub,ab,col,dd,k0,k1,k2,k3,k5,qR,b,a,QJ⟩
#where
inductive Ex1{α0:Type}(p:OX α0):Prop
 |mk (a0:α0) (h:p a0):Ex1 p
inductive Ex2{α0 α1:Type}(p:EK α0 α1):Prop
 |mk (a0:α0) (a1:α1) (h:p a0 a1):Ex2 p
inductive Ex3{α0 α1 α2:Type}(p:α0->EK α1 α2):Prop
 |mk (a0:α0) (a1:α1) (a2:α2) (h:p a0 a1 a2):Ex3 p
inductive Ex4{α0 α1 α2 α3:Type}(p:α0->α1->EK α2 α3):Prop
 |mk (a0:α0) (a1:α1) (a2:α2) (a3:α3) (h:CCE p):Ex4 p
inductive Ex5{α0 α1 α2 α3 α4:Type}(p:α0->α1->α2->EK α3 α4):Prop
 |mk (a0:α0) (a1:α1) (a2:α2) (a3:α3) (a4:α4) (h:p a0 a1 a2 a3 a4):Ex5 p
inductive An3(a0 a1 a2:Prop):Prop
 |mk (h0:a0) (h1:a1) (h2:a2):An3 a0 a1 a2
inductive An5(a0 a1 a2 a3 a4:Prop):Prop
 |mk (h0:a0) (h1:a1) (h2:a2) (h3:a3) (h4:a4):An5 a0 a1 a2 a3 a4
inductive An6(a0 a1 a2 a3 a4 a5:Prop):Prop
 |mk (h0:a0) (h1:a1) (h2:a2) (h3:a3) (h4:a4) (h5:a5):An6 a0 a1 a2 a3 a4 a5
inductive An9(a0 a1 a2 a3 a4 a5 a6 a7 a8:Prop):Prop
 |mk (h0:a0) (h1:a1) (h2:a2) (h3:a3) (h4:a4) (h5:a5) (h6:a6) (h7:a7) (h8:a8):CCE An9 a4 a5 a6 a7 a8
inductive An10(a0 a1 a2 a3 a4 a5 a6 a7 a8 a9:Prop):Prop
 |mk (h0:a0) (h1:a1) (h2:a2) (h3:a3) (h4:a4) (h5:a5) (h6:a6) (h7:a7) (h8:a8) (h9:a9):CCE An10 a4 a5 a6 a7 a8 a9
universe L2
namespace L2
variable {i j k mask:Nat}{owner:yF}{t:SetTable}{xs:rM}{α:Type}
namespace Tab
open PySem
noncomputable def gI:DCZ
 |0,x=>x
 |CS,x=>5*AM0+1
noncomputable def gS:B0L
 |0=>0
 |CS=>5*gS n+1
def c5Y:∀n x,gI n x=C31*x+gS n
 |0,x=>xB gI gS
 |CS,x=>by
  rw[gI,c5Y n x,gS,Nat.pow_succ,Nat.mul_add,<-Nat.mul_assoc,Nat.mul_comm 5 C31];omega
def b4x:∀n,4*gS n+1=C31
 |0=>rfl
 |CS=>by
  have:=b4x n;rw[DAW gS]
def a6i:∀k,∃u,5 ^ (KD)=EEF
 |0=>(IC 0)
 |CF=>by
  rw[C70];rw[HS (u+E4E*AFV u)];rw[Nat.pow_succ 2 k,Nat.pow_mul,h,Nat.pow_two];have e1:2 ^ (CF+2)=8*KD:=by rw[DAW Nat.pow_add]
  rw[CDP]
  rw[E6R]
  grind
def c8e(k:Nat):∃u,gS KD=E4E:=by
 rw[C70];rw[HS u];have:=b4x KD;rw[CDP]
 rw[h,e2,Nat.mul_assoc]at this;omega
def c4R(k y:Nat):gI KD y % A5U=(y+KD) % A5U:=by
 rw[C70];rw[eR h2 (c8e k)];rw[c5Y,h,h2];have e:(EEF)*y+KD*AFV v=(y+KD)+A5U*(2*AFV u*y+v):=by
  rw[EMX]
  rw[CDP]
  rw[E6R]
  grind
 rw[e,Nat.add_mul_mod_self_left]
noncomputable def fI(M:Nat):DCZ
 |0,x=>x
 |CS,x=>(ER4*5+1) % M
def c1T(M:Nat)(x:Nat)(a:x<M):∀n,ER4=AM0 % M
 |0=>(aD Nat.mod_eq_of_lt a)
 |CS=>by
  rw[fI,c1T M x a n,gI,Nat.mul_comm,Nat.add_mod,Nat.mul_mod,Nat.mod_mod,<-Nat.mul_mod,<-Nat.add_mod]
def c1N(m:Nat):∀n x,gI (n+m) x=gI n (gI m x)
 |0,x=>VL Nat.zero_add
 |CS,x=>by rw[Nat.add_right_comm,gI,c1N m n x,gI]
def c1M:∀(k x s:Nat),∃n,n<KD/\AM0 % KD=s % KD
 |0,x,s=>⟨0,AI,pU Nat.pow_zero Nat.mod_one Nat.mod_one⟩
 |CF,x,s=>by
  obtain⟨n,l,h⟩:=c1M k x s;rw[EMX]
  have m:0<KD:=DJ8;rw[BM a (AM0 % A5U) (s % A5U)]
  .rw[BA n AF a]
  .rw[LT (KD+n) AF];rw[c1N,c4R];generalize AM0=y at *;rw[e1]at a⊢;generalize KD=M at *;rw[AE f (Nat.mod_add_div y vZ) g (Nat.mod_add_div s vZ)];rw[AE i (Nat.mod_lt y DGY) j (Nat.mod_lt s DGY)];rw[EOV b y DWP y];rw[EOV c s DKY s];rw[Nat.add_mod,Nat.mod_eq_of_lt (AFJ (M<vZ))];generalize DWP=p at *;generalize DKY=q at *;rw[b,c]at h;have d:p % M=if p<M then p else p-M:=by
    split
    rw[DZ6]
    rw[EIK]
   have e:q % M=if q<M then q else q-M:=by
    split
    rw[DZ6]
    rw[EIK]
   rw[d,e]at h;split at h<;>split at h
   .omega
   .rw[PZ D4A]
   .rw[show p+M=p-M+vZ by omega,Nat.add_mod_right,D4A];omega
   .omega
noncomputable abbrev Pr:=SetTable.Probe
noncomputable def adv(mask:Nat)(p:Pr):Pr :=
 if p.more > 0 then {p with j:=p.j+1,more:=p.more-1} else
 {p with j:=B7Q,more:=AX7 B7Q-B7Q,i:=B7Q,perturb:=(AQJ p.i p.perturb).2}
def c8v(t:SetTable)(p:Pr):t.advance p=BMO:=rfl
noncomputable def D0(mask:Nat)(p:Pr):QZ Pr
 |0=>p
 |CS=>adv mask (B1T p)
def M0(mask:Nat)(p:Pr):∀n,HX D0 p CS=B1T (adv mask p)
 |0=>rfl
 |CS=>QF D0 (HX M0 p n)
def a2D(mask:Nat)(p:Pr)(m:Nat):∀n,HX D0 p (m+n)=B1T (HX D0 p m)
 |0=>rfl
 |CS=>DPZ D0 (a2D mask p m n)
def a3k(mask:Nat)(p:Pr):∀n,ARW dummy=p.dummy
 |0=>rfl
 |CS=>by
  rw[D0,<-HX a3k p n];unfold adv;split<;>rfl
noncomputable def a3v(mask i pt:Nat):Pr:=F2J i jE
noncomputable def st0(mask:Nat)(h:Int):Pr:=a3v mask jG (SetTable.bits h)
def a3N(mask i pt:Nat):∀c,c<=jE->C1V c=F2J (i+c) (jE-c)
 |0,_=>rfl
 |c+1,h=>by
  rw[D0,AM5 c (bZ 0x2a496af476bacbb87d8aae8cd63137)];rw[GO adv (CO (AZ6 (jE-c > 0) 0x4fe2023c5e365674345e8c47a2b21fbf8186ef80894deb137 h))];simp only[SetTable.Probe.mk.injEq,and_true];omega
def c2W(mask i:Nat):jE<=9:=by
 rw[AMA]
def b0m(mask i pt:Nat):C1V A6X=ED2:=by
 rw[D0,a3N mask i pt _ (Nat.le_refl _)];rw[oH adv (LK (by show ¬jE-(jE) > 0;exact lq 0x2aab65e05e51d7579805b764e2151c8f915e))]
noncomputable def R1(mask:Nat)(i pt:Nat):QZ DIT
 |0=>(i,pt)
 |CF=>AQJ A8F C3H
def b7t(mask i pt:Nat):∀k,∃n,n<=10*k/\B1T BCN=HX a3v A8F C3H
 |0=>NJ 0 BO
 |CF=>by
  obtain⟨n,h1,h2⟩:=DAM b7t;have:=c2W mask A8F;rw[LT (n+(AX7 A8F-A8F+1)) (AQH 0x2042fd78d207a0f11815eaa156f2d702f42836cf8015ea8 this)];rw[a2D,h2,b0m];rfl
def b7s(mask i pt:Nat):∀k,C3H=pt / 32 ^ k
 |0=>IF R1
 |CF=>by
  rw[R1,Nat.pow_succ,<-Nat.div_div_eq_div_mul,<-DAM b7s];rfl
def a5s(mask i pt a:Nat):∀b,AOL (a+b)=R1 mask (AQG a) (AOL a).2 b
 |0=>rfl
 |b+1=>DPZ R1 (a5s mask i pt a b)
def a9P(mask i:Nat):∀k,R1 mask i 0 k=(EIP,0)
 |0=>rfl
 |CF=>by
  rw[R1,HX a9P i k];show((EIP*5+1+DWQ) % CF5,DWQ)=_;rw[Nat.zero_div,Nat.add_zero];rfl
def c5a(h:Int):ANY<eZ:=by
 unfold SetTable.bits;rw[TB (Int.emod_nonneg h (AA9 ((BG 2) ^ 64≠0))) (Int.emod_lt_of_pos h (A3S eZ))];omega
def c2X(mask i pt:Nat)(hi:D6E):∀k,eI A8F
 |0=>hi
 |CF=>by
  rw[BB R1 Nat.le_of_lt_succ CNL]
def a9R(c:A8R)(h:Int)(s:Nat)(hs:B31):∃r,r<mask+14/\(B7N R1 r).1=s:=by
 rw[AE b (c5a h) hi (c2X mask jG ANY CV1 13)];rw[GL a (B7N b7s 13) (Nat.div_eq_of_lt (Nat.lt_of_lt_of_le b AI)) a];rw[xC n d (c1M k (B7N R1 13).1 s)];rw[LT (13+n) AF];rw[<-c]at e;rw[a5s,a,a9P];show nN fI=s;rw[F2 (AH c1T AF) e Nat.mod_eq_of_lt AF]
noncomputable def pos(mask:Nat)(h:Int)(n:Nat):Nat:=BEF E1K n
def b7O(a:A8R)(h:Int)(s:Nat)(hs:B31):∃n,n<10*BE0 mask/\OW=s:=by
 rw[xC r c (a9R a h s hs)];obtain⟨n,b,e2⟩:=B7N b7t r;rw[LT n (by rw[DL2])];unfold pos st0;rw[e2,<-e];rfl
def a6x(xs:rM)(j:Nat)(n:EWF):∀(fuel lo hi:Nat),hi-lo<=fuel->DIL->hi<=xs.size->CVY lo->(uK hi (i<xs.size) CT5) ->
  EK4 CDY CDY CDY
 |0,lo,hi,h1,h2,c,k,l=>by
  have:hi=lo:= AL0 0xdafc96140fc4ddd4b2324b39756
  rw[EJW]
 |A6W,lo,hi,h1,h2,c,k,l=>by
  unfold SetTable.below.go;by_cases h:lo<hi
  .rw[yL];rw[AHE o (C04<hi/\lo<=C04)]
   dsimp only;generalize C04=m at o⊢;rw[SI g o];have p:xs.getD m j=E2D:=by
    have:m<xs.size:= E57
    rw[BPR this]
   rw[p];by_cases f:E2D<j
   .rw[CO f];rw[F1B 0x57227860e2f69468309206f3ac64eda92358 q (~~~a8F g) c (AHN i) l]
    .rw[AD e f]
    .exact Nat.lt_trans (n i _ (~~~a8H d e) E57) f
   .rw[BC f];rw[F1B 0x31ca8dee388ce716f72ee310ea76eada358 g AF (yQ 0x6758737691d7 g) k (oA d hs)]
    .rw[BB e O2 f]
    .rw[PD (n m i (yR 0x5cd65729ee1d25f880d6 e) hs) 0xb56f3deed2297 f]
  .rw[kX];have:hi=lo:= B07 0x5cd6b167161d4ef1abd6 h
   rw[EJW]
noncomputable def Ris(xs:rM):Prop:=EWF
def L7(a:zR)(j:Nat):EK4 A0V A0V A0V :=
 a6x xs j a xs.size 0 xs.size (KP 0x5a802defbfbd25) BPZ BO (A3P DS1) (AF3 (AFK h2 (vS b9p)))
def a3a(h:AFT):AZV ARI:=xB Array.getD h
def a3i(b:zR)(h:AZV j):SetTable.below xs j=i:=by
 rw[oW e c DZC];have hi:AFT:=(Array.getElem?_eq_some_iff.mp h).1;have a:DJU j:=by rw[MR (a3a hi) h];rw[DXN];exact this.symm
 rcases Nat.lt_trichotomy A0V i with z|z|z
 .rw[TB (d _ BO (~~~b2E hi z)) (AK b z hi)];exact lq 0x48ca70cacc226b3b8aabd0459 a h1 h2
 rw[NQ]
 .rw[PD (c i z) 0x350cf9801e06aa51758 a]
def a3S(a:zR)(j:Nat):AHL A0V j↔j∈xs:=by
 constructor
 .intro h;exact Array.mem_of_getElem? h
 .intro h;rw[AF1 (Array.mem_iff_getElem?.mp h)];rw[AD (a3i a hi) hi]
def b3P(a:C2S)(hd:C1F)(j:Nat):t.slot j=if iR j then BFL .live j else .empty:=by
 rw[A6Q SetTable.slot];by_cases h:iR j
 .rw[yL,if_pos];rw[LS (DN2 mpr h)]
 .rw[kX,if_neg,hd]
  .rw[if_neg];unfold SetTable.has;simp
  .intro z;exact h (DN2 mp BRM)
def a9U{t:SetTable}(i:C2S)(hd:C1F)(a:IZ)(h:Int):GC fuel Nat p Pr (MQ p.dummy) ((∃n,n<fuel/\DF5) ->
  (CB5 DF5 CA5 EXK (.empty AEP none)) ∨
  ∃n,iR AEP/\a DBM=h/\CN2 CA5/\EXK=some (.candidate AEP DBM (D0 t.mask p CS)))
 |0,p,_,⟨n,g,_⟩=>AFK g ATA
 |A6W,p,c,⟨n,g,f⟩=>by
  rw[GO SetTable.probe.go (b3P i hd)];by_cases b:iR p.j
  .rw[if_pos b];dsimp only;by_cases e:a (AOM p.j)=h
   .right;refine⟨0,b,e,EAO,?_⟩;rw[iO (by rw[BCZ])];rfl
   .have hn0:n≠0:=λz=>aG f z b;rw[LV n rfl (∃k,n=CF) AZY (~~~c5M hn0)];rw[M0]at f;rw[AIC,c8v];have first:∀N,(∀m,m<N->CPL DS0 DS0)->∀m,m<N+1->CA5:=λN j m d=>by
     cases m with
     |zero=>rw[AY b e]
     |succ m=>rw[AD M0 (j m (v7 b2v))]
    rcases a9U i hd a h fuel BMO (RZ c (a3k t.mask p 1)) ⟨n,~~~b2v g,f⟩with⟨N,h1,h2,h3⟩|⟨N,h1,h2,h3,h4⟩
    .left;rw[EF (N+1) DLJ (first N h2) (BJD h3)]
    .right;rw[EB (N+1) DLJ (BJD h2) (first N h3) (IG M0 M0 h4)]
  .rw[AKF];left;rw[GA 0 b EAO ?_];show some (SetTable.Met.empty p.j p.dummy)=_;rw[c];rfl
def a1p(xs:kU)(p:Nat)(x:α)(hp:B5L):BGM xs p x toList=xs.toList.take p++x::xs.toList.drop p:=by
 unfold SetTable.insertAt;simp only[Array.toList_append,Array.toList_push,Array.toList_extract,List.extract_eq_take_drop,List.drop_zero,Nat.sub_zero,List.append_assoc,List.singleton_append];rw[List.take_of_length_le (l:=CRO List.drop) AJ]
def ris_list:zR↔xs.toList.Pairwise (· < ·):=by
 rw[List.pairwise_iff_getElem];unfold Ris;constructor
 .intro h i j hi hj hij;have:=h i j hij (BL hj);simpa[Array.getD,BGE AFT hi,BGE (j<xs.size) hj]using this
 .intro h a b hab hb;have:=h a b (AT7 b9u hab hb) (BL hb) hab;simpa[Array.getD,show a<xs.size by exact b9u hab hb,hb]using this
def a7w(h:i<xs.toList.length):DJU xs.toList[i]:=by
 rw[MA h' AFT h]
 rw[BPR h']
def c2D(b:zR){x:Nat}(h:EI8 xs.toList.take):x<j:=by
 rw[bC a d DZC];rw[C8P];rw[List.length_take]at hi;rw[List.getElem_take,<-a7w];exact a i (eM b4b)
def b4B(d:zR){x:Nat}(c:DXB)(h:EI8 xs.toList.drop):j<x:=by
 rw[A4K f b (L7 d j)];rw[MA a YS (List.mem_of_mem_drop h)]
 rw[C8P];rw[List.length_drop]at hi;rw[List.getElem_drop,<-a7w]at a⊢;have:=b (A0V+i) BPY (by simp at hi;exact a7q hi);rw[BW (D0Q this)]
 rw[NQ]
 rw[FJ (xD a) c]
def c2Y(a:zR)(c:DXB):Ris (E3G A0V):=by
 rw[ris_list,BK8 (L7 a j).1];have d:=ris_list.mp a;rw[List.pairwise_append,List.pairwise_cons];rw[FY d.take ⟨λy b=>b4B a c b,d.drop⟩ (CWA e)];have h1:=c2D a e;rw[BW AHY]
 .rw[AD z h1]
 .exact Nat.lt_trans h1 (b4B a c z)
def a8w{p x:Nat}(hp:B5L):x∈E3G p↔x=j∨YS:=by
 rw[<-Array.mem_toList_iff,DMM,List.mem_append,List.mem_cons,<-Array.mem_toList_iff];constructor
 .rintro(h|h|h)
  .exact lT List.mem_of_mem_take h
  rw[HF h]
  .exact lT List.mem_of_mem_drop h
 .rintro(h|h)
  .exact VG h
  .rw[<-CRO List.take_append_drop]at h;rw[BW (List.mem_append.mp h)]
   rw[HF z]
   .exact VR z
def nodup_le{α:Type}[DFS]:EWW
 |[],b,_,_=>F1
 |fJ,b,e,h=>by
  rw[F0D (nodup_le a D37 h2 λy d=>EZ3)]
structure TabOk{α:Type}(t:SetTable)(es:sM):Prop where
 size:t.place.size=es.size
 dum:C1F
 ris:C2S
 le:∀j∈t.place,j<=t.mask
 pow:∃k,3<=k/\D1O=KD
 room:AYO es.size
 reach:∀(i j:Nat) (e:tY α),BR9 j->BHF->CUX (iR (WF e.1 m))
def TabOk.free{es:sM}(h:sW)(x:Int):∃n,n<B60/\A4L (WF x n):=by
 obtain⟨k,_,e⟩:=h.pow;have:∃s,AYO s/\A4L s:=by
  rw[BU2 d];have a:∀s,s<D1O->s∈t.place.toList:=λs hs=>by
   refine Classical.byContradiction λz=>iZ d s AF (λq=>z (by simpa using q))
  have:=nodup_le (List.range (t.mask+1)) t.place.toList List.nodup_range λs hs=>a s (List.mem_range.mp hs);rw[List.length_range,Array.length_toList,h.size]at this;rw[QE h.room]
 rw[wE s hs this];rw[OP n b c (b7O e x s hs) n b (AG c f)]
def TabOk.first{es:sM}(h:sW)(x:Int):∃N,N<B60/\DF4/\DTZ:=by
 rw[oW n b (h.free x)];induction n using Nat.strongRecOn with
 |ind n e =>
  rw[YI (BMM (A4L (WF x m)))]
  .obtain⟨m,a,hm2⟩:=c;exact e m a (AU 0xc184ffd7f5df77b6ea7 b a) hm2
  .exact⟨n,b,d,λm a=>Classical.byContradiction λz=>iZ c m a z⟩
def b4w{xs:kU}{p:Nat}{x:α}(hp:B5L)(i:Nat):eT (SetTable.insertAt xs p x)=if i<p then D6J else if i=p then iS else xs[i-1]?:=by
 rw[D1G DMM];rw[UX h1 p]
 .rw[AVY,D23 (by rw[CM List.length_take Array.length_toList (lq 0x178fd23718d8ccf916d91d7 hp h1)]),List.getElem?_take_of_lt h1,Array.getElem?_toList]
 .rw[AI5,AZI (by rw[F2 List.length_take Array.length_toList c0O h1]),List.length_take,Array.length_toList,BIW hp];rw[BM h2 i p]
  .rw[BSI,h2,Nat.sub_self];rfl
  .rw[BC h2];rw[LV c a (∃c,i-p=c+1) (i-p-1) AF];rw[a,List.getElem?_cons_succ,List.getElem?_drop,Array.getElem?_toList];congr 1;rw[DN 0x9f102d013653cc7ee0977e3faf804166ea5c3b902ead64357 a]
def TabOk.add{es:sM}(h:sW){x:Int}{v:α}{N:Nat}(h1:DF4)(h2:DTZ)(o:AYO nE)(d:es.size<t.mask) :
  TabOk (ASB nE) (BLC (CJG nE) BL2):=by
 have g:=(L7 h.ris nE).1;have hd:(ASB nE).dummies=#[]:=by
  show MW (uE SetTable.has t.dummies nE) _ t.dummies=#[];rw[h.dum,if_neg];unfold SetTable.has;simp
 have c:A3U<=es.size:=by rw[JP h.size g]
 have f:∀{β:Type}(xs:TZ β) (p:Nat) (y:β),B5L->BGM xs p y size=xs.size+1:=λxs p y w=>by
  rw[<-Array.length_toList,BK8 w,List.length_append,List.length_cons,List.length_take,List.length_drop,Array.length_toList];rw[VY 0x6201ae1bcedeba611b1690aebf26c0e60a29d6]
 refine⟨?_,hd,c2Y h.ris h1,AZP u,h.pow,?_,xV e b a⟩
 .show CX6 t.place=DUY;rw[GX f g,DRI,h.size]
 .rcases XT a8w g u with z|z
  .rw[AD z o]
  .exact h.le j z
 .show AYO DUY;rw[AD DRI d]
 .change AHV D02 j at b;change CB ((BLC A3U BL2)) e at a;rw[b4w g]at b;rw[b4w c]at a;show EPZ;have k:∀l,IP t.place l j->IP es l e->EPZ:=λl C D=>by
   rw[OP n A B (h.reach l j e C D) n A (EJC (B m q))]
  rw[UX r A3U]
  .rw[CO r]at b a;exact k i b a
  .rw[BC r]at b a;rw[BM s i A3U]
   .rw[CO s]at b a;cases b;cases a;rw[QQ N (EJC (h2 m q))]
   .rw[BC s]at b a;exact k _ b a
def a7i(hi:D6E):eI AO9:=by
 rw[AMA]
def b6S(mask:Nat)(p:Pr)(h:p.j+p.more<=mask):∀n,BEF p n+ARW more<=mask
 |0=>h
 |CS=>by
  have b:=b6S mask p h n;rw[D0];rw[bW adv]
  .dsimp only;omega
  .dsimp only;rw[F1E C7X C7X (AX7 C7X) (by
    rw[AMA])]
   rw[DL 0x482873b773a2e9541d9b081d7 h2 a]
def a3w(mask:Nat)(h:Int)(n:Nat):eI OW:=by
 rw[F1E jG jG DKA (by
  rw[AMA])]
 have:=b6S mask E1K (wC (jG+(DKA-jG)<=mask)) n;unfold pos;rw[QN 0xd20040647ef3d97]
noncomputable def fr(owner:yF)(j:Nat):Bool:=(owner.getD j ZW).isNone
def b4y(mask:Nat)(owner:yF):∀(fuel i pt:Nat),(∃r,r<fuel/\AGX (AQG r)) ->
  CB5 (AGX (AXA n)) E6T (SetTable.layClean.free mask owner fuel i pt) (AXA n)
 |0,_,_,(DQ1 _)=>DS1
 |A6W,i,pt,(DQ1 c)=>by
  unfold SetTable.layClean.free;have f:i<=AO9:=by
   rw[AMA]
  cases e:AFU (AO9+1-i) find? (λk=>(owner.getD (i+k) ZW).isNone)with
  |some k =>
   dsimp only;rw[List.find?_range_eq_some]at e;obtain⟨e1,e2,l⟩:=e;have d:=List.mem_range.mp e2;rw[GA k ?_ (jI m) ?_]
   .rw[AD (AM5 k DCD) e1]
   .rw[AM5 m (yR 0x40afc388d153e6a49e61fc945354520edbd8 a)];have:=l m a;rw[A5O fr]
   .rw[AM5 k DCD]
  |none =>
   dsimp only;rw[List.find?_range_eq_none]at e;have b:∀m,m<A6X->E6T:=λm a=>by
    rw[AM5 m (bY 0x4a0046fa5a421d81bf312aeb74cb417)];have:=e m (AU 0x189200d44dfc5f0f6d1290a5215b715edd7 f a);rw[A5O fr]
   cases r with
   |zero =>
    have:=b 0 (KP 592550711181662);rw[WX (pV (AXA 0=AQG 0)) c this this]
   |succ r =>
    have hf':AGX (R1 mask BJG BJL r).1:=by
     rw[Nat.add_comm,a5s]at c;exact c
    rw[B6A n o (b4y mask owner fuel BJG BJL ⟨r,A4N b2v,hf'⟩)];have key:∀m,C1V (A6X+m)=HX D0 ED2 m:=λm=>by
     rw[a2D,b0m]
    rw[GA (A6X+n) (AG key h1) (jI m) (AG key o)];by_cases g:m<A6X
    .exact b m g
    .rw[LV j rfl (∃j,m=A6X+j) (m-(jE+1)) AF];rw[AD key (h2 j (bY 0x4c93d69981f094e5fd66ab33c73cacd19a458))]
structure Lay(mask:Nat)(owner:yF)(hs:qI):Prop where
 size:C4W
 val:∀j q:Nat,AM1->∃h,IP hs q h/\∃n,OW=j/\AU1 C83
 ex:∀q,DIO->YK j AM1
 uniq:∀j j' q:Nat,AM1->u9 (BPP j') q->j=j'
def a1q(hs:C4W)(a:eI j):ASX j↔∃q,BEB=C38:=by
 have h:D4R:= AU 0x288f82733da1795ed7 hs a
 unfold fr;rw[Array.getElem?_eq_getElem h,show hY owner.getD j 0=D8Y by rw[BPR h]];cases D8Y with
 |none=>simp
 |some q=>simp
def Lay.start(mask:Nat):HX Lay (Array.replicate uR none) []:=by
 refine⟨AJ,DS j q h,λq h=>AIV h,BT j a q h⟩<;>
 .rw[Array.getElem?_replicate]at h;split at h
  .cases h
  .cases h
def Lay.free(y:A8R){hs:qI}(L:DNR)(z:eI hs.length)(h:Int):CB5 DIA C83 F1S OW:=by
 have:∃s,B31/\AGX s:=by
  rw[BU2 i];have c:∀s:Nat,B31->∃q,BPP s=C38:=λs hs=>by
   rw[<-a1q L.size hs];cases e:fr owner s with
   |false=>rfl
   |true=>rw[EV (A3L s hs) i]
  have:=nodup_le (nH uR λj=>(owner.getD j none).getD 0) (List.range hs.length) ?_ ?_
  .rw[List.length_map,List.length_range,List.length_range]at this;omega
  .rw[C53];refine(List.nodup_iff_pairwise_ne.mp List.nodup_range).imp_of_mem λ{a b} u v g e=>g ?_;rw[kS q d (c a (bM (List.mem_range.mp u))) p f (c b (bM (List.mem_range.mp v)))];rw[C7G g1 (owner.getD a none) q d]
   rw[C7G t (owner.getD b none) p f]
   rw[g1,t]at e;change q=p at e;exact L.uniq a b q d (e ▸ f)
  .intro x hx;rw[IV j w hx];obtain⟨q,d⟩:=c j (bM (List.mem_range.mp w));obtain⟨h',h1,_⟩:=E14 d;rw[C7G g1 (owner.getD j none) q d]
   rw[BB g1 List.mem_range.mpr D8H]
 obtain⟨s,l,o⟩:=this;rw[xC r A (a9R y h s l)];exact b4y mask owner _ _ _ ⟨r,by rw[DL2],AG e o⟩
def Lay.put{hs:qI}(L:DNR){h:Int}{n:Nat}(h1:DIA)(h2:AU1 C83):HX Lay C9J (hs++[h]):=by
 have l:OW<owner.size:=by have:=D9D;rw[AD L.size (lq 157452360662 this)]
 have f:∀q,BPP OW≠C38:=λq z=>by
  rw[AHJ ((a1q L.size D9D).mpr (A6R z)) h1]
 have get:∀j:Nat,(C9J)[j]?=if j=OW then BU some hs.length else BEB:=λj=>by
  rw[Array.getElem?_setIfInBounds];rw[GD OW j]
  .rw[NL,D5B,CO l]
  .rw[IX,AII DVO]
 have b:(owner.setIfInBounds OW (AQ hs.length)).size=uR:=by rw[Array.size_setIfInBounds,L.size]
 have keep:∀j,eI j->ASX j->tN fr C9J j:=λj a e=>by
  rw[a1q b a,get];split
  .rw[RW rfl]
  .exact(a1q L.size a).mp e
 rw[GA b (A2J j q) (BK q i) (DW j g q e e')]
 .rw[get]at e;rw[BM c j OW]
  .rw[FH rS];rw[EB h (QF AIN Nat.sub_self) n c.symm (EAN h (h2 m d))]
  .rw[yS]at e;obtain⟨h',e1,o,e2,k⟩:=L.val j q e;rw[EB h' (AG (BPA D8I) e1) o e2 (EAN h' (k m d))]
 .rw[BM c q hs.length]
  .rw[AY OW (pU get EJ c)]
  .rw[List.length_append,List.length_singleton]at i;rw[AH8 a (L.ex q (~~~a8H i c))];rw[HS j];rw[get,if_neg]
   .exact a
   .intro z;exact f q (xD a)
 .rw[get]at e e';have lt:∀j:Nat,AM1->DIO:=λj z=>by
   obtain⟨_,e1,_⟩:=E14 z;exact D8I
  rw[BM c j OW]
  .rw[BM c' g OW]
   .rw[c,c']
   .rw[rS]at e;rw[AX D4F e' e];rw[E0H e']
  .rw[BM c' g OW]
   .rw[yS]at e;rw[AX (CO c') e' e'];rw[E0H e]
   .rw[yS]at e;rw[D4F]at e';exact L.uniq j g q e e'
def b0z{mask k:Nat}(b:A8R):∀(rest done:qI) (owner:yF),BLR done->done.length+rest.length<=mask ->
  ∃a,hY rest.foldl (λqP h=>do
   let (owner,k) <-qP
   let j <-SetTable.layClean.free mask owner (SetTable.turns mask) (SetTable.bits h % (mask+1)) (SetTable.bits h)
   pure (owner.setIfInBounds j (some k),k+1)) (owner,done.length)=some (a,uT done rest)/\HX Lay a (done++rest)
 |[],done,owner,L,_=>⟨owner,AJ,BL L⟩
 |h::rest,done,owner,L,d=>by
  rw[List.length_cons]at d;rw[B6A n c (L.free b AF h)];obtain⟨a,e1,e2⟩:=b0z b rest (done++[h]) _ (AUD L.put) (by rw[List.length_append,List.length_singleton];omega);rw[FY a ?_ (BPI List.append_assoc e2 e2)];rw[List.foldl_cons];rw[List.append_assoc]at e1;refine Eq.trans (dF (λz=>List.foldl _ z rest) ?_) e1;show(Option.bind F1S λj=>AQ (CLW j done.length,done.length+1))=_;rw[c,List.length_append];rfl
def b0A(b:A8R)(a:TZ Int)(c:eI a.size):∃owner,SetTable.layClean mask a=some owner/\BLR a.toList:=by
 obtain⟨owner,e1,e2⟩:=b0z b a.toList [] _ (Lay.start mask) (BL c);rw[FY owner ?_ e2];unfold SetTable.layClean;rw[<-Array.foldl_toList];exact congrArg (Option.map (·.1)) e1
def b2S{α β:Type}(f:α->qD β):∀l:CL,WT l (AW (f x).isSome)->(l.filterMap f).map some=l.map f
 |[],_=>rfl
 |AFW,h=>by
  rw[AE c (b2S f l λy b=>h y A2K) a A54];cases e:f x with
  |none=>rw[aS a a]
  |some y=>rw[List.filterMap_cons_some e,List.map_cons,List.map_cons,c,e]
def b7C(es:kU):C1M es.size (es[·]?)=es.toList:=by
 have h1:C6I ((List.range es.size).filterMap (es[·]?)).map DAK:=D2O λq a=>by
  have:=D2Z;simp[this]
 have h2:C6I es.toList.map DAK:=by
  refine SE List.ext_getElem λi h1 h2=>?_;simp at h1;simp[h1]
 exact QO List.map_inj_right (iF h CR4) (h1.trans h2.symm)
noncomputable def F7(mask:Nat)(owner:yF):DLS:=C1M uR λj=>(owner.getD j none).map (j,·)
def U4(hs:C4W)(j q:Nat):(j,q)∈F7 mask owner↔AM1:=by
 rw[GO F7 List.mem_filterMap];constructor
 .rw[AE1 j' hj'];have hj':=List.mem_range.mp hj';rw[Option.map_eq_some_iff]at e;obtain⟨b,e1,e2⟩:=e;cases e2;rw[Array.getD_eq_getD_getElem?,ENM]at e1;rw[AD ENM (dF some e1)]
 .intro e;have a:D4R:=(Array.getElem?_eq_some_iff.mp e).1;rw[BA j (DKQ 0x46f5807638284ca0ed7 hs a) (QF Array.getD_eq_getD_getElem? e)]
def c1d(mask:Nat)(owner:yF):(F7 mask owner).Pairwise λa b=>QK<dX:=by
 unfold F7;refine List.Pairwise.filterMap _ (λa b c p d q e=>?_) List.pairwise_lt_range;rw[Option.map_eq_some_iff]at d e;rw[AHA d];rw[AHA e];exact c
def c4p(F:A8R)(J:3<=k)(es:sM)(G:eI es.size)(finger moves:Nat)(led plain:Bool) :
  ∃t' d,SetTable.laid mask finger moves led plain (es.map (·.1))=some (t',d)/\t'.mask=mask/\t'.led=led/\EHO plain ((d.filterMap (es[·]?))) ((d.filterMap (es[·]?))):=by
 rw[bC e L (b0A F (es.map (·.1)) (BL G))];refine⟨{mask,place:=DIS,dummies:=#[],finger,led,moves,plain},AVB (((F7 mask c).map (·.2))),?_,rfl,rfl,rfl,?_⟩
 .rw[oH SetTable.laid e]
 have B:∀p∈F7 mask c,GW<es.size:=λp o=>by
  obtain⟨h,h1,_⟩:=L.val CV GW (C8V o);rw[vR D8H]
 have w:=c1d mask c;have nd:((F7 mask c).map (·.2)).Nodup:=by
  rw[C53];refine w.imp_of_mem λ{a b} K M A z=>?_;rw[TB (AF2 QK a.2 mp K) (AF2 dX b.2 mp M)];rw[z]at h1;rw[PD (A1B L.uniq h1 h2) 899404274651542 A]
 have g:∀q,q∈BHH F7 mask c↔q∈D0M es.size:=λq=>by
  rw[List.mem_range];constructor
  .intro u;rw[IV p o u];exact B p o
  .intro u;rw[AH8 s (L.ex q (BL u))];rw[D1Q (NJ (j,q) (AF2 j q mpr s))]
 have perm:((F7 mask c).map (·.2)).Perm (List.range es.size):=(List.perm_ext_iff_of_nodup nd List.nodup_range).mpr g;have r:∀l:rE,(l.toArray.filterMap (es[·]?)).toList=l.filterMap (es[·]?):=λl=>AJ
 have f:C6I (((F7 mask c).map (·.2)).filterMap (es[·]?)).map ((F7 mask c).map (·.2)).map:=D2O λq u=>by
  have:=List.mem_range.mp (QO g q u);simp[this]
 have v:(((F7 mask c).map (·.2)).toArray.filterMap (es[·]?)).size=EI2:=by
  rw[AWY f];rw[List.length_map,List.length_map,List.length_map]at this;rw[BQ1 r];rw[UI]
 have t:EI2=es.size:=by
  rw[C1O perm.length_eq List.length_map List.length_range]
 rw[HS ⟨?_,rfl,?_,AZP s,⟨k,J,F⟩,IG v t G,xV e' x E⟩]
 .rw[LS v]
 .rw[ris_list];show((F7 mask c).map (·.1)).Pairwise (· < ·);rw[AD List.pairwise_map w]
 .rw[MA s (j∈EPK) s]
  rw[IV p o s];rw[MR (Array.getElem?_eq_some_iff.mp (C8V o)).1 L.size];show eI CV;omega
 .rw[MA x (CB (((F7 mask c).map (·.1))) j) x]
  rw[<-Array.getElem?_toList,r]at E;rw[List.getElem?_map,Option.map_eq_some_iff]at x;rw[LU p o x];have h1:=dF (λl=>l[i]?) f;simp only[List.getElem?_map,E,o,Option.map_some]at h1;rw[C5E]
  have C:=C8V (List.mem_of_getElem? o);obtain⟨h,y,n,H,I⟩:=L.val CV GW C;have N:h=e'.1:=by
   rw[Array.getElem?_toList,Array.getElem?_map,<-h1]at y;injection y with y
   exact y.symm
  rw[N]at H I;rw[FY n H (AHM O)];obtain⟨P,D⟩:=(a1q L.size (CSW _)).mp (I m O);have:DXC EPK:=AH3 (LN (AF2 _ P mpr D));show DXC DIS;rw[mT]
 .rw[r];refine cT (rG perm.filterMap _) List.Perm.of_eq;exact b7C es
def b3Q(n:Nat):∀(fuel a:Nat),3<=a->n<2 ^ (a+fuel)->∃b,3<=b/\SetTable.sizeAbove.go n fuel D48=vV/\n<vV/\(b=a∨DWB)
 |0,a,c,h=>(EIL h)
 |A6W,a,c,h=>by
  unfold SetTable.sizeAbove.go;by_cases d:D48<=n
  .rw[CO d,<-Nat.pow_succ];rw[kD b e f g i (b3Q n fuel bE (AI0 0x66a144d53c8d) (IG Nat.add_assoc (Nat.add_comm 1) h)) ⟨b,e,f,g,DP ?_⟩];rw[BW i]
   .rw[z,Nat.pow_succ];omega
   rw[NQ]
  .rw[BC d];exact EIL AF
def a2L(n:Nat)(h:n<ADF):∃b,3<=b/\SetTable.sizeAbove n=vV/\n<vV/\(b=3∨DWB) :=
 b3Q n 64 3 BO (Nat.lt_of_lt_of_le h AI)
def b5j(t:SetTable)(es:sM)(a:Nat)(hw:a<ADF)(m:es.size<a) :
  ∃t' c,t.relaid (es.map (·.1)) a=some (t',c)/\a<=t'.mask/\t'.mask<=2*a+7/\t'.led=t.led/\EHO t.plain ((c.filterMap (es[·]?))) ((c.filterMap (es[·]?))):=by
 obtain⟨b,d,e,l,f⟩:=a2L a hw;have n:0<vV:=DJ8;rw[GO SetTable.relaid e];obtain⟨t',c,h1,h2,g,h,i,j⟩:=BI c4p mask CR2 k b AF d es AF t.finger (t.movedTo CR2) t.led t.plain;rw[DO ⟨t',c,h1,XM h2,?_,g,h,i,j⟩ h2];rw[BW f]
 .rw[BB z lq 0xa2a16c9ecd75dcd5d87cf5d]
 .omega
universe Tab
universe L2
namespace L2
variable {Q:fM}{a:qE}{r:qI}
namespace Tab
open PySem
section
variable {prog:qG}{w:World}{A:Around}{E:qH}{s:qC}
noncomputable abbrev TK(prog:qG)(w:World)(h:Heap)(r:qI)(a:qE):Prop:=IsTupleKey AGK h r a
def TK.keep{h h':Heap}(x:BOW h)(k:DN6):BOW h':=by
 rw[wF its n h1 h2 x];rw[EB o its n (AZE h1) h2]
def items_int{vs:AN}(h:ItemsAre AGK r vs):NF vs (∃i t,v=ABT):=by
 induction h with
 |nil=>intro v b;cases b
 |@cons k v ks vs h1 _ c =>
  intro u a;rcases BBQ with e|a
  .rw[hX t ht Value.isInt_shape h1];rw[BA k t (e.trans ht)]
  .exact c u a
def b0l(e:DPL)(h:BVW):E0C ofAClassStatement:=by
 rw[F2T d];have c:=items_int hi;rw[A3M ofAClassStatement (wpAny_typeOf f ?_)];dsimp only;rw[A58];rw[rW];rw[A7O];rw[API g hd];dsimp only;rw[OR];rw[EQT c]
 rw[F3B ofAClassStatement]
 rw[EQ2]
def c2k(e:DPL)(h:Q true s):E0C hashByValue:=by
 rw[F2T c];have d:=items_int hi;unfold hashByValue;rw[BVC f F.slot_tuple_hash.lookup];dsimp only;rw[API g hd];rw[OR];rw[PX (forIn c _ _)];rw[EQT d]
 rw[F3B hashByValue]
 rw[EQ2]
def b8G{b:qE}{l:AN}(f:C7I)(g:CB3 l E5J)(h:BVW):EE (IR searchCouldBeSeen b l):=by
 unfold searchCouldBeSeen;rw[OR];rw[CZS (BI2 c (s'=s/\MQ LP/\CB3 rest E5J)) g]
 .rw[CZ3 c hc];obtain⟨a,b',rfl,d⟩:=CU5;have e:CB3 rest (TK prog w s'.heap a b'):=CWY i i;dsimp only;split
  .exact wpAny_pure (vC e)
  .rw[AZ (DTC f ?_)];rw[A7O];rw[AZ (DTC d ?_)];rw[A7O];rw[AZ (b0l f ?_)];rw[A7O];rw[AZ (b0l d ?_)];rw[pL YF (vC e)]
 .rintro c s' ⟨rfl,hc,_⟩;dsimp only;rw[pL hc h]
noncomputable def hsh(prog:qG)(w:World)(r:qI):Int:=tupleKeyHash AGK r
noncomputable def ent(prog:qG)(w:World)(x:ACC):BUQ:=(BNT,D0N NB)
def K7{α:Type}{t:SetTable}{es:sM}(ok:sW):DY t.fits es.size:=by
 unfold SetTable.fits SetTable.fill;have:=ok.room;simp[ok.size,ok.dum,this]
def c7p{α:Type}{t:SetTable}{es:sM}(ok:sW):PR t.gaveWay:=by
 obtain⟨k,a,b⟩:=ok.pow;rw[LV c rfl (∃c,k=c+1) (k-1) (bY 0x3f1f0b1fb2fa055ac16d2cb48d)];rw[Nat.pow_succ]at b;unfold SetTable.gaveWay;have:t.mask % 2=1:=AF
 rw[this];rfl
def c1e{c:Bool}{m:A00}{X Y:Sem SetFound}{Q:D5R}(b:∀a:fM,a false s->LI KK m a)(h:EE Y):EE (OO c (m>>=λz=>OO z X Y) Y):=by
 split
 .rw[AZ (b _ ?_)];rw[AD YF h]
 .exact h
def a7g{a b:qE}{r:qI}{o:Obj}{es:AK1}{ep:Nat}{t:SetTable}{xs:kQ}{Q:D5R}(U:DA6)(hd:DPX)(ok:sW)
  (G:∀e∈es.toList,∃x∈xs,e=B7B) (O:kJ (B7B∈es.toList)) (g:EK0) (S:C7I) (hu:C4V) {N:Nat}(Y:N<B60) (j:A4L A2W) (u:BMA N WM)
  (K:r∈B23->Q (.there none) s) (C:r∉B23->Q (.free A2W false) s) :
  ∀(fuel d:Nat) (st:qD SetTable.Probe),B4Y<fuel->d<=N->st.getD (t.probeStart WM)=CAU->(∀m,m<d->y4 i x ACC (YS->BR9 (WF WM m)->CB es B7B->EN≠r)) ->
   EE (setSearchFrom a F0 WM true fuel st)
 |0,d,st,h,_,_,_=>absurd h (KP 592614721759062)
 |A6W,d,st,hf,l,W,M=>by
  rw[A3M setSearchFrom (D6K U hd BL7)];dsimp only;rw[c7p ok,YF,W];have f:∀m,AOC CAU m=DMI:=λm=>AH5 a2D
  have Z:GC i Nat e BUQ BHF ((es[i]?.map (·.1)).getD 0=e.1):=λi e z=>VL z
  have P:∀n,d+n<N↔iR DMH/\AU1 (iR DMI):=λn=>by
   constructor
   .intro h;rw[AY (u _ h) (λm H=>u _ (~~~c0G h H))]
   .rw[C5C];rw[EO7]
    rw[NQ]
    .rw[z]at h1;rw[EV h1 j]
    .have:=h2 B4Y (~~~b2G l z);rw[WD CDB];rw[EV this j]
  rcases a9U ok.ris ok.dum (λi=>(es[i]?.map (·.1)).getD 0) WM B60 CAU (VL a3k) ⟨B4Y,BH 0xdeec04ff2151ab59e7c9d3deea7 Y,IG f CDB j⟩with⟨n,h1,h2,h3⟩|⟨n,h1,h2,h3,h4⟩
  .rw[F2M h3 h3 h3];rw[f]at h1⊢;have e:AEK=N:=by
    rw[EO7]
    rw[FJ (u _ z) h1]
    rw[NQ]
    .have:=(h2 B4Y (~~~b2G l z)).1;rw[f,CDB]at this;rw[EV this j]
   rw[e];rw[RT (gJ C H)];rw[IV x I H];rw[lG i hi (O x I)];rw[Array.getElem?_toList]at hi;have v:i<t.place.size:=by rw[ok.size];exact(Array.getElem?_eq_some_iff.mp hi).1
   obtain⟨q,q1,q2⟩:=ok.reach i _ _ (a3a v) hi;change E0L=_ at q1;change BMA q BNT at q2;have k:BR9 E0L:=by rw[BB q1 a3a v]
   have T:q<N:=by
    rcases Nat.lt_trichotomy q N with z|z|z
    rw[NQ]
    .rw[z]at k;exact absurd (Array.mem_of_getElem? k) j
    rw[FJ (q2 N z) j]
   rw[YI (q<d)]
   .exact M q c i x I k hi rfl
   .rw[EY9 h2 q (TC 0xc381240c6e9bcb94c8f9d91b1e30a598 e T c) q q (a3i ok.ris k)];exact D rfl
  .rw[F2M h4 h4 h4];rw[f]at h1 h2⊢;have L:d+n<N:=kA P n ⟨h1,λm H=>by rw[QS (h3 m H).1 f]⟩;have k:=(a3S ok.ris _).mpr h1;generalize J:AOM DMH=ib at h2 k⊢;have v:ib<es.size:=by rw[<-ok.size];exact(Array.getElem?_eq_some_iff.mp k).1
   rw[ACF I ex (G es[ib] AJ)];have F:IP es ib B7B:=by rw[Array.getElem?_eq_getElem v,ex]
   rw[AYT F];rw[JZ c1e (λQ' hq=>b8G S DH2 hq)]
   .rw[IV e R hy];have R:e∈es:=by
     have:=Array.mem_toList_iff.mp R;exact BSN Array.mem_filter.mp
    obtain⟨x',B,ex'⟩:=G e (BL R);rw[EF x'.1 x'.2 (VL ex') EGI]
   rw[AE8 (BGG AGK eqBool hu DQS S ?_)];rw[AZ (wpAny_setState_of U hd BL7 ?_)];dsimp only;rw[BM p EN r]
   .rw[BB (iO (by rw[decide_eq_true p];rfl)) wpAny_pure (BJA K ⟨x,I,p⟩)]
   .rw[E1V];have sm:UY t.sameMemory t.moves t.mask true:=by unfold SetTable.sameMemory;simp
    rw[AYT sm];rw[EJ,b3P ok.ris ok.dum,AVY];dsimp only;rw[J,F];dsimp only;rw[OE wpAny_isSame_ref_self];rw[EJ];rw[rW];dsimp only;rw[E1V];refine a7g U hd ok G O g S hu Y j u K C fuel (AEK+1) _ (AU 0x130daeb00a179953af34bc9141d14d25f470e305e3358 hf L) (BH 89347051605268887 L) (by rw[<-a2D];rfl) λm H i x' B V hi=>?_;rw[YI (m<d)]
    .exact M m c i x' B V hi
    .rw[BM c2 m AEK]
     .subst c2;have:ib=i:=by rw[<-J];exact a3i ok.ris V
      rw[pJ];rw[F]at hi;injection hi with hi
      have D:NB=x'.2:=by
       rw[AQ1 Prod.snd hi];injection this
      intro z;rw[GL X DQS D X];exact p (rG X.inj EGI z)
     .rw[EY9 h3 m (~~~lq 0x212da69d8ddb0d7c8451a07feed55bde5a74ab5317 H c c2) m m (a3i ok.ris V)];intro z;exact D (AH5 z)
noncomputable def a1w(prog:qG)(w:World)(ld:Bool)(h:Heap)(a:qE)(xs:kQ):Prop :=
 ∃o es ep t,qZ/\o.ExactSet/\o.data=CXU/\DXV DDM/\sW/\D1Z/\es.size*5<t.mask*3/\t.mask<=8*xs.length+7/\t.led=ld
def c8w{ld:Bool}{b:qE}{xs:kQ}(hS:DSK a)(M:EK0)(hk:C7I)(hu:C4V)(Z:xs.length<1000)
  (h:∀h' I c,C4K->A31 ld h' a I->((r∈xs.map (·.1)/\I=xs)∨(r∉xs.map (·.1)/\I=(r,b)::xs))->Q c (A1I CJ8)):EE (setAdd a F0):=by
 obtain⟨o,es,ep,t,J,D,hd,q,ok,G,U,T,R⟩:=hS;rw[B7V V xs.length q.length_eq]
 unfold setAdd;rw[DZ0 (wpAny_pyHash_tuple hu hk ?_)];unfold setAddHashed;rw[BJZ];unfold setAddHashedIn;rw[BSZ EF5];rw[A2S (PR (IR byScan b es)),YF];unfold setSearch;rw[DR N hN K L ok.first WM];have a7:N<100000:=by unfold SetTable.turns at hN;omega
 rw[AZ (BI a7g s BC8 xs xs J hd ok (BK e he) (wQ (BJA q.mem_iff.mpr (NJ x hx))) M hk hu hN K L (MN a3) (MN C) 100000 0 none AF F1 rfl (λm hm=>AFK hm ATA))]
 .rw[OP x hx rfl (List.mem_map.mp (q.mem_iff.mp he)) x hx rfl]
 .rw[oN];exact h s.heap xs false (Heap.SameBut.refl a s.heap) ⟨o,es,ep,t,J,D,hd,q,ok,G,U,T,R⟩ (EL (IC a3))
 .dsimp only;rw[BSZ EF5];rw[CO (show DY7 from G)];rw[AZ (c2k (s:=BC8) hk ?_)];simp only[↓reduceIte,Bool.not_false,Bool.true_and];have k:=ok.add (v:=CIZ) K L (nN a3w) (BH 0x1f7bf9f1fed1e2cf3c5016e6 U);have S:BMI mask=t.mask:=rfl;have p:DY7:=G;have n:BMI led=ld:=R;have a0:BMR<=es.size:=by
   rw[QS (L7 ok.ris A2W).1 ok.size]
  have P:=a1p es BMR CVE a0;change FN _ _ (storeSet a EAU _>>=_) _ _ _;generalize (ASB A2W)=l at k S p n⊢;generalize EAU=d at k P⊢;have u:d.toList.Perm (FQ CXM DDM):=by
   rw[P];rw[JR List.perm_middle.trans];rw[CM List.take_append_drop List.map_cons (List.Perm.cons _ q)]
  have y:d.size=AZA:=by rw[DQ4 u.length_eq List.length_cons]
  have W:BZ d.size:=by rw[AD sizeLine_eq (lq 0x18cb50a80d39c92822e7c5121dd27b180e6 Z y)]
  rw[OA (CX7 wpAny_storeSet_of ?_) W];have B:PY (ARK B6V get?) {o with data:=.set d BQC l}:=by
   rw[QS (BUR B6V J (by rw[EIO];rfl)) EIO]
  have Y:=Heap.SameBut.update s.heap a B6V;have O:l.fill=d.size:=by unfold SetTable.fill;rw[k.size,k.dum];rfl
  by_cases f:AW l.tooFull
  .rw[CO f];rw[EWS];rw[OR];unfold setRelay;rw[BSZ (tH wpAny_setState_of s CQ5 B (K7 k))];have a2:SetTable.grown (es.size+1)=B7C:=by
    unfold SetTable.grown;rw[F2 (BC (AU 0xe2b0bca77bae2cb7f6f483c55f23180e6 Z V)) V lq 0x1678989ff922ef5]
   rw[a2];obtain⟨sb,a6,a4,a9,a5⟩:=a2L B7C DYB;have a8:SetTable.sizeAbove B7C<=16000:=by
    rw[a4];rw[BW a5]
    .rw[ZE z]
    .omega
   rw[LK (by rw[PZ sizeLine_eq])];obtain⟨H,g,r1,r2,r3,r4,r5,X,F⟩:=b5j l d B7C DYB (BH 0x11242a2843a0e36b4076d6 y);rw[r1];rw[DH4 i (g.filterMap (d[·]?)).size d.size F.length_eq]
   rw[OR];rw[PX ((if ((g.filterMap (d[·]?)).size != d.size)=true then _ else pure (g.filterMap (d[·]?),H)))];rw[LK (by rw[LS i])];rw[oN];dsimp only;generalize g.filterMap (d[·]?)=j at X F i⊢;refine wpAny_storeSet_of (s:=CQ5) B rfl ?_ (AG i W);have a1:PY (ARK B6V update a DZG).get? {o with data:=.set j (BQC+1) H}:=by
    rw[QS (BUR DZG B (by rw[EHI];rfl)) EHI]
   rw[ESI (Y.trans (Heap.SameBut.update _ a _)) ⟨_,j,_,H,a1,D,rfl,F.trans u,X,AG r5 p,?_,?_,AG r4 n⟩]
   .rw[i,y];rw[DN 0x212523b51c25abf1c3f2f0dcd5765bca079e r2]
   .rw[AD List.length_cons (lq 0x3c092244e61dc6f3ae7a5b49241a6 r3)]
  .rw[BC f];rw[EWS];rw[ESI Y ⟨_,d,_,l,B,D,rfl,u,k,p,BH 0x7136d5d0d6a225e53c7eeb66 f,?_,n⟩];rw[List.length_cons,S];rw[DN 0x666b1058898722ff2393a326 T]
#where
universe Tab
universe L2
namespace L2
namespace Tab
open PySem
structure Came(rows:A7B)(i:Nat)(xs:kQ):Prop where
 len:BGU
 nd:C0B
 from_:kJ ECX
 all:∀j,j<i->(rows j).1∈B23
section
variable {prog:qG}{w:World}{A:Around}{R:rV}{I:qE}{fp wr:EI}{G:DYF}{n:Nat}{P:DLM}{St:BST}
def a9x(W:F41)(S:qE)(D:DL4){ld:Bool}{h0:Heap}(L:DA8 (b∉wr/\IB S))(rows:A7B)
  (K:E7V CSC) (l:BKZ (TK prog w h0 CQX ADE)) (hn:YQ) (hu:BK1 10) :
  EVK xs kQ (n-i=k->B15->DYY->(iL h0.get? ZP)->DSK S->Came rows i xs ->
   EZC f (A31 ld s'.heap S f) (E34 n) ->
   ENR):=by
 have E:DL5:=λh=>D DQD;have m:E7O:=λb F=>KN F;intro k;induction k with
 |zero =>
  rw[F4P];have X:i=n:= XD c0T O
  rw[EZW X r u];refine wpAny_pure (hR s' xs (u.mono m) ?_ d);obtain⟨o,es,ep,t,Y,rest⟩:=T;rw[GZ o es ep t EKO rest]
 |succ k ih =>
  rw[F4P];have a:LR:= ~~~c0N O
  rw[BP0 (AL3 i s a r (DW v s' hP J u))];obtain rfl:=K i v a hP;have U:A31 ld s'.heap S xs:=by
   obtain⟨o,es,ep,tb,Y,rest⟩:=T;rw[GZ o es ep tb EKO rest]
  have p:DA8 D3J:=ID o (u.heap b o (AC3 L) (QD y));rw[EYO (D0N ADE) (AM ADE) (c8w U BY8 ((l i a).keep p) (AZ6 sK 0xc5a20a69ea1a6 hu) (by have:=d.len;exact lq 0x27bc4e65f1fa42ff6e3261b080e7 hn a this) (DT h' f c q V Z))]
  .rw[LU j g (BQX M)];exact(l j (~~~b2E a g)).keep p
  have Q:E34 AO:=by
   rcases Z with⟨h1,rfl⟩|⟨h1,rfl⟩
   .rw[GA (by rw[yB d.len a1U]) d.nd BY8 (AZP g)]
    rw[EC4 (BQX M)]
    .rw[BM c j i]
     .rw[AD c h1]
     .exact d.all j DT3
   .rw[GA (EFU d.len) (by rw[AVD List.nodup_cons];rw[AY h1 d.nd]) BY8 (AZP g)]
    .rw[BW (List.mem_cons.mp M)]
     .rw[BA i AZ3 z]
     rw[EC4 (BQX z)]
    .rw[jX List.map_cons c j i]
     .rw[AD c List.mem_cons_self]
     .exact KN (d.all j DT3)
  rw[EB2 (ih AO _ f (~~~c5P O) a (F1L J F) AWE V Q) a0 N H C B]
  .rw[AD (B6M DB (APC D h F)) e]
  .show UQ;rw[AD (DB b (QD L).2) (QD p)]
  .refine hR a0 N (Moved.trans W.gtrans (ENP u.mono m F) H) C B;rw[AD (B6M DB (E2G F)) e]
#where
section
variable {prog:qG}{w:World}{A:Around}{E:qH}{s:qC}
def Z1(a:qB){Q₁:qH}
  (h:IR Q₁ s.heap.objs.size CH1) :
  codeAny KK A (.call (.builtin "set.__new__") (JY [A1D,a])) (BCQ Q₁) s:=by
 rw[JR codeAny_of_tree];show KF A.in1 ((do checkBuiltinCall "set.__new__" ⟨[.type "set",a],[]⟩;again (.builtin "set.__new__" ⟨[.type "set",a],[]⟩)));rw[AZ (wpAny_of_eq (PySem.F.newCall_set_1 a) (y3 ⟨AEJ PySem.F.plain_set_new,CJA PySem.F.entry_set_new⟩))];rw[CGD PySem.F.plain_set_new];unfold Builtin.«set.__new__» Builtin.Frozenset.newClass;have b:=sub_set_self;rw[cJ c];dsimp only
 wp_walk
 rw[cW wpAny_askSetting wpAny_pure];dsimp only;simp only[newObj];rw[AZ (uU wpAny_alloc)];rw[TD h]
def a7f{c:Bool}{h:Heap}{a:qE}(e:XY (ANJ c)):A31 c h a [] :=
 ⟨_,#[],0,_,e,BXA,rfl,List.Perm.nil,⟨rfl,rfl,λa b h1 h2=>AFK h2 (IF SetTable.fresh),λj d=>by simp[SetTable.fresh]at d,NJ 3 BO,F1,λi j e h1 h2=>AAN h2⟩,rfl,aI (0*5<7*3),aI (7<=8*0+7),rfl⟩
def a2I:DOI A1D:=AH6
def T0:DOI D2H:=AH6
def a6U{l:qE}{items:CY}{rows:A7B}{Q:qH}
  (hh:PH) (hl:DHF) (y:DUX) (u:EKA) (hn:D4U) (hu:DMJ)
  (h:EFE (AUI ->
   C44)) :
  CAW:=by
 rw[CEO]
 rw[TR]
 rw[CEC];cases r with
 |error e=>exact K
 |ok fl =>
  cases fl with
  |ret z =>
   rw[EZI]
   rw[TR]
   rw[CE0 (BG8 (BFW a) (AUI /\
     ACE))]
   .rw[CEN t EW3 a2I T0 "list"]
    rw[CEI IsList t]
    wp_walk
    rw[DVM]
    have q:l≠ACV:=by
     rw[A8W p]
    rw[C7V (by
     rw[CBM])]
    have m:DVA
       = BQU:=OB P
    rw[EZU (F5O (DVF)
     C96)]
    rw[F35]
    case hR =>
     rw[CEP (by
      rw[A8W S])]
     rw[CC8]
   .cases r₂ with
    |error e=>exact hr₂
    |ok fl₂ =>
     cases fl₂ with
     |ret r =>
      rw[CEJ]
      rw[TR]
      rw[CDW]
     |_=>rw[AYW]
  |_=>exact K.elim
def a6D:DOH A1D:=AH6
def a1P:DOH D2H:=AH6
def a6v{l:qE}{items:CY}{rows:A7B}{Q:qH}
  (hh:PH) (hl:BF9 s.heap.IsTuple) (y:DUX) (u:EKA) (hn:D4U) (hu:DMJ)
  (h:EFE (AUI ->
   C44)) :
  CAW:=by
 rw[CEO]
 rw[TR]
 rw[CEC];cases r with
 |error e=>exact K
 |ok fl =>
  cases fl with
  |ret z =>
   rw[EZI]
   rw[TR]
   rw[CE0 (BG8 (BFW a) (AUI /\
     ACE))]
   .rw[CEN t (v2 dU k (.seq items nl) d) a6D a1P "tuple"]
    rw[CEI IsTuple t]
    wp_walk
    rw[D0F wpAny_pyIter_tuple]
    have q:l≠ACV:=by
     rw[A8W p]
    rw[C7V (by
     rw[CBM])]
    have m:CYR (AO4 "tuple_iterator" BB8)
       = BQU:=OB P
    rw[EZU (F5O (CZK Walks.tuple)
     C96)]
    rw[F35]
    case hR =>
     rw[CEP (by
      rw[A8W S])]
     rw[CC8]
   .cases r₂ with
    |error e=>exact hr₂
    |ok fl₂ =>
     cases fl₂ with
     |ret r =>
      rw[CEJ]
      rw[TR]
      rw[CDW]
     |_=>rw[AYW]
  |_=>exact K.elim
#where
universe Tab
universe L2
namespace L2
variable {i:Nat}{it:qE}{t:SetTable}
namespace Tab
open PySem PySem.W
def a6n{α:Type}:ACG l CL i h (i<l.length) (([l[i]]++l.eraseIdx i).Perm l)
 |AFW,0,_=>AJ
 |AFW,AO,h=>by
  have a:=a6n l i yM;simp only[List.getElem_cons_succ,List.eraseIdx_cons_succ,List.singleton_append];exact(List.Perm.swap x (l[i]'(yM)) _).trans (List.Perm.cons x a)
def b3W{α:Type}(next:B0L):∀(fuel k:Nat) (left:CL) (out:kU),left.length=fuel->(pickOrder.go next fuel k left out).toList.Perm (out.toList++left)
 |0,k,left,out,h=>by
  rw[F2 D3Y List.append_nil List.Perm.refl _]
 |A6W,k,left,out,h=>by
  unfold pickOrder.go;have hi:next k % left.length<left.length:=D1S (A4N c0s)
  rw[AYT XR];refine nK (b3W next fuel CF _ _ (BJE (List.length_eraseIdx_of_lt hi) 0x2474f277238766d84af0b9cdf36d6)) ?_;rw[DZK Array.toList_push (a6n left _ hi)]
def b5s{α:Type}(next:B0L)(xs:kU):(pickOrder next xs).toList.Perm xs.toList:=by
 have:=b3W next xs.size 0 xs.toList #[] AJ
 rw[pV ((#[]:kU).toList=[]),List.nil_append]at this;rw[UI]
def slot_seti_next:DJ1 "__next__" "set_iterator.__next__" :=
 F1R "__next__"
  EFS (by rw[BEX])
def a0L:AMJ "set_iterator.__next__" Builtin.«set_iterator.__next__»:=entryFor_of_tree (by kernel_rfl)
def a1v(a:qB):DLA "set_iterator.__next__":=by
 rw[BN1]
def a0R:DJ1 "__iter__" "set_iterator.__iter__" :=
 F1R "__iter__"
  EFS (by rw[BEX])
def a6o:AMJ "set.__iter__" Builtin.«frozenset.__iter__» :=
 EYI "frozenset.__iter__"
structure SRaw(h:Heap)(a:qE)(es:AK1)(ep:Nat)(t:SetTable):Prop where
 ex:∃o,qZ/\o.ExactSet/\DPX
 ok:sW
 plain:D1Z
section
variable {prog:qG}{w:World}{A:Around}{E:qH}{s:qC}{a:qE}{es:AK1}{ep:Nat}
def SRaw.typ(x:A88):DNF:=EF2 x.ex h2.1
def c1H{Q:fM}(e:DNF)(h:BVW):AQM Builtin.List.listLengthHint a:=by
 unfold Builtin.List.listLengthHint;rw[BVC e PySem.F.slot_set_len.lookup];generalize d:("set.__len__" : String)=f
 wp_delta
 rw[show D2 splitId f ("set","__len__")from by subst d;rw[ZC]];subst d;rw[CKK "set" e AH6];refine wpAny_ite_split (λc=>absurd c AI) wP;refine wpAny_ite_split wP (λc=>absurd FV c);rw[AZ (wpAny_typeOf e ?_)];rw[TD h]
noncomputable def a1a(w:World)(a:qE)(ep:Nat)(es:AK1):AK1:=if AUE then pickOrder (w.params.setOrder a ep) es else es
def ord_perm:(ADZ).toList.Perm es.toList:=by
 rw[bW a1a]
 .exact BS b5s
 .exact List.Perm.refl _
noncomputable def a4k(w:World)(t:SetTable):B0L
 |0=>0
 |AO=>if AUE then 0 else A8V
noncomputable def SetIt(w:World)(h:Heap)(it a:qE)(i n ep:Nat)(t:SetTable):Prop:=∃o,AEC it/\ACZ "set_iterator"/\C36 #[AE0 B3H,rawInt i,CC,rawInt n,AE0 ep]
def b7n{Q:qH}(D:A88)
  (q:DSH "set_iterator" #[DB2,DB2,CC,AE0 es.size,AE0 ep]):BYT a:=by
 rw[CAB o b D.ex];rw[BRE ty PySem.F.slot_set_iter (nR PySem.F.slot_set_iter ty a6o ?body PySem.F.args_set_iter_1)]
 case body =>
  rw[A6S Builtin.«frozenset.__iter__» Builtin.Frozenset.slot0 AJU];unfold Builtin.Frozenset.sizeOf setEntries;rw[AZ (dS wpAny_bind (wpAny_setState_of e1 b AER AJU))];rw[A6S setDrawn setsByText (D6K e1 b AER)];dsimp only;rw[AZ (CQL wpAny_askSetting AJU)];dsimp only;rw[BC (λz=>by
   have c:=(BS Bool.and_eq_true ▸ z).2;rw[EGG c];rw[AX D.plain c c])]
  rw[rW];rw[E47 (wpAny_setEpoch_of e1 b AER ?_) "set_iterator" slot_seti_next.lookup]
def SetIt.typ{a:qE}{n ep:Nat}(x:DP7):vK it "set_iterator":=EF2 x h2
def b7k(D:A88)(f:DZ8)(hi:D6D):SetTable.below t.place B3H=i:=by
 rw[xC d b (L7 D.ok.ris B3H)];have c:=D.ok.size;cases i with
 |zero =>
  rw[ABJ (BFL Nat.eq_zero_or_pos (AP9 0))]
  rw[NQ]
  .have:=b 0 z;rw[EV this (Nat.not_lt_zero _)]
 |succ i =>
  have hs:AU7=A8V:=by
   show BVR A8V=_;rw[f,YF]
  rw[hs]at d b e⊢;rcases Nat.lt_trichotomy (SetTable.below t.place A8V) AO with z|z|z
  .have:=e i (~~~c0j z) (yQ 0x288f82733d9eb7f157 hi);rw[QN 0x33a13065d8a6077]
  rw[NQ]
  .rw[TB (b AO z) (D.ok.ris i AO AZ3 (yR 97351043426285015 z))];rw[A8L 0x6bae9d7124e4493b211d8]
def a9J(D:A88)(d:A8O){Q:MM (qD (qB×Nat))}(hi:D6D)
  (h:Q ((eT ADZ).map λe=>(e.2,AU7)) s):EE (setNext a B3H i ep):=by
 obtain⟨o,e1,_,f⟩:=D.ex;unfold setNext setsByText;rw[AZ DV4];rw[DXG];rw[BJ7 AUE]
 .rw[CO DGZ,xM];rw[A6S setWalk setsByText DV4];rw[DXG];rw[CO DGZ];rw[OA wpAny_askSetting AJU];have g:∀j,AP9 j=0:=λj=>by
   cases j with
   |zero=>rfl
   |succ j=>show BVR _=0;rw[if_pos b]
  rw[g]at h⊢;rw[AU5 a1a BJI];exact h
 .rw[MA hf' DZ8 b]
  rw[BC (show ¬CY1 from b)];rw[BC (λz=>by
   rw[EGG z];rw[A3J D.plain])]
  rw[OR];rw[PX (jP (iE (! t.led) (! es.isEmpty)) (eH ()))];rw[LK (by rw[d,hf'];simp)];rw[cW wpAny_pure wpAny_pure];rw[b7k D hf' hi];rw[AU5 a1a D3M];rw[UX c es.size]
  .have hp:=a3a (xs:=t.place) (i:=i) (AG D.ok.size c);rw[hp];have hs:AU7=A8V:=by
    show BVR A8V=_;rw[hf',YF]
   rw[hs]at h;rw[Array.getElem?_eq_getElem c]at h⊢;exact h
  .rw[NY Array.getElem?_eq_none]at h⊢;exact h
def b5a{Q:B0Y}(I:EI3 BM2)(D:A88)(d:A8O)(hi:D3A){v:BUQ}(f:CB ((ADZ)) v)
  (q:BLT (ECJ DGO AO) (oX v.2 RP)):B11:=by
 rw[CYM g b D.ex];rw[F1N]
 case body =>
  rw[F0N (wpAny_fieldsOf f1 b ?_) (wpAny_setState_of e1 e AER A63)];rw[AZ (a9J D d CS8 ?_)];rw[f];rw[D1K];have g1:D2 (DG3 it (CLJ CZ7)) it (Obj.mapFields D3C g):=yA f1 (Obj.isFreed_of_fields (Obj.data_mapFields b _));have c:=Obj.data_mapFields b D3C;rw[EL5 b];rw[OE (wpAny_setField (s:=GI _) g1 c AJ)];rw[RT (DK (y3 (q _ (GT (yA g1 (Obj.isFreed_of_fields (Obj.data_mapFields c _))) ?_ ?_) (rG Heap.SameBut.update .. (Heap.SameBut.update ..)))))]
  .rw[CM Obj.cls_mapFields Obj.cls_mapFields f2]
  .rw[Obj.data_mapFields c];simp[rawInt]
def b7m{Q:B0Y}(g:PH)(I:ECJ BM2 es.size)(D:A88)(c:A8O)
  (q:E9R):B11:=by
 rw[DR h f1 f2 e id I];obtain⟨od,e1,e2,f⟩:=D.ex;rw[F1N]
 case body =>
  rw[F0N (wpAny_fieldsOf f1 e ?_) (CXO A63)];rw[AZ (a9J D c BO ?_)];rw[DH4 d C5G es.size ord_perm.length_eq]
  rw[WW Array.getElem?_eq_none b2h d];rw[D1K];rw[EL5 e];rw[AMF CB8];rw[EZR]
def SetIt.at{h h':Heap}{a:qE}{n ep:Nat}(x:BO4 (BEU h))(k:C7R it it):BO4 DGO:=EOI x
def SRaw.to{h h':Heap}(x:AKD)(k:E5W):BBK h':=⟨EOI x.ex,x.ok,x.plain⟩
def a4z:AMJ "set_iterator.__iter__" Builtin.«dict_keyiterator.__iter__» :=
 EYI "dict_keyiterator.__iter__"
def a6z(a:qB):DLA "set_iterator.__iter__":=by
 rw[BN1]
def b4Z{n:Nat}{Q:qH}(I:DP7)(h:DR1):AQM pyIter it:=by
 rw[BRE I.typ a0R (nR a0R I.typ a4z ?_ a6z)];show KF _ (PU ret it);exact wpAny_pure (oQ "set_iterator" _ I.typ slot_seti_next.lookup h)
def b8i:C5G=es.size:=by rw[ACH ord_perm.length_eq Array.length_toList]
def b5b(p:PH)(J:qE)(j:a≠J)(g:A8O) :
  EWJ a E9F (EI3 (SetIt w h J a)) AKD where
 sub:=λb d=>A70 (List.mem_singleton.mp d)
 frame:=xZ k ⟨SH (bV).at (k J List.mem_cons_self o e),SH (bU).to (k a B0K o e)⟩
 item:=EXX c (by
  rw[ER f (i<C5G) b8i hi]
  exact b5a bV bU g hi (Array.getElem?_eq_getElem f) λh' m l=>B66 (c _ h' s.toks (LN (Array.getElem?_eq_getElem f)) ⟨m,SH (bU).to (l.extBut a o j e)⟩) d l.extBut d)
 done:=λs Q E st c=>b7m p bV bU g λh' n=>B66 (c h' s.toks) d n d
 self:=λ_ _ _ _ st c=>b4Z bV c
def SRaw.lt{h:Heap}(x:AKD):B36:=let ⟨_,h1,_⟩:=x.ex;Heap.lt_size h1
def c2M(b:A8O):cS KdlSrc "set" a a es.size E9F (λh=>AKD) where
 type:=DM1
 there:=EA0
 keep:=VB D d (SH D.to (d a NA o e))
 notList:=AI
 notTuple:=AI
 hint:=ENX c1H
 iter:=VB c D (ENF (b7n D q) (b5b c _ DCB b))
#where
universe Tab
universe L2
namespace L2
open PySem PySem.Spec PyProof.Rows
section
open PySem.W Tab
noncomputable def a8c(P:qG)(w:World)(a:qE)(xs:kQ):HO:=C3A (∃es ep t,AKD/\DXV (Tab.ent P w)/\A8O)
def c5i{P:qG}{w:World}{H:Hp}{h:Heap}(ok:TN){r:qI}{b:qE}(x:ZQ F0 r):TK P w h r b:=by
 obtain⟨a,e,q⟩:=x;rw[CP];obtain⟨_,its,c,o,h1,h2,n,d⟩:=(AAX (A1W P w h b D5K) (ok b _ q));refine⟨o,its.toArray,n,h1,DJY,d,?_⟩;have:∀{r:qI}{its:AN},ADA r.map V.int its->ItemsAre D65 r its:=by
  intro r;induction r with
  |nil=>intro its c;cases c;rw[A4J]
  |cons x r f =>
   intro its c;cases c with
   |cons h t =>
    rw[MK tk h];exact .cons (GX intKind_is _) (f t)
 simpa using this c
inductive rSetT(K:qF)(P:qG)(w:World)(ys:AA)(H:Hp)(Q:VK):Prop
 |mk (k:Bool) (p:qE) (vs:AA) (rss:LLI) (_:DMT) (_:E31 vs) (_:TM) (_:D4T) (_:∀a xs,yN->C0B->(∀r,r∈xs.map (·.1)↔r∈rss)->WT xs B7X->NZ a (yZ x9)):ELT rSetT
inductive rSortS(P:qG)(w:World)(ys:AA)(H:Hp)(Q:VK):Prop
 |mk (a:qE) (xs:kQ) (_:DMS) (_:WV x9) (_:(B1X B7X)) (_:(B1X (0<VD EN))) (_:NS) (_:EWG (qN.Perm (xs.map (·.1)))):EKV rSortS
section
variable {X:Cx}
def b6u(K:qF)(P:qG)(w:World)(R:GG)(hc:DV)(hK:AT:=by rfl)(hP:kO:=by rfl)(hw:kP:=by rfl):eJ A1D DOT:=by
 subst hK hP hw;rw[aA ys us rv];obtain⟨k,p,vs,rss,rfl,O,hI,N,q⟩:=h;rw[T6 C rv.one C];have M:X.A.handled=none:=CUE;have step:EM0 (∀(h':Heap) (tk:Nat) (xs:kQ) (c:A7B),AB2 its.toArray.size (DC2/\E7M) ->
   a1w X.prog X.w (CEV X.w.params.followText) h' s.heap.objs.size xs->Came c its.toArray.size xs->ACE->nT hQ aJ):=by
  intro its r h' tk xs c d m g y;obtain⟨o,es,ep,t,e1,e2,S,T,U,V,e7,e8,W⟩:=m;have A:its.toArray.size=rss.length:=by rw[<-GE,r.length];simp
  have E:yO:=aY;have D:kJ B7X:=λx G=>by
   rw[EAF];exact A5T d l
  refine EXT a8c xs y ⟨⟨es,ep,t,⟨C2Y o S,U,V⟩,T,W⟩,jS e1,λh1 h2 (EOJ q1) kk=>EOJ (q1.to kk)⟩ (q _ xs E g.nd (MN r) D);constructor
  .intro hr;rw[IV x G hr];rw[EAF];rw[CQN (d j l).1]
  .intro hr;rw[lG j l hr];have n:j<its.toArray.size:=by rw[A7F A l]
   rw[GL h1 (d j n).1 l h1];rw[C5E]
   rw[AD h1 (g.all j n)]
 have N2:EM0 (∃c:A7B,(∀i v,i<its.toArray.size->BV6->uA CR6)/\r6 its.toArray.size (DC2/\E7M)):=by
  intro its r;have f:∀i,∃x:ACC,i<its.toArray.size->(∀v,BV6->uA NB)/\nY EN/\B7X:=λi=>by
   rw[UX hi its.toArray.size]
   .have hi':i<vs.length:=by rw[r.length];simpa using hi
    rw[YJ eu C (BQ9 r.get hi')];obtain⟨L,Z,b,Y,hb⟩:=A89 hI.2 i hi';rw[AX Y C C];rw[FT (L,b) (DF (GJ (wM F) Z b hb))];have:AJ6:=BL F
    rw[WD eu];rw[DXN]
    exact this.symm
   .rw[AY ([],0) (DYZ hi)]
  rw[BA (λi=>Classical.choose (f i)) (λi v hi F=>(EDI).1 v F) (XO (EDI).2)]
 cases k
 .rw[A85 pl hz O];rw[F4Y a6U pl.isList]
 .rw[A86 pl hz O];rw[F4Y a6v pl]
def b3a(P:qG)(w:World)(hc:DV)(hP:kO:=by rfl)(hw:kP:=by rfl):D9T D66:=by
 subst hP hw;rw[aA ys us rv];obtain⟨a,xs,rfl,ha,L,R,hn,q⟩:=h;rw[CX2];obtain⟨⟨es,ep,t,D,z,M⟩,_⟩:=(CGP (DZ2 a8c xs) (BJB ha));obtain⟨d,G,te⟩:=R5 (f:=CH7 Tab.ent) ((ord_perm (w:=X.w) (a:=a) (ep:=ep)).trans z) rfl;have A:FW d YS:=λx B=>G.mem_iff.mp B;have g:es.size=d.length:=by rw[DQ4 z.length_eq G.length_eq]
 have hI:LL E7P ((d.map (·.1))):=⟨BHX,OM v (by
  rw[AZ5 e];cases e2:d[i]? with
  |none=>rw[FH e2]
  |some x =>
   rw[FH e2];rw[QQ EN (L x (A7Q A e2))])⟩
 have W:ML E7P B7D:=a1z (λx:ACC=>NB) d;rw[VT S]
 rw[ER l (HK d.length) G.length_eq hn]
 have p:EFG Y J J B7D a J Y:=λY J k=>by
  rw[EY3 (c2M M) (~~~lq 0x11e784104c21e2a9a1e2e1346c81b8a157 g S l) j B7D (by
   rw[CBS d.length]
   .rw[CBC j.1 g]
    rw[C7K F O j];rw[<-Array.getElem?_toList,<-te,List.getElem?_map,XR]at F;injection F with F
    rw[CAG O F]
   rw[CBF j.1 g])]
  rw[ER6]
 rw[AE hl W.length TT (a6c I hI W)];obtain⟨T,t1,t2,t3,t4⟩:=a1y W GE;rw[F59 p (λr hr=>by rw[IV x B hr];exact R x (A x B)) (lq 0x6c60327aa08821f4d5e40dae S l)];obtain⟨m,p1,p2⟩:=R5 (f:=CI2) hp t1.symm;rw[CDF Z (C0Y k1) E m N (by
  rw[CDU N r3 a1 q1 r3 q1 q1];rw[CAM e5 (AHV B7D t.1) t1]
  rw[EWK a0 e5 r3])]
 have U:BZ (VD ((m.map (·.2.1)))):=by
  rw[ERZ K K K];exact lq 0x11c692ec7037e827700c05cba0d5e40daf S l K
 rw[CBA O ((m.map (·.2.1))) N E N]
 rw[CDG I2 (BMV Z.laid h1.objs.size (o:=DD ((m.map (·.2.1))))) U O I2 (BWJ ((m.map (·.2.2))) Z.hok.fresh (C30 n) (by rw[MR (p1.map (BCT ABN)) t3];exact this.trans (G.map _)) ?_)]
 .rw[AZ5 n];cases e2:m[i]? with
  |none=>rw[eS n n]
  |some t =>
   rw[C75 n n E]
 rw[CEA B C (E x B) E C C]
variable {e:Expr}{es:BN}{t:TA}{p pos:Pos}
def c4w(K:qF)(P:qG)(w:World)(j:GG)(h:D5X)(i:D7R)(d:ET)(f:DV:=by rfl)(b:AT:=by rfl)(c:kO:=by rfl)(hw:kP:=by rfl)(g:CI:=by rfl)(a:HV:=by rfl):DFO DOT:=(F0F (b6u K P w j f b c hw))
def c1v(P:qG)(w:World)(g:BSY)(h:BU9)(c:ET)(d:DV:=by rfl)(b:kO:=by rfl)(hw:kP:=by rfl)(f:CI:=by rfl)(a:HV:=by rfl):xT "sorted" D66:=(CPE (b3a P w d b hw) a3T)
#where
#where
section
variable {A:Around}{E Q:qH}{H:Hp}{X:Cx}{e:Expr}{kw:qS}{pos:Pos}{prog:qG}{s:qC}{t:TA}{vs:AN}{w:World}
section
variable {a b:Expr}{ta tb:TE}
#where
def a7j:F1M
 |[],[],_,_,_,_,_=>rfl
 |[],A7E,_,_,_,_,h=>EMR
 |fJ,[],_,_,_,_,h=>EMQ
 |fJ,A7E,ra,rb,na,nb,h=>by
  rw[F5I (by
   rw[EQN]
   .rw[B4C (QO h x)]
    .rw[BB z G4 y]
    rw[sG i]
   .rw[B4C (XN h y)]
    .rw[BB z G4 x]
    .exact k y z)]
  rw[EXE a7j]
  .rw[B8J BLU]
   rw[FJ (xD hv) f]
   rw[NQ]
  .rw[B8J (XN h v)]
   rw[FJ (xD hv) c]
   rw[NQ]
structure Srt(rss srt:LLI):Prop where
 ri:DAA
 nd:srt.Nodup
 mem:EEL
def Srt.eq{rss a b:LLI}(h:E0S)(g:C3S):a=b:=a7j h.ri g.ri h.nd g.nd λv=>E9G
section
open PySem.SeqAt
open PySem.AutoSeq1 (wpAny_loadPart')
open PySem.MeetsSeq PySem.MeetsSeq2 PySem.MeetsSeq3
def a6B(l b p q:qE)(k k2:Nat)(dd o:IM)(sl z:YX)(n m:Int)(t u:Tok)(ns ms:qI) :
  EEP
   (B8F (CHB (.seq #[A3D n,FZ] k)/\AZR (v2 dU o (.seq #[WE m u,AHC] k2) z) /\
    B6N A.in1 FZ AHC decide BI3 /\
    (∀(prog:qG) (w:World) (E:qH) (Q:qH),CTY HT.lexLt->BYR A.in1 (B51 FZ AHC)) /\
    A82 BOD s)) :=
 (tG (by
  rw[cJ j];rw[QG D B r v h];have f2:=AutoSeq1.sub_tuple_tuple
  rw[EGB (wpAny_loadPart' D) (wpAny_loadPart' B) (dX=none/\s'=A81 /\
   ((rest=[(DMB,Value.int m u),jY FZ q]/\A82 BOD A81)∨(rest=[(FZ,AHC)]/\A82 (HT.lexLt ns ms) A81) ∨
    (rest=[]/\A82 false A81)))]
  case turn =>
   rintro⟨y,x⟩ rest b s' ⟨f,rfl,⟨a,hR⟩|⟨a,hR⟩|⟨a,hR⟩⟩
   .rw[C54 a]
    rw[CAC]
    subst hy hx hrest;rw[HT.lexLt_cons]at hR;rw[A4K C c (HT.eqAt_int A.in1 A81 n t m u)];rw[CAV C];cases e with
    |true =>
     rw[AZ9 c.mp rfl]at hR
     wp_walk
     rw[QQ rfl (VG (EQ hR))]
    |false =>
     rw[EKL c.mpr];have i:=HT.rcLt_int A.in1 A81 n t m u prog w
     wp_walk using i
     rw[BUH]
   .rw[C54 a]
    rw[CAC]
    subst hy hx hrest;rw[CAV r];rw[GD ns ms]
    .rw[A75]
     wp_walk
     rw[FY rfl rfl (VR rT)];rw[e,G4]at hR;exact hR
    .rw[AHS];have i:=APZ v
     wp_walk using i
     rw[BUH]
   .cases a
  case fin =>
   rintro⟨F,G⟩ s' ⟨f,rfl,⟨a,hR⟩|⟨a,hR⟩|⟨a,hR⟩⟩
   .cases a
   .cases a
   .simp only at f;subst f
    wp_walk
    rw[EIF]
  case h =>
   rw[QQ rfl (EL B0V)]))
#where
section
variable {qK:DC}{σ:St}
def c4b(I:AL){l b a c:qE}{n m:Int}{ns ms:qI}(L:C5Z l AUV)(K:C5Z b (hJ m XE))(C:BM0 v3)(D:C5Z c D68)
  (y:BK1 9) (h:DHP):oM (B51 HQ F0):=by
 rw[AD3 its P (I.tuple L) o R (I.tuple K)];obtain⟨e,f,rfl,⟨t,rfl⟩,U⟩:EXR its n a:=by
  rw[ETL P]
 obtain⟨Y,Z,rfl,⟨u,rfl⟩,W⟩:EXR o m c:=by
  rw[ETL R]
 rw[pI U W];rw[BP5 F g k];rw[AS2 B v r z j d k2 i p2];rw[B6D g d i g d i];obtain⟨G,S,N,_⟩:=I.tuple C;obtain⟨J,T,O,_⟩:=I.tuple D;exact F2K F (LN j) (a6B l b a c k k2 dd v sl z n m t u ns ms)
  ⟨F,j,(EqV.ints (k:=true) C D).at I (C5A 0x42163268ec02a4be6 y) rfl rfl,λprog w E Q M=>(HT.lt_tupInts N O (a2y S) (a2y T) (C5A 0xc5a20a69e4be6 y) M:BYR A.in1 (compareOp .Lt CC XE)),
   EGC (Value.bool (HT.lexLt eO CJR)) DHP⟩ (BH 0x70f128744be6 y)
#where
section
variable {I l S:qE}{R:rV}{h₀:Heap}
noncomputable def V5(h h':Heap):Prop:=DN6
def b5N(B:DD0)(hh:PH)(L:l≠I)(r:S≠I)(J:D29 I)(K:D29 S)(hl:BK7 h₀.IsList)
  (D:F5M X Y AL9 X Y B (richCompare .Lt X Y))
  (hR:∀v h' tk,B5O (argBest B D3E)->EGN->A59 v aJ) :
  ∀(k j:Nat) (h:Heap) (t:Nat) (p:qB) (c:Nat),vs.length-(j+1)=k->NK<=vs.length->h.IsListIter I l NK->AL9->IP vs E1E p->kF S (v2 vA none (.seq #[p,p] c) #[]) ->
   codeAny KK A (CML "min.loop" [BGH,.none,AM S]) R (cM s h t):=by
 rw[ETK m]
 rw[EU3 (EVC hh I l L vs.toArray) G];have gI:ER1 AL9 I EGN:=EUU u u J;have gS:∀{h:Heap}{f:DW1},AL9->V5 h₀ (h.update S f):=λg b o e=>EWO CS0;rw[EYP AL9 (by
  rw[EYS hl])]
 intro k;induction k with
 |zero =>
  rw[F5A];have F:BPF NK:= AU 0x11e445716d92b4a725b90d6170fad366d6 u T
  rw[EWH (EP4 (GH (BJ9 G F y) lst g))];have a:=EF0;rw[E5O BS6];refine wpAny_updateSeq a rfl (wpAny_bind B2V);exact hR p _ tk (RZ F n) (gS E3R)
 |succ k V =>
  rw[F5A];have x:j+1<vs.length:= BH 0x291e662bf1df8ecd21ab6d7 u
  rw[EWH (AL3 NK _ (AG G x) (GH y lst g) (DT v h' tk Z q d))];rw[MA U (B5O NK) Z]
  rw[AE a EF0 H E3R];rw[AD5 (tryCatch (holding [v,v] (B51 v p>>=_)) _)];rw[AVR (dS wpAny_holding (AK D NK E1E v p _ _ H U n ?_))];rw[vB (cT wpAny_holding wpAny_truthy_bool) B2V];cases P:B NK (argBest B j)with
  |true =>
   simp only[if_true];rw[OR];refine wpAny_updateSeq a rfl DDN;rw[m];rw[DR oI M N O id ED];rw[DNL (E23 v _ DJ9 x ⟨oI,AWM r M,N,O⟩ (gS H) (by simp only[argBest,P,if_true];exact U) (yA a rfl))]
  |false =>
   simp only[Bool.false_eq_true,if_false];rw[D5Y];rw[m];rw[DNL (E23 p c DJ9 x ED H (by simp only[argBest,P,Bool.false_eq_true,if_false];exact n) a)]
#where
def a3U(a v:qB):argsOk "min" (CTL KG v):=D0Z
def a8Y{id:String}{b:Builtin}{args:AN}(i:EY builtinKind id)(hp:DY plainId id)
  (h:AMJ id b) (g:argsOk id (aX args))
  (d:FN KK A.in1 (b DAF) (λfin s'=>match fin with
   |.done f=>(match (Except.ok f:Result)with | APK v=>BL0 | rK=>False | BR8=>E1A)
   |.again c'=>AW c'.quiet/\codeAny KK A c' (λr s'=>match r with | APK v=>BL0 | rK=>False | BR8=>E1A) s') E s) :
  EAS (.builtin id):=by
 rw[AS4 (codeAny_call_builtin hp h ?_)];simp only[checkBuiltinCall,i];cases a:Manifest.signature? id with
 |none=>rw[TD d]
 |some sig =>
  have c:AIH (Bind.checkArgs id sig DAF):=by simpa only[argsOk,a]using g
  simp only[c];rw[TD d]
def b6w{l:qE}(u:DD0)(N:PH)(t:BK7 s.heap.IsList)
  (k:F5M O P BZE O P u (B51 O P))
  (U:vs=[]->∀h' tk,C7L->Q .none aJ) (h1:∀v h' tk,B5O (argBest u D3E)->C7L->Q v aJ) :
  EAT (.builtin "min") "default" .none:=by
 rw[ETK a]
 obtain⟨ol,I,_⟩:=id t;have D:mW l:=Heap.lt_size I;refine a8Y PySem.F.kind_min PySem.F.plain_min PySem.F.entry_min (BS a3U) ?_;show KF A.in1 (EVM>>=_);rw[AZ (wpAny_of_eq (A2S (EVM=pure [none,AQ .none])) ?_)];rw[rW];rw[BNS (wpAny_pyIter_list t ?_) F1];rw[a];have M:AKI=GM:=size_push' ..;have m:DIU:=Nat.ne_of_lt D;rw[ER c (AKI≠s.heap.objs.size) M DCH]
 rw[RT (HR (AEJ PySem.F.plain_min_loop))];have r:V5 s.heap (BXO w6):=ID x AS7;have gI:A3N (BXO w6).get? APN :=
  B0C
 have gS:AVG BXO w6 AKI w6:=JV;have R:D28 s.heap.objs.size:=ZM Heap.get?_none_of_le;have K:D28 AKI:=Heap.get?_none_of_le (by rw[BB M Nat.le_succ _]);generalize AKI=S at c gS K;rw[EU3 (EVC N s.heap.objs.size l m vs.toArray) J];rw[EYP BZE (by
  rw[EYS t])]
 rw[CY8 (seqItems? (.ref _))];rw[AES gS];rw[AD5 (CS3 (AOS s.heap.objs.size))];have L:ER1 BZE s.heap.objs.size C7L:=EUU X X R;rw[BM n vs []]
 .subst n;rw[AVR (EP4 E9W)];rw[AZ (uU wpAny_rule)];exact U rfl h' tk DR9
 .have hpos:D5E:=List.length_pos_iff.mpr n;rw[AVR (AL3 0 _ (AG J hpos) E9W (DT v h' a0 V p d))];rw[MA Y (B5O 0) V]
  rw[AE f (d S _ (BL c) gS) T DR9];rw[E5O (DF #[v,v])];refine wpAny_updateSeq f rfl ?_;rw[a];rw[DR Z F G H id CV];rw[TD ⟨AEJ PySem.F.plain_min_loop,BI b5N h₀ s.heap s s u N m c R K t k (λv' B q C y=>h1 v' B q C y) _ 0 _ _ v _ rfl hpos ⟨Z,AWM c F,G,H⟩ (ID o (EWO (QD T))) Y (yA f rfl)⟩]
noncomputable def PrI(K:qF)(H:Hp)(vs:AA)(rss:LLI):Prop:=EPU (B9N r p (DC3/\BVI/\DMC/\DJT))
def PrI.same{K:qF}{H':Hp}{vs:AA}{rows:LLI}(h:EA3)(s:BP):PrI K H' vs rows:=(BDI (let ⟨n,r,p,a,e1,e2,e3,e4⟩:=A3G;⟨n,r,p,a,e1,e2,D57,FX e4⟩))
def PrI.snoc{K:qF}{vs:AA}{rows:LLI}(h:EA3){n:Int}{r:qI}{p a:qE}(hp:DMC)(c:DJT):PrI K H (vs++[FZ]) (rows++[BJR]):=by
 rw[FT BTS BW9];rw[BYD]
 .rw[BHO];rw[AD CJM A3G]
 .have hi':vs.length<=i:= eM O2
  rw[CQC hi']at e;have b:DD8=0:=by rw[vR A8K]
  rw[FH b];rw[APC List.getElem?_append_right DE hi',<-DE,b];exact EXY hp c
def a5U{rss:LLI}:∀(k:Nat),k<rss.length->E13<=k/\∀j,AJK->jM DZH (rss.getD E13 [])
 |0,_=>⟨BO,λj a=>IU (Nat.le_zero.mp a) G4 _⟩
 |CF,b=>by
  rw[NG (a5U (rss:=rss) k (~~~a2q b))];rw[bW argBest]
  .rw[EQU BO]
   .rw[BB e G4 _]
   .have h3:=h2 j DSU;cases e2:HT.lexLt DZH (rss.getD CF [])with
    |false=>rfl
    |true=>rw[AX (A1B a1D e2 hb) h3 h3]
  .rw[EQU (vS a1U)]
   .rw[e];simpa using hb
   .exact h2 j DSU
inductive rMinD(K:qF)(xs:AA)(H:Hp)(Q:VK):Prop
 |mk (p:qE) (ys:AA) (rss:LLI) (_:sF) (_:BHU) (_:PrI K H ys rss) (_:(rss=[]->Q .non H)) (_:∀v r,v∈ys->wW->(B9N t q (r=DAT/\B2C/\DMD/\DJS))->DX r' rss (jM r' r)->AIY):lP rMinD
section
variable {p kp np:Pos}{nk:Nat}
def c4v(K:qF)(T:GG)(R:D5V)(S:D7P)(N:rX)(O:DV:=by rfl)(M:AT:=by rfl)
  (P:backTo pos BR4=AND C2F:=by rfl) (y:ABD BR4:=by rfl) :
  CU (ETB "min" ZU "default" .none) (AQZ rMinD):=by
 subst M;refine⟨lQ Q h ?_⟩;refine wpAny_Call_Name_kw (EMP R S c2o);refine callWith_kw (BU0 N.h us zz) P y;rw[EJ2 f Y A zz Constant_none];obtain⟨l,ys,rss,rfl,hs,C,U,A⟩:=A;rw[T6 Z Y.one Z];rw[RK B sq hz f.list hs];have b:its.length=rss.length:=by rw[<-B.length,C.1]
 have c:GC i Nat w qB (CB its w) (B9N r p (DC3/\LH w p/\FZ∈ys/\C5K p AUV/\PY H1 D5K)):=λi w hi=>by
  have d:i<ys.length:=by rw[A7F B.length hi]
  obtain⟨n,r,p,a,e1,e2,k,m⟩:=A89 C.2 i d;obtain⟨v',q,F⟩:=B.get (List.getElem?_eq_getElem d);rw[AX hi q q];rw[eS F F];exact⟨n,r,p,a,e1,rfl,AFB e2 List.getElem_mem d,k,m⟩
 refine b6w CZ9 (f.ok.hd O) sq.isList (λh tk i j w vj Q' E' g hi x D=>?_) (BT e h' tk g) (DW v h' tk E g)
 .obtain⟨n,r,p,a,e1,rfl,_,k,m⟩:=c i w hi;obtain⟨n',W,p',a',f1,rfl,_,J,L⟩:=c j vj x;refine c4b C8D (SqT.of k) (FU J) D4G (FU L) (C5A 0xca6596e1f6d846b12a6 T) ?_;rw[C32 e1 f1 D];exact D
 .refine GJ .non H1 C8D (U ?_);rw[e]at b;exact List.length_eq_zero_iff.mp b.symm
 .obtain⟨n,r,p,a,e1,rfl,e2,k,m⟩:=c _ v E;have o:its.length-1<rss.length:=by
   rw[PD (NE E) 0x90f8d363ecef1b220deecbd57 b]
  obtain⟨b1,G⟩:=a5U (rss:=rss) _ o;refine GJ FZ H1 C8D (KH (A _ BJR e2 DKP (EXY k m)) W z);rw[AH8 x D59];have:=G j (by have:=(List.getElem?_eq_some_iff.mp x).1;rw[oK c5F b]);rw[C32 e1 x this];rw[UI]
#where
section
variable {te:TE}{p2:Pos}
#where
section
variable {I l S:qE}{R:rV}{h₀:Heap}
#where
section
variable {p kp np:Pos}{nk:Nat}{d:Int}
#where
section
variable {es:BN}{p:Pos}
#where
#where
section
open PySem.W
variable {X:Cx}
section
variable {tg:Expr}
#where
section
variable {o e:Expr}{es:BN}{to:TE}{t:TA}{qO qM:Pos}
#where
section
variable {k:Nat}{ps:AC}{sp:Sp}{x:Str}{p pos qM:Pos}{e:Expr}{es:BN}{t:TA}
#where
#where
section
section
variable {X:Cx}
variable {e:Expr}{es:BN}{t:TA}{p pos:Pos}
#where
#where
section
open PySem.W
variable {X:Cx}{prog:qG}{w:World}
section
variable {κ:Type}[ALJ]{knd:DS9}{A:Around}{E:qH}{s:qC}
def c2O{d a:qE}{xs:TW κ BEQ}{k:κ}{v:qB}{Q:qH}(t:knd.room A)(c:EA4)(z:EBH)(hz:bH)
  (h1:∀p,EE2->Q GW ADQ)
  (h2:EED->EKT (storedH xs k a v) (Q v E1I)):EE (E2F v):=by
 obtain⟨o,es,ep,f,u,hd,i,g,l⟩:=z;unfold dictSetDefault
 rw[D1H]
 rw[u7 knd.pyHash t c];rw[AZ (wpAny_dictFind_heap (s:=ADQ) t c f hd i g l (MN h) λj p r=>?_)]
 .have hnot:k∉B23:=not_mem_keys_of_get h;have b:=atKey_none_of_get h;rw[AZ (dS wpAny_rule (nV (BI wpAny_updateDictKeys hz (by have e:=size_of_entries i;exact b2e hz e) s ADQ f hd) (h2 b _ ⟨_,_,BQC,yA f (Obj.isFreed_of_dict (Obj.data_mapDictKeys hd _)),u.mapDictKeys _,Obj.data_mapDictKeys hd _,?e,?k,?n⟩ AJ2)))]
  case e =>
   rw[storedH_new b];simp[i,entryOfKey]
  case k =>
   rw[storedH_new b];intro x m;rw[DB1]
   .exact knd.keeps (g x q) f hd AJ2
   .rw[AD B24 (knd.keeps c f hd AJ2)]
  case n =>
   rw[storedH_new b,List.map_append,List.nodup_append];rw[FY l AJ (λx m y B e=>hnot ?_)];have:y=k:=BL B
   rw[<-this,<-e];exact m
 .rw[AZ (wpAny_dictEntries (s:=ADQ) f hd ?_)];rw[F2 (entry_at i j) r wpAny_bind (nV wpAny_rule (h1 p (atKey_of_get l r)))]
#where
section
variable {κ:Type}[ALJ](knd:DS9)
def b7o(d a:qE)(hd:AJZ)(b:qB) :
  cS MeetsIn (Builtin.«dict.setdefault» (JY [A4M,CC,b])) (B8F (knd.room A.in1/\∃k xs,EA4/\EBH/\bH /\
   (∀p,EE2->A59 GW ADQ) /\
   (EED->EKT (storedH xs k a b) (A59 b E1I)))) :=
 .of_wp λA R s ⟨j,k,xs,c,g,l,h1,h2⟩=>by
  rw[A6S Builtin.«dict.setdefault» Builtin.Dict.keyAndDefault (wpAny_notOrdered_dict g.typeIs ?_)];show KF _ (eH (d,AVL,AQ b));rw[oN];change KF _ (if WG d sysModules then _ else(E2F b>>=_));rw[BB (LK (by rw[ZE hd])) wpAny_bind (c2O j c g l (λp i=>y3 (EW GW (h1 p i))) λh h' e f=>y3 (EW b (h2 h h' e f)))]
#where
section
variable {qK:DC}{σ:St}{H:Hp}{s:qC}{a b:qE}{z:V}{r:qB}{qL:YP}{k:WP}{A:Around}{E:qH}
def RelO.sdv{o:fG}{p:BEQ}(h:RelO o (Option.map (·.2) (some p))):∃v,o=some v/\AA4 GW:=by
 cases o with
 |none=>exact h.elim
 |some v=>rw[QQ v h]
def c8l{Q:qH}(D:sK)(I:AL)(e:A0X)(l:A7W)(y:A83)(G:RelV z r)
  (h1:∀v o s',BY2->A5R->AA4 o->nO o) (h2:∀s',A95->JK (CTD (AQ8 z)) s'->nO r) :
  BL4 "dict.setdefault" [CC,F0,r]:=by
 obtain⟨F,hd,xs,f,dd⟩:=uB c5Z;have j:BZ xs.length:=by rw[JP (Paired.length f) F]
 have g:=f.val k;rw[CDL i z z y]
 rw[CXQ PySem.F.slot_dict_setdefault PySem.F.entry_dict_setdefault PySem.F.args_dict_setdefault_3 (EN7 b7o) ⟨tupleKind_room_in1 D,k,xs,a1k I.hok l,dd,j,vT C,BT B h' h hs⟩]
 .rw[C]at g;rw[BX v e1 e2 RelO.sdv g];exact h1 v _ _ e1 ZL e2
 .rw[B]at g;have d:A95:=by
   cases e1:pG with
   |none=>rfl
   |some v=>rw[e1]at g;exact g.elim
  refine h2 _ d ?_;obtain⟨q,es,ep,n,t,u,w,_,x⟩:=h;rw[EXN (A6R n) ⟨i,hd,_,(ES7 f.put l G m),q,es,ep,n,t,u,w,x⟩ m m]
#where
noncomputable def b7b(td ty tx:TE):TE:=EFA (∃qL k b,H3 a=BU .dT qL/\A84/\WB H3 CH2/\A83 /\
 (∀v,BY2->Q v H3)/\(A95->Q z (PM H3 a .dT (AQ8 z))))
section
variable {o e f:Expr}{qO qM:Pos}{td ty tx:TE}
def b8a(F:A03)(E:A07)(C:BX6)(D:DZ5)(m:DPP):DJ E8A DO7:=by
 rw[D01 PySem.F.slot_dict_setdefault PySem.F.type_dict_setdefault (dC E u R) j L J R];rw[CDH L O P (b2O j d) O P (A8Q C j J (λG s2 (VX y p M K) =>
  DVT D p K S T ⟨z,n,q,l,qL,k,b,g1,r,t,w,A,B⟩))]
 rw[AOF r (BXJ G) M];exact c8l F q g1 t w l (λv U N g c i=>⟨_,n,c,i,A v g⟩) λN g c=>bD _ c l (B g)
def c4H(d:GG)(c:sB)(a:BWK)(b:DYH)(m:DPP:=by rw[CBV]):CU E8A DO7:=(EYC b8a)
#where
def b6W{d:qE}(hs:AJZ)(es:yE)(ep:Nat)(c:Obj)(n:c.ExactDict)(hd:c.data=B5U) :
  cS MeetsIn (Builtin.«tuple.__new__» (JY [dU,A4M])) (B8F (A.handled=none/\AAY d c/\BZ es.size /\
   ACG h' Heap tk qP CY ((ABQ UQ)->ItemsOf C94 qP es.size->AGF h'.objs.size EJG))) :=
 .of_wp λA R s h=>by
  rw[AAR l dd tk os s];rw[SK r j p h];rw[AE m sub_tuple_self f init_tuple_lookup];have u:=madeHere_tuple;have q:Shared.TypeIs ⟨l,g,dd,tk,os⟩ A4M "dict":=⟨c,j,n.1⟩;have D:APA l:=⟨c,j,n,hd⟩
  wp_walk using wpAny_loadPart' j,wpAny_typeOf q,kdu_collect (EGQ hs) (BLJ r) D p
  intro h' k qP t a;rw[PX (Builtin.Tuple.tupleExact qP.toList.toArray>>=λv=>ret v)];unfold Builtin.Tuple.tupleExact;rw[pZ e qP.toList.toArray qP]
  rw[e];rw[AZ (CMA (by show BZ qP.size;rw[AD QK p]))];rw[TD (DK (h h' k qP t a))]
inductive rTupleD(xs:AA)(H:Hp)(Q:VK):Prop
 |mk (d:qE) (qL:YP) (rss:LLI) (_:D9R) (_:C7Z) (_:C19) (_:∀l zs,A46->A9M zs->CTB zs):fZ rTupleD
section
def b0W(A:DV):eJ dU rTupleD:=by
 rw[nF K G];rw[VN d qL rss rfl hd C q];rw[T6 F G.one F];obtain⟨t,l,c,v,E,es,ep,e1,e2,y,p,J⟩:=AAX (A1W X.prog X.w s.heap d B44) DLE;obtain⟨hI,r⟩:=b4g v C;rw[AHU k c.length (Paired.length v)];rw[B7V f c.length p]
 refine callType_newIn PySem.F.called_tuple AI (PySem.F.typeCall_tuple_1 _) (PySem.F.newCall_tuple_1 _) (λm=>PySem.F.args_object_init_2 m _) PySem.F.entry_tuple_new (b6W l es ep E e2 y) ⟨CT8 (I.ok.hd A),e1,~~~b2I t k f,CYF g⟩;have z:qP.toList=DHS:=by
  rw[CBS c.length]
  .rw[CBC YA f]
   rw[C7K B D g];rw[yY a (CB es.toList e) B]
   rw[BPQ p XR a];injection a with a
   rw[CAG D a]
  rw[CBF YA f]
 have j:qP=BQA DHS:=by rw[<-z,Array.toArray_toList]
 have n:D3K:=C0Y kp;have w:DLV DO2 EJG:=by
  rw[AD j (n.laid (t':=tk) D8R BO (F00 (JM DO2) (OQ (M5 t k)) _ (a1z E6Z c)))]
 rw[GZ ATP (AM h'.objs.size) _ w rfl (AK q (ZM n.hok.fresh) hI)]
variable {e:Expr}{es:BN}{t:TA}{p pos:Pos}
def b5X(f:D5T)(g:D7N)(b:ET)(c:DV:=by rfl)(d:CI:=by rfl)(a:HV:=by rfl):xT "tuple" rTupleD:=(mV (L8 (b0W c) f g b0Z) b.h d)
#where
#where
section
open PySem.AutoSeq1 (wpAny_loadPart')
section
variable {prog:qG}{w:World}{A:Around}{E:qH}{s:qC}
#where
section
variable {X:Cx}{e:Expr}{es:BN}{t:TA}{p pos:Pos}
#where
#where
section
open PySem.W
open Sem (wp)
section
variable {prog:qG}{w:World}{κ:Type}[ALJ](kd:ABK KeyKind κ)
variable {kd}
variable {A:Around}{E:qH}{s:qC}
#where
noncomputable def h2(kss:LLI):Int:=reduceHash (Builtin.Tuple.tupleHashOf (kss.map λks=>reduceHash (Builtin.Tuple.tupleHashOf (ks.map hashInt))))
section
variable {P:qG}{w:World}{H:Hp}{h:Heap}{a:qE}
#where
section
variable {X:Cx}{o i e f value:Expr}{pos pos' qO qM:Pos}{td ty tv tx:TE}
#where
#where
section
open PySem.W
section
variable {prog:qG}{w:World}{A:Around}{E:qH}{s:qC}
#where
section
variable {X:Cx}
#where
#where
section
variable {A:Around}{E:qH}{X:Cx}{es:BN}{k:Nat}{pos:Pos}{prog:qG}{s:qC}{sp:Sp}{w:World}
section
variable {qK:DC}{σ:St}{H:Hp}{h':Heap}
#where
section
variable {a e:Expr}{ta:TA}{te:TE}{p p2 pos2:Pos}
#where
section
variable {e tg:Expr}{te:TE}{p:Pos}
#where
section
variable {k':Nat}{ps ps':AC}{sp':Sp}{x x' y:Str}{p p' ipos qM cpos' pos':Pos}{e e' c:Expr}{es':BN}{t t':TA}{tc:TT}{i:Nat}
#where
structure MethOkE(P:qG)(w:World)(K:qF)(mg:BJ)(base:Heap)(C:qE)(m:Str)(k:Nat)(ps:AC)(sp:Sp):Prop where
 ex:CC6 rA DKL
def MethAt.fnE{P:qG}{K:qF}{mg:BJ}{base:Heap}{C:qE}{m qual:Str}{st:Stmt}{N ps:AC}(F:DPF)(S:A12)(len:lR)
  (b:ANA qual (dM ->
   AXF (BEN A9O A2A))):EL7 CF:=by
 rw[F4I ⟨f,fd,h1,g,?_⟩]
def c4D{P:qG}{K:qF}{mg:BJ}{base:Heap}{N:AC}{qual:Str}{scope:Scope}{f:qE}{cd:qB}{outer:IL}{b:qC}{a:Hp}{E:XK}
  {C:qE}{m:Str}{ps:AC}{o e:Expr}{ta:TE}{t:TA}{qO:Pos}{pl:A00}(O:EL7 k) (c:W0) (q:E1T)
  (n:JE uD o ta) (l:DTS)
  (g:EO5:=by rfl)
  (d:DCI:=by rfl)
  (r:eval B1R vF=(eval o vF>>=λi=>CDQ [i] (getMethod i m pl) h h (backTo pos (starEach LD vF)) (backToKw pos (keywordEach [] vF))):=by rfl) :
  JE uD B1R (CWI E ta t):=by
 obtain⟨h,fd,h1,h2,j⟩:=O.ex;exact⟨CBH b3X n.h j q h2 .nil c5w l.h g d r⟩
noncomputable def c8H(tc:TT)(ta tb:TX):TX:=BIQ (tc σ H λc H0=>OO c (DUE ta) (DUE tb))
def c5S{c:Expr}{tc:TT}{a b:IY}{ta tb:TX}(n:JT X c tc)(l:JX X a ta)(m:JX X b tb)(k:t9:=by rw[AM9]):JX X [DP0] (c8H tc ta tb):=by
 refine⟨F2X⟩;have one:∀{sts:IY}{t:TX}(h:JX X sts t) {s1:qC}{H1:Hp},B6L->t D R σ H1->AOX DQI (λf s'=>match f with | .next=>AOX (cK execs []) B7P C7W s'|f=>BFZ f) C7W s1:=by
  intro sts t h s1 H1 g i;refine FC (bJ h.h D R g i) f s2 j;cases f with
  |next=>rw[AZB j]
  |brk=>exact j
  |cont=>exact j
  |ret v=>exact j
 refine wpAny_execs_cons (wpAny_If (pT (UH n.h) (DS d s1 ⟨H1,g,i⟩) k));cases d with
 |true=>exact one l g i
 |false=>exact one m g i
#where
section
open PySem.W
variable {X:Cx}
section
variable {e:Expr}{es:BN}{t:TA}{p pos:Pos}
#where
section
variable {k v:Expr}{tk tv:TE}{pos:Pos}
#where
#where
section
open PySem.Builtin PySem.Builtin.Str PySem.StrLaws
def a3l:∀{ys:AC}{us:AN},E5U us->∃l:A9H Tok,us=strValues l/\l.map (·.1)=ys
 |[],us,h=>by cases h;rw[QQ [] rfl]
 |NU,us,h=>by
  cases h with
  |cons r q =>
   rw[HN r];rw[BX l rfl e a3l q];rw[QQ ((y,t)::l) (B1C e)]
inductive rJoin(K:qF)(x:V)(vs:AA)(H:Hp)(Q:VK):Prop
 |mk (sep:Str) (p:qE) (ys:AC) (B:Nat) (_:DFI) (_:lE) (_:ABC p D6Q) (_:C3X) (_:ERM) (_:DYR) (_:E5Z):C0A rJoin
section
variable {X:Cx}
def c3Z(K:qF)(f:AT:=by rfl):DJ2 BUI:=by
 subst f;rw[lF r n m];rw[F1V d g c];rw[HN n];rw[T6 k m.one k];rw[AZ2 j o (I.list hs)];rw[BX l rfl b a3l j];have i:DZ9:=by
  rw[AD b (joinFits d g)]
 rw[EYE meets_str_join_list i o.isList]
 match l,b with
 |[z],b =>
  rw[EV1]
  rw[EM9]
 |[],b =>
  rw[B9V]
  rw[ET0 c]
  rw[EOB]
 |ELX,b =>
  rw[B9V]
  rw[EJI c]
  rw[EC3]
#where
def a7c:∀(ys:AC) (tk:Nat),E5U (strsFrom tk ys)
 |[],_=>.nil
 |NU,tk=>A5S (IC tk) a7c ys (tk+1)
inductive rSplit(x:V)(vs:AA)(H:Hp)(Q:VK):Prop
 |mk (a b:Str) (_:xO a) (_:QB D3O) (_:1<=b.length) (_:BZ (a.length+2)) (_:AAL (ZN p (JN (Txt.split a b).map))):A8M rSplit
section
variable {X:Cx}
def b8K:MtR X "str.split" rSplit:=by
 rw[lF p n m];rw[VN a b rfl rfl j g q];rw[HN n];rw[GV u l m.one];rw[MK f l];have c:=split_le a b;have one:DOF KG->nT hQ (GI (E3M (AVB [Value.str a t]))):=λe=>by
  rw[e]at q;exact AF9 s.toks (o:=DD [CQZ]) k (bD C3Y 0 (.cons B0Q .nil) JV) AIX
 by_cases h1:A4U E3U E3V
 .rw[CCR (meets_str_split_cannot_occur a b t f h1) (one ?_)];rw[GO Txt.split AVY]
 .rw[SF h1' ((E3U || E3V)) false h1]
  have i:(b.length==0)=false:=by
   rw[BB beq_eq_false_iff_ne b8Z j]
  by_cases d:AW EYG
  .rw[CCR (meets_str_split_not_found a b t f h1' i d) (one ?_)];unfold Txt.split;rw[AI5,CO d]
  .rw[SF hf' EYG false d]
   have e:DOF (partsBetween a CZ4 b.length):=by
    unfold Txt.split;rw[AI5,BC d]
   rw[e]at q c;rw[CCR (meets_str_split_sep a b t f h1' i hf' AF (~~~b9G g c)) ?_];exact AF9 (A9Y _) (o:=JN (partsBetween a CZ4 b.length).map) k (bD (OQ (b9G g c)) 0 (BS a7c) JV) AIX
#where
def c2e{α:Type}{c:α}:∀{a b u v:CL},c∉a->c∉b->a++c::u=b++c::v->a=b/\u=v
 |[],[],_,_,_,_,h=>by rw[AH9 _ h];rw[AY rfl h]
 |[],A7E,_,_,_,e,h=>by
  rw[AH9 h1 _]
  rw[EV (A70 h1) e]
 |fJ,[],_,_,d,_,h=>by
  rw[AH9 h1 _]
  rw[EV (RZ h1 List.mem_cons_self) d]
 |fJ,A7E,u,v,d,e,h=>by
  rw[AH9 h1 h2]
  obtain⟨e1,e2⟩:=c2e (C0G d) (C0G e) h2;rw[AY (KA h1 e1) e2]
def a1n(c:Nat)(x y:Str)(r:AC):C4B rQ=x.cps.toList++c::C4B iD:=by
 show(EBE).cps.toList=_;rw[Str.cps_append,Str.cps_append,Array.toList_append,Array.toList_append,List.append_assoc];rfl
def b0F{c:Nat}:∀{ps qs:AC},D6T->IE qs->DX a ps BYN->DX a qs BYN->pX GY ps (WK GY qs)->ps=qs
 |[],_,h,_,_,_,_=>AMG
 |_,[],_,h,_,_,_=>AMG
 |[p],[q],_,_,_,_,h=>X3 (show p=q from h)
 |[p],q::q2::r,_,_,b,_,h=>by
  rw[EFD p.cps.toList this E0P]
 |DFX,[q],_,_,_,d,h=>by
  rw[EFD q.cps.toList this.symm DN5]
 |DFX,q::q2::s,_,_,b,d,h=>by
  rw[CZ2];rw[a1n,a1n]at this;obtain⟨e1,e2⟩:=c2e E0P DN5 this;have f:pX GY (p2::r) (WK GY (q2::s)):=DXW e2;rw[DXW e1,b0F AJ AJ (λa e=>b a AIB) (λa e=>d a AIB) f]
def a2a{c:Nat}{ps:AC}(h0:D6T)(h:∀a∈ps,BYN):Txt.split DMP GY=ps:=by
 refine b0F (c:=c) AZX h0 (BK a b) h (BS join_split)
 .have:=split_pos DMP GY;rw[WD z];simp at this
 .exact split_free _ c a b
#where
section
open PySem.NumText
noncomputable def E3(n:Nat):Str:=Str.ofString (toString (EA n))
def a1s(n:Nat):AL4=E2P map Char.toNat:=PySem.W.KIN.signs_num n
def V0(n:Nat):AllDigits AL4:=λc b=>by
 rw[a1s]at b;rw[xC ch a yK];have r:=digit_range (Nat.isDigit_of_mem_toDigits AI AI a);rw[JP e r]
def a1r{n k:Nat}(a:0<k):AX1 k↔n<10 ^ k:=by
 rw[<-Nat.length_toDigits_le_iff (b:=10) AI a,show BZX=AQW cps.toList.length by rw[Array.length_toList];rfl,a1s,List.length_map]
def a3c(n:Nat):IE AL4:=by
 rw[a1s];intro e;rw[GL h (Nat.length_toDigits_pos (b:=10) (n:=n)) (List.map_eq_nil_iff.mp e) h];rw[EV h AI]
def b2T{n:Nat}(h:AX1 4300):PySem.intText? (E3 n)=some FE:=by
 have e:=intText_digits (V0 n) D5C h;rw[a1s,PySem.W.KIN.val_back]at e;exact e
def a7A:∀n:Nat,0<n->AQW cps.toList.head?≠AQ 48:=by
 have key:∀n:Nat,0<n->∃d,0<d/\d<10/\E2P head?=BU Nat.digitChar d:=by
  intro n;induction n using Nat.strongRecOn with
  |_ n g =>
   intro f;by_cases h:n<10
   .exact⟨n,f,h,VL (Nat.toDigits_of_lt_base h)⟩
   .rw[A3Y d a e (g CV2 AF AF)];rw[GA d a c ?_];rw[GL t (Nat.toDigits_append_toDigits (b:=10) (n:=CV2) (d:=n % 10) AI AF (D1S AI)) Nat.div_add_mod t];rw[<-t,List.head?_append,e];rfl
 intro n f;rw[A3Y d a e (key n f)];rw[a1s,List.head?_map,e];have:∀d:Nat,d<10->0<d->AQ (((Nat.digitChar d).toNat))≠AQ 48:=AI
 exact this d c a
def b6h:E3 0=Str.ofString "0":=rfl
inductive rIntT(xs:AA)(H:Hp)(Q:VK):Prop
 |mk (x:Str) (n:Int) (_:mY QR) (_:D0V 640) (_:GQ PySem.intText? n) (_:QM n):fZ rIntT
inductive rStrI(xs:AA)(H:Hp)(Q:VK):Prop
 |mk (n:Nat) (_:mY AFR) (_:DRX) (_:Q C6A H):fZ rStrI
section
variable {X:Cx}{e:Expr}{t:TA}{p pos:Pos}
def b6D:eJ AVJ rIntT:=by
 rw[kB c];obtain⟨x,n,rfl,a,b,q⟩:=h;obtain⟨u,rfl,t,rfl⟩:=r.one;exact PySem.W.KIN.call_text b a (kM AFR)
def b6t:eJ D2G rStrI:=by
 rw[EEK n];refine VI a8Z _ c Q I r (OI n ?_ q);have h1:n<2 ^ 1900:=Nat.lt_trans b FV;rw[BM a n 0]
 .subst a;decide
 rw[ERN (Nat.lt_trans h1 FV)]
def c4C(d:D5W)(f:D7Q)(b:rX)(c:A0U:=by rfl)(a:A08:=by rfl):AXH "int" rIntT:=DTK b6D
def W6(d:JQ "str")(f:MY "str")(b:rX)(c:A0U:=by rfl)(a:A08:=by rfl):AXH "str" rStrI:=AY2 L8 b6t b3g
#where
section
variable {X:Cx}{o e:Expr}{es:BN}{to:TE}{t:TA}{qO qM:Pos}
def W5(K:qF)(h:cF)(g:ET)(f:AT:=by rfl)(b:DBN:=by rfl)
  (d:lN:=by rfl)
  (c:TQ:=by rfl) (hs:CI:=by rfl) (a:L1:=by rfl) :
  DSS BUI:=(EPL c3Z)
def a5Z(K:qF)(h:cF)(g:ET)(f:AT:=by rfl)(b:eG "split":=by rfl)
  (d:lN:=by rfl)
  (c:TQ:=by rfl) (hs:CI:=by rfl) (a:L1:=by rfl) :
  CTF "split" rSplit:=(CTJ PySem.F.slot_str_split PySem.F.type_str_split b8K)
#where
#where
section
variable {K:qF}{Q:qH}{X:Cx}{qO qM pos:Pos}{e:Expr}{es:BN}{k:Bool}{t:TA}{te:TE}{w:World}
noncomputable def Itc(x:Str):It:=⟨B0X D3B,AGW v (H'=H/\∃c,DYW/\v=.str GY),B0X D69⟩
def b4S{P:qG}{tg:Expr}(it:qE)(x:Str)(t:Tok):BOU BRB (h.IsStrIter it "str_ascii_iterator" x t i) where
 mem:=AJ
 obj:=AM2 b (by
  rw[C2C]
  rw[CE2])
 keep:=xZ k (let ⟨o,ho,r⟩:=st;UV (DHQ ho) r)
 item:=by
  rw[F4K D3B];refine wpAny_pyNext_ascii_item st (c:=CRW) BTR λh' st' B=>?_;have y:gG BK6:=I.turned (t':=gW) (BNL B.extBut) j f1 l m n;rw[CZP];exact DK (D00 BK6 (xA (tP CRW)) y RH (A5L _ BTR rfl))
 done:=by
  rw[F4K D69];exact wpAny_pyNext_ascii_end (I.ok.hd u) st BTR λh' A=>EQ (AUZ (BNL A) j l m n)
 self:=B8B wpAny_pyIter_striter_ascii
inductive iSignI(R:fH)(v:V)(H1:Hp):Prop
 |mk (x:Str) (_:C77) (_:D46 x.cps.all) (_:R (Itc x) H1):iSignI R v H1
noncomputable def c5W(tl:TE):TI:=DI9 tl iSignI
section
variable {tg:Expr}
def c3w{l:Expr}{tl:TE}(f:AMB):AUJ DVX:=by
 rw[AW4];refine eN f j;rw[SL x a i g j];rw[A3Y x rfl q g];rw[HN i];rw[D04 wpAny_pyIter_ascii c a.kept (b4S _ x t)]
 rw[BOI a.fpOk BK3]
def b4m{l:Expr}{tl:TE}(a:C5J):JI X tg l DVX:=⟨c3w a.h⟩
#where
def b6q{src:NM}{g:TG}{h:TT}{σ:St}{Q:VK}{x:Str}{H1:Hp}(f:BZ x.cps.size)(a:yT)(h0:DIB)
  (e:CDV)
  (hs:∀i c ys H,DYW->AUU->BNB (xA GY) λσ2 H2=>EL1 d d EDP)
  (hd:BMD a x.cps.size):A17 h BRB :=
 a3h x.cps.size a h0 (F14 e v (by obtain⟨rfl,c,k,rfl⟩:=y;exact hs i c ys _ k p))
  (EME e _)
section
variable {prog:qG}{A:Around}{E:qH}{s:qC}
def a5I{T qR:String}{b:qB}{rest:AN}{kw:qS}(e:CWZ "__init__" "object.__init__")
  (f:AOP Bind.madeBy T=lU some qR) (c:ED4) :
  A6F Builtin.«object.__init__» (aX iM) (s.TypeIs b T/\CTE s):=by
 refine Meets.of_wp (DT prog w A R s ⟨d,a⟩);cases rest with
 |nil =>
  cases kw with
  |nil=>rw[TD (DK a)]
  |cons y kw =>
   rw[TR]
   exact DK a
 |cons y rest =>
  rw[TR]
  exact DK a
def b0X{T qR:String}{i:Builtin}{args:AN}{kw:qS}{S:PySem.Spec}(b:TypeCalled T qR "object.__init__")
  (d:ED4) (n:AIH (checkTypeCall T (aX args))) (c:AIH (checkBuiltinCall qR (aX DWH)))
  (e:∀a,argsOk "object.__init__" (aX (a::args))) (m:AMJ qR i) (g:Meets (i (aX DWH)) S)
  (h:S A.in1 (BCQ (λa s₁=>s₁.TypeIs a T/\Q a s₁)) s):EAS A5Q:=by
 obtain⟨y,z,k⟩:=b.mro;rw[CQ0 o b.made p b.sub (mX callAny T _) F.entry_type_call];rw[CP2 T args kw (units_type_call_type T args kw)];rw[AE q b.notType t b.canCreate]
 rw[TR]
 refine NW codeAny_mono (codeAny_call_builtin b.plain m (wpAny_of_eq c (g prog w A.in1 _ s h))) r s₁ f;rcases r with x|fl
 .exact f
 cases fl with
 |ret a =>
  rw[AH8 l f];rw[AE u b.init.lookup v (b.init.bind a)]
  rw[TR]
  rw[CPW (codeAny_call_builtin b.init.plain F.entry_object_init (GX (GX b.init.check _) _ j (e a) ((a5I b.init.lookup b.made d) prog w A.in1 (CHC (Q a s₂)) s₁ (EW j l))))];rcases r₂ with x|fl₂
  .exact hr₂
  cases fl₂ with
  |ret r =>
   obtain⟨rfl,l⟩:=hr₂
   rw[TR]
  |_=>rw[AYW]
 |_=>exact f.elim
def b6l(l:qE)(xs:CY)(t:Tok) :
  A6F Builtin.«enumerate.__new__» (B4J [BQY,HQ] (A3D 1)) (DEK /\
   AGF BXL (GI ((s.heap.push ASN).push CE3))) :=
 (tG (by
  rw[cJ e];rw[jH b h];have c:=sub_enumerate;have a:EHG k e l xs:=b
  wp_walk using O1 a
  intro Γ p f;change FN _ _ (eH (_:Bool)) _ _ _;rw[oN];rw[JZ c6g ?_]
  .wp_walk using O1 a
   rw[sA]
  .wp_walk using O1 a
   rw[sA]))
def b2V{e it l:qE}{i:Nat}{z:Int}{items:CY}{x a:qB}(N:AN1 s.heap z)(J:B7Z)(V:A0H)(W:BSW)(ne:DX6)
  (U:∀(h':Heap) (t:Tok) (tk:Nat),CZ1 h' s.heap.objs.size->E7S->BY4 (DGH #[A3D z,x])->DKV ->
   (A9S AVX (BSD->ZP->UQ))->vW aJ) :
  F0V Builtin.«enumerate.__next__» e:=by
 rw[A5G e 2 N wG];rw[AZ (a2J J V W λh1 L u=>?_)];have h:AN1 h1 z:=AK u.extBut ne N;rw[A5G e 3 h (rawInt z)];rw[A5G e 4 h .none];rw[EB7 wpAny_mkInt];rw[xJ (EIB (cM s h1 gW) h h2 j y) j (AN1 h2 AE2) j];rw[xJ (EIB (cM s h2 gW) j d f B) f (AN1 d AE2) f];rw[E0B K d.objs.size (by rw[B.1,bN,u.1])]
 have r:e<d.objs.size:=Heap.lt_size f;have m:AN1 (oU d.push #[BJU z,x]) AE2:=OB f;rw[D05 m];rw[EB7 wpAny_rule];rw[BBZ m a];rw[xJ (A6K m S n C ?_) n (C8N S AE2 x) n];rw[OR];rw[A3M Builtin.SmallTypes.ownedTupleHandOut (wpAny_setField_rec n AJ λT p D=>?_)];replace p:DVB T:=p;refine wpAny_setField_rec p AJ λG g F=>?_;replace g:DVB G:=g;rw[D5Y];have P:BOH (c≠e) (AA2 d.get?) G.get?:=λc o I q=>EKQ I I I mU;have M:D2 G.get? d.objs.size (DGH #[BJU z,x]):=EKQ BTI BTI BTI JV;have O:G.objs.size=d.objs.size+1:=by rw[F.1,D.1,C.1,Heap.size_push]
 rw[RT A47];show NZ d.objs.size _;rw[K]at M O g⊢;refine U G s.toks gW g (((ABM L.extBut y.extBut ne.symm B.extBut ne.symm)).at λo q=>P it o ne.symm q) M O λb o H R q=>P b o H (AK B.extBut H (aC y.extBut H u.extBut R q))
def b6m{e it l:qE}{i:Nat}{z:Int}{items:CY}{f:qB}{Q:BSV}(m:PH)(j:C8N s.heap z f)(a:B7Z)(n:A0H)(p:BT9)
  (h:CNI x (AXS (c≠e) (c≠it->A3R->AWG)) (GQ h'.get? o) (IR E x RP)) :
  EE (BM3 Builtin.«enumerate.__next__» e):=by
 rw[A5G e 2 j wG];rw[A6Y (a7U m a n p λh1 x b d=>h h1 x (λc o _ g q=>AK b g q) d)]
def a4W(a v:qB):AIH (checkTypeCall "enumerate" (B4J KG v)):=LW
def a6R(a v:qB):AIH (checkBuiltinCall "enumerate.__new__" (B4J [BQY,a] v)):=LW
def b3i(a b v:qB):argsOk "object.__init__" (B4J ZH v):=D0Z
def b2W{l:qE}{xs:CY}{t:Tok}(b:DEK)
  (h:∀h',IsEnum h' GM s.heap.objs.size 1 .none->E3N h'->BIY xN->E9D->BRT GM) :
  EAT BQY "start" (A3D 1):=by
 refine b0X F.called_enumerate AI (BS a4W) (BS a6R) (λd=>b3i d _ _) F.entry_enumerate_new (b6l (k:=k) l xs t) (HR b);have e:BXL=GM:=BKF;have a:AVG DCX CE3 BXL _:=JV;have g1:A3N (DCX CE3).get? ASN:=B0C;show _/\_;rw[e]at a;rw[e];rw[FT (LN a) (h _ a ?_ (KA Heap.size_push e) λc o x=>nQ x)];rw[BQ4 k g1]
#where
noncomputable def It1(K:qF)(k:Bool)(a:qE):It :=
 ⟨CY4 B3X,
  AGW v (∃p x,BVI/\RE/\H'=AEO C6D/\CVG B3X),
  CWB B3X⟩
structure ETurn1(k:Bool)(e it a:qE)(i:Nat)(h:Heap):Prop where
 en:∃old,C8N h (1+RO) old
 t1:ItAt k h it a i
def b1k{P:qG}{kt:Nat}{tp:Pos}{a e it:qE}(ne:DX6) :
  Turn P w K (AU8 kt tp) AMN ATY e (A3P (ETurn1 k e it a i h)) where
 mem:=AJ
 obj:=AM2 c (by
  rw[AJV f f]
  .rw[SI l st.en];exact FP q AGE
  rw[CD9 st.t1.get])
 keep:=xZ k ⟨DXO l ⟨l,AKJ e q⟩,st.t1.at λo q=>DHQ q⟩
 item:=by
  rw[F1G];obtain⟨xs,x,j,C⟩:=L;rw[EO0];rw[BX u hu R O.get C];rw[EYZ (E87
   (wpAny_call_entry F.slot_enumerate_next p F.entry_enumerate_next
    (b2V g st.t1 N (x:=u) (BL hu) ne λh' t tk V W Y a4 Z=>A63) (F.args_enumerate_next_1 _)))]
  rw[A79];refine wpAny_letOwnedTupleGo_enum (s:=aJ) V λh2 J n=>?_;have y:A4I ATY D82:=λc f q=>by
   have:∃o,A3R:=by
    rw[AJV f f]
    .rw[RW g]
    rw[C4E st.t1.get]
   obtain⟨o,z⟩:=this;exact B2M z (B4M q)
  have m:yO:=aY;have M:=AK n.extBut (y e AJ).symm Y;have kk:EO8 ATY:=λc o f q=>by
   rw[AYD f];exact AK n.extBut jQ (Z c o jQ f.2 q)
  have S:E9S C6D :=
   I.turnedT (ch:=[e,it]) B rfl kk (EQK [A3D (1+i),u] B0Q R M)
  have U:=S.tok tk;refine⟨hQ,_,U,rfl,IQ x rfl m rfl (BK zs hz),⟨eX ((show RV+EA AO=1+i+1 by rw[VY 0x583e9b863a2e2026d]) ▸ J),W.extBut n.extBut ne.symm⟩,C3G⟩
  .rw[AD (I.sqk_inj hz j) C]
  .rw[A4 (y c f)];exact(B c f).1
 done:=by
  rw[F1G];obtain⟨xs,j,r⟩:=L;rw[EO0];have l1:=O.length;rw[EYZ (E87
   (nR F.slot_enumerate_next p F.entry_enumerate_next (b6m D7I g st.t1 N (AT7 M5 r l1) (BT h' x hk C)) F.args_enumerate_next_1))]
  rw[EY0 C (DYS ATY B (BT c o f q))];exact hk c o jQ f.2 q
 self:=F18 (DXO _ (wpAny_pyIter_enum q h))
inductive iEnum1I(K:qF)(R:fH)(vs:AA)(H1:Hp):Prop
 |mk (k a:_) (_:A7K) (_:EV4 k) (_:R AMN H1):DOE iEnum1I
noncomputable def c8c(K:qF)(ta:TA):TI:=E8C iEnum1I
section
variable {M:Model}{A:Around}{E:qH}{s:qC}{env:Env}
def a6w{T:String}{rest:BN}{kws:A9T}
  (h:LI M (EH6 C7A) ((λvs s₁=>wpAny M A (evalAll ((backToKw pos (keywordEach kws env)).map (·.2))) (λqL s₂=>wpAny M A (call (.type T) vs (((backToKw pos (keywordEach kws env)).filterMap (·.1)).zip qL)) Q E s₂) E s₁)))
  (c:backTo pos C7A=ANC (BD8 env) (CWR rest):=by rfl)
  (f:ABD C7A:=by rfl) (b:DY (EH2 all) ((·.1.isSome)):=by rfl) (d:JL (EH2 any) ((·.1.isNone)):=by rfl) :
  LI M (callWith pos A5Q [] DUU EMC) Q:=by
 have h2:LI M (evalArgs A5Q true DUU EMC) (λa s₁=>FN M A (call A5Q ([]++a.pos) a.kw) Q E s₁):=by
  rw[c]at h⊢;exact evalArgs_kwB b h
 unfold callWith;rw[OA wpAny_holding (A94 h2 (λa s₁ h₁=>AC6 wpAny_standAt))];simp only[f,d,Bool.or_false];rw[rW];rw[A6Y (A94 h₁ (λr s₂ g=>DQ6 (nV wpAny_point g)))]
#where
def c1t(K:qF){v:Nat}{z:Pos}{a:Expr}{ta:TA}{p kp np:Pos}{nk:Nat}(o:JQ "enumerate")(r:MY "enumerate")(m:JA X KG ta)(l:AT:=by rfl)
  (n:backTo pos D2K=ANC ARB C2F:=by rfl) (e:ABD D2K:=by rfl) :
  JI X (AU8 v z) (ETB "enumerate" KG "start" (BQ 1)) (c8c K ta):=by
 subst l;refine⟨lQ R h ?_⟩;refine wpAny_Call_Name_kw (EMP o r a9f);refine a6w (BU0 m.h A D) n e;rw[EJ2 j y x D wpAny_Constant_int];obtain⟨k,E,rfl,⟨xs,t⟩,q⟩:=x;rw[T6 g y.one g];have d:=j.tok BGF;rw[DR A g w G d.sqk t];refine b2W w (DW h' i B F C);refine wpAny_pyIter_enum (s:=cM s1 h' BGF) i ?_;refine⟨BQD,[BQD,s1.heap.objs.size],_,_,H1,rfl,DDH BGF C,b1k (nne (KP 13776102005)),⟨eX i,B⟩,C3G,q⟩;have b:s1.heap.objs.size<=c:=by
  rw[AJV f f]
  rw[AHP]
  rw[DGA]
 exact d.fpOk b (d.hok.fresh b)
def b6d{a:qE}{xs:AA}{g:TG}{tb:TS}{D:Ends}{σ:St}{H:Hp}(c:A7A)(h0:C0L)
  (j:C9N B3X)
  (hs:∀i x σ H p,aT->AQT->RE->C79 σ C6D CW1) (hd:C2I) :
  AM6 (A8C ->
   AM7 (AMN).stop (AMN).go f f (W AO f σ' H') (AMN).yld):=by
 rw[CYE E2C];have d:=CWH j;rw[CVU]
 .rw[AY6 (BI4 d D3R) AC7 (US _ CSZ b p')];obtain⟨l,x',e,e2,h,n⟩:=y;subst e h;exact hs i x' σ _ l (n xs d) p e2
 .rw[C93]
  rw[AN4 (AX5 d)]
inductive rInS(x:V)(y:V)(H:Hp)(Q:VK):Prop
 |mk (c:Nat) (z:Str) (_:xO GY) (_:y=.str z) (_:BGY BL3):YW rInS
inductive rLenS(xs:AA)(H:Hp)(Q:VK):Prop
 |mk (z:Str) (_:mY D58) (_:BR0) (_:D9C):fZ rLenS
noncomputable def c6f(i j:Int):Prop:=0<j/\j<A01
section
variable {a b c o i:Expr}{ta tb tc td ty tv:TE}{p:Pos}
def c7g:B21 rInS:=by
 rw[NH a b];rw[QG c z rfl rfl q];rw[HN a];rw[hH b];rw[JR PySem.P.in_str];rw[StrLaws.found_one];exact BZK
def c1k(c:CA)(d:CZ)(e:B3W):zP .In rInS:=⟨a0t c7g c.h d.h e⟩
def a8O(i:B0Z)(j:B1J)(f:rX)(g:A0U:=by rfl)(d:A08:=by rfl):DKE rLenS:=⟨F5 (r:=rLenS) (λp s σ H x u Q I r h=>by rw[SK z a b c];exact a9b p s σ H x u Q I r (EFW z)) i j a9e f.h AI AI g d⟩
def c5V(c:CA)(d:CZ)(hs:B00:=by rw[A0M]):CB6 rIxS:=⟨b7Y c7V c.h d.h hs⟩
def c4t(d:CA)(e:CZ)(f:DYG)(g:DOY:=by rw[lZ]):JT X DMW (O0 (a7T A05 A05 ta tb tc)):=EZK b7F
def b8m:EAK c6f:=AN7 i j (by
 rw[EW8 A01];refine floordiv_int DDG EDN (cT .inl PyProof.noPylong_of_log2);refine kA Nat.log2_lt AF ?_;have b:j.natAbs<A01:=by omega
 exact Nat.lt_trans b FV)
def c4G(c:CA)(d:CZ):EAP c6f:=WA b8m
def U8(b:GG)(a:sB)(hi:ALP)(hs:c8B i:=by rw[A0M]):iT .Subscript o i DOQ:=⟨c3E DE2 a.h hi.h hs⟩
#where
structure JPs(X:Cx)(pos:Pos)(keys:AI2)(values:BN)(trs:A0P):Prop where
 h:AKY keys values trs
section
variable {k v:Expr}{ks:AI2}{vs:BN}{tk tv:TE}{trs:A0P}
def c7M:BLF [] [] []:=⟨c3l⟩
def a4K(a:CU k tk)(c:CU v tv)(b:BLF ks vs trs):EAY EHH:=WY b7N a.h c.h b.h
def c7U(h:EAY trs)(a:DY (A6D).all ((·.isSome)):=by rfl)(c:HP A6D=HP A68:=by rfl)(b:HP A6D<=15:=by decide):iT .Dict A6D A68 DVV:=⟨c3D h.h a c AYR b⟩
#where
noncomputable def c1E(items:CY)(x:qB)(i:Nat)(_:C6X):Sem (ForInStep C6X) :=
 match CLK with
 |BJF=>do
  let b <-eqBool y x
  if b=true then do
    let r <-retInt (i:Int)
    pure (ForInStep.done (some r,()))
   else pure (ForInStep.yield (none,()))
 |x=>DJI
def b4q{prog:qG}{w:World}{B:Around}{E:qH}{s:qC}{items:CY}{x:qB}{f:fL}{k:Nat}{Q:MM ((C6X))}(n:D9N)(a:C5X)(l:E6F)(i:∀j y,DGI->B6N B y x f j)
  (q:Q (AQ (Fin.done (.ret DZQ)),()) dW):∀m j,j+m=items.size->AJK->BYR B (forIn (List.range' j m) (BMJ Fin,()) (c1E items x))
 |0,j,h,b=>AF
 |m+1,j,h,b=>by
  rw[List.range'_succ,List.forIn_cons];have c:j<items.size:= bZ 0x1ccf59f7ad1b835d7
  have hi:GU items items[j]:=by simp[c]
  rw[OR];rw[GO c1E hi];rw[AZ (i j _ hi prog w _ _ ?_)];rw[GD j k]
  .rw[CK];rw[a];rw[cJ o]
   wp_walk
   exact q
  .rw[l j (~~~c0g b e)];rw[oN];exact b4q n a l i q m NK (bZ 0x119033b1dd71f9a50a135d7) (~~~c0x b e)
def c1C(l:qE)(items:CY)(n:Nat)(dd:IM)(sl:YX)(x:qB)(f:fL)(k:Nat)(i:D9N)(a:C5X)(c:E6F) :
  CV9 Builtin.«tuple.index» x
   (B8F (AGT/\(∀j y,DGI->B6N A.in1 y x f j)/\A59 DZQ dW)):=by
 intro prog w A R s h;rw[cJ o];rw[rC m b h];unfold Builtin.«tuple.index»;simp only[Std.Legacy.Range.forIn_eq_forIn_range',Std.Legacy.Range.size]
 wp_walk using PySem.AutoSeq1.wpAny_loadPart' m
 rw[pZ e ((min items.size items.size-0+1-1) / 1) items.size]
 rw[e];refine b4q i a c b ?_ items.size 0 (KP 6111941725) (Nat.zero_le _);rw[TD h]
inductive rIndex(K:qF)(x:V)(vs:AA)(H:Hp)(Q:VK):Prop
 |mk (a:qE) (xs:AA) (y:V) (n:Nat) (f:fL) (k:Nat) (_:IW) (_:B1K) (_:zW) (_:n<=8) (_:(∀j z,DMG->ASK n z (f j))) (_:AJE) (_:C5X) (_:(∀j,j<k->CVI)) (_:QM k):C0A rIndex
section
def b8N(D:GG):y8 "tuple.index" (rIndex X.K):=by
 rw[lF K G F];obtain⟨a,xs,y,n,f,k,rfl,rfl,p,C,w,B,e,A,q⟩:=h;cases G;rw[BX u rfl E a3Z F];obtain⟨z,its,r,o,l,t,m,hd⟩:=BEW B0E p;obtain⟨cls,dd,data,sl⟩:=o;have d:cls=.type "tuple":=congrArg Prod.fst t;simp only at hd;subst d hd;have b:=r.length;rw[oE PySem.F.slot_tuple_index (LN l) PySem.F.entry_tuple_index PySem.F.args_tuple_index_2 (CAO c1C sl u f k (AYS b B) e A) (CCA l (DS j J c) k RH)];rw[MA c (GU its J) c]
 have i:kY:=by rw[A7F b c]
 obtain⟨L,hw,g⟩:=r.get (List.getElem?_eq_getElem i);rw[AX c hw hw];exact EqV.at I (A89 w j i) (by show CJK;rw[DL 0x43cc610c9cffc0327d312a7 D C]) g E
noncomputable def c8S(r:A09)(to:TE)(t:TA):TE:=NI to x ((∃a xs,IW/\C5K a xs)/\VJ t vs (r x vs H2 Q))
variable {o:Expr}{to:TE}{name:Str}{id:String}{r:A09}
def c6V(j:C8K "tuple")(l:CCX)(B:y8 id r)(C:AK7)(A:YV)
  (d:BWQ:=by rfl)
  (g:PV (AP7
   && AP6):=by rfl)
  (f:TQ:=by rfl) (hs:CI:=by rfl) (c:L1:=by rfl) :
  C5W (c8S r to t):=by
 rw[ESE d g f C L];obtain⟨x,H1,n,G,⟨a,xs,D,k⟩,E⟩:=L;subst D;cases G;obtain⟨z,its,rr,u,i,q,m,hd⟩:=AAX (B62 H1 s1.heap a B0E) (n.hok a _ k);rw[EQV ⟨"tuple",id,PySem.F.plainAttrs_tuple,j,l,AYV i (AWH q),(λb y=>by cases y;rw[BA u i (D9F q)]),?_⟩ p A n E p ((by show(false || (backTo qM (starEach es X.env)).any (·.1))=false;rw[c]<;>rfl))];exact thn p λK s2 (VX vs w J F)=>AD4 B CC vs CC K Q w rfl J F
def b5V(K:qF)(i:GG)(h:cF)(g:ET)(f:AT:=by rfl)(b:DBO:=by rfl)
  (d:lN:=by rfl)
  (c:TQ:=by rfl) (hs:CI:=by rfl) (a:L1:=by rfl) :
  CU (A2M "index") (c8S (rIndex K) to t):=by
 subst f;exact⟨c6V PySem.F.slot_tuple_index PySem.F.type_tuple_index (b8N i) h.h g.h b d c hs a⟩
#where
noncomputable abbrev TF:=St->Hp->EK Str ((D4J))
noncomputable def c9E:TF:=λ_ H qP Q=>Q qP H
noncomputable def c9F(te:TE)(t:TF):TF:=EES (∃x,C77/\C5Q x/\CD2 x)
noncomputable def c9G(te:TE)(t:TF):TF:=EES ((∃x,C77/\BZ x.length/\C5Q x/\CD2 x)∨YK n (v=.int n/\DRX/\C5Q B0U/\CD2 B0U))
noncomputable def tFs(t:TF):TE:=gR (WU t Str.empty λx H1=>BZ x.length/\Q (.str x) H1)
structure JFs(X:Cx)(es:BN)(t:TF):Prop where
 h:F39 qP Str Q D4J (t σ H qP Q) (Joins UA X.A X.xe (cK evalEach es) qP (λx s1=>∃H1,B6L/\Q x H1) s)
section
variable {e1 e2:Expr}{t:TF}
def a4L:JFs X [] c9E:=CE1 ⟨H,I,h⟩
def a1H(b:cH)(d:DM4):C1N JFs c9F:=CE1 (by
 show KF _ lW;refine eN b.h i;obtain⟨x,H1,a,g,y,f,c,q⟩:=i;subst f;rw[MK tk g];rw[EB y tk rfl c (bJ d.h _ Q a q)])
def R7(g:cH)(c:DM4):JFs X (ETC::es) (c9G te t):=CE1 (by
 show KF _ (QY ETC);refine wpAny_FormattedValue_plain (eN g.h k);rw[SL x b d q k];rcases q with⟨y,rfl,j,a,q⟩|⟨n,rfl,i,a,q⟩
 .rw[MK tk d];exact wpAny_formatField_str (US y tk a (bJ c.h _ Q b q)) (US y _ a EZM) j
 .rw[MK tk d];refine wpAny_formatField_int ?_ (US _ _ a EZM);rw[BM f n 0]
  .subst f;decide
  rw[ERN (Nat.lt_trans i FV)])
def b0E{M:Model}{A:Around}{E:qH}{Q a:MM Str}:∀(ps:qA (Sem qB)) (qP:Str) (s:qC),EI0 qP Q s->(∀x s1,Q x s1->a x s1)->EI0 qP a s
 |[],_,_,h,k=>AZE h
 |_::ps,_,_,h,k=>thn h λ_ s1 (EM1 q)=>EM1 (b0E ps _ s1 q k)
def c4F(h:JFs X ELY t):CU (.JoinedStr ELY pos) (tFs t):=⟨lQ Q q (by
 rw[JR wpAny_JoinedStr];exact GX b0E (VI h.h Str.empty _ I q) λx s1 (EFW H1)=>⟨b,QR,H1,a.tok _,RH,c⟩)⟩
#where
section
variable {a b c:Expr}{ta tb tc:TE}
def c4s(d:CA)(e:CZ)(f:DYG)(g:DOY:=by rw[lZ]):CU DMW (a7T A05 A05 ta tb tc):=EZK b8f
#where
inductive rCount(x:V)(vs:AA)(H:Hp)(Q:VK):Prop
 |mk (l:qE) (xs:AA) (y:V) (_:zK) (_:B1K) (_:YU) (_:A7X) (_:AGO) (_:QM E0T):A8M rCount
inductive rIndexL(x:V)(vs:AA)(H:Hp)(Q:VK):Prop
 |mk (l:qE) (xs:AA) (y:V) (k:Nat) (_:zK) (_:B1K) (_:YU) (_:A7X) (_:AGO) (_:AJE) (_:(∀z,AHL k z->AW BI8)) (_:(∀j z,j<k->DMG->tN eqV z y)) (_:QM k):A8M rIndexL
section
noncomputable def bkV:qB->V
 |.none=>.non
 |AZZ=>bX
 |C5S=>SX
 |DYO=>QR
 |_=>.non
def c6e{x:V}{v:qB}(f:sH)(h:bG):bkV v=x:=by
 cases x<;>first | (cases h;rfl) | (rw[AYY h];rfl)|cases f
def b4A{xs:AA}{its:AN}(r:pQ)(h:AGO)(y:V){u:qB}(k:A7X)(l:MB):∃e:DCR,EX1 e:=by
 classical
 rw[FT (λv=>CJ (∃x,sH/\bG/\AW AWB)) (DW j x v f i)];rw[BX m a g r.get f];rw[AX i a a];have d:sH:=List.all_eq_true.mp h x (List.mem_of_getElem? f);cases e:AWB with
 |true=>exact decide_eq_true ⟨x,d,g,e⟩
 |false =>
  rw[JR decide_eq_false];rintro⟨x',b,c,e'⟩;have:x'=x:=by rw[<-c6e d g,c6e b c]
  rw[WX this e e' e']
def b8O(p:GG):y8 "list.count" rCount:=by
 rw[lF D C B];obtain⟨l,xs,y,rfl,rfl,k,i,fs,q⟩:=h;cases C;rw[GV u m B.one];rw[A6N o (I.lstM k)];obtain⟨d,a⟩:=b4A r fs y i m;rw[oE F.slot_list_count qT F.entry_list_count F.args_list_count_2 (EJ6 SeqAt.list_countAt _ u d) (CCA e C5L E0T ?_)]
 .rw[lG j hj CBT];have b:kY:=by rw[A7F o hj]
  have f:=D3R;rw[BX E c g r.get f];rw[AX hj c c];rw[AD (a j _ _ f hj) (ERS (.flat (C78 fs b) i) p g m)]
 .have:ERB:=by
   clear q e k;have key:∀(xs:AA) (its:AN),pQ->EX1 d->ERB:=by
    intro xs its r;induction r with
    |nil=>rw[gA]
    |cons r1 _ A =>
     intro h;rw[List.countP_cons,List.countP_cons,A λj x v f t=>h NK x v f t,h 0 _ _ rfl rfl]
   exact key xs its r a
  rw[HS s.toks];rw[show(its.toArray.toList)=its by simp,this]
def b5K(G:GG):y8 "list.index" rIndexL:=by
 rw[lF L K J];obtain⟨l,xs,y,k,rfl,rfl,E,A,fs,g,i,o,q⟩:=h;cases K;rw[GV u C J.one];rw[A6N B (I.lstM E)];obtain⟨D,b⟩:=b4A r fs y A C;have d:k<its.toArray.size:=by rw[nU B];exact g
 rw[oE F.slot_list_index qT F.entry_list_index F.args_list_index_2 (EJ6 SeqAt.list_indexAt _ u D k d (by rw[MR z sizeLine_eq];omega) ?_ ?_) (CCA e C5L k RH)]
 .rw[C1X g];rw[AD (b k _ _ a B03) (i _ a)]
 .intro m hm hmk;have p:m<xs.length:= ~~~b2E g hmk
  rw[C1X p];rw[AD (b m _ _ a (BL hm)) (o m _ hmk a)]
 .rw[lG j hj CBT];have c:kY:=by rw[A7F B hj]
  rw[C1X c];obtain⟨M,f,t⟩:=D2X;rw[AX hj f f];rw[AD (b j _ _ a hj) (ERS (.flat (C78 fs c) A) G t C)]
variable {o:Expr}{to:TE}
def c1s(K:qF)(i:GG)(h:cF)(g:ET)(f:AT:=by rfl)(b:eG "count":=by rfl)
  (d:lN:=by rfl)
  (c:TQ:=by rfl) (hs:CI:=by rfl) (a:L1:=by rfl) :
  ALG "count" rCount:=ALI PySem.F.slot_list_count PySem.F.type_list_count (b8O i)
def b5W(K:qF)(i:GG)(h:cF)(g:ET)(f:AT:=by rfl)(b:DBO:=by rfl)
  (d:lN:=by rfl)
  (c:TQ:=by rfl) (hs:CI:=by rfl) (a:L1:=by rfl) :
  ALG "index" rIndexL:=ALI PySem.F.slot_list_index PySem.F.type_list_index (b5K i)
def b4p:EDL b7d:=⟨b8c⟩
def c4J{td ty:TE}(c:GG)(b:sB)(a:BWK)(m:F0H:=by rw[CBV]):CU (B5I ZU) DOR:=⟨b8e CN0 b.h a.h m⟩
def c4I{f:Expr}{td ty tx:TE}(d:GG)(c:sB)(a:BWK)(b:DYH)(m:DPO:=by rw[CBV]):CU (B5I wZ) DO6:=(EYC b8d)
#where
#where
universe L2
namespace L2
variable {D:AC}
namespace TabS
open PySem L2.Tab
structure CameS(rows:B0N)(i:Nat)(D:AC):Prop where
 nd:D.Nodup
 mem:∀x,B1F↔ECX
 le:D.length<=i
noncomputable abbrev SetS(prog:qG)(w:World)(h:Heap)(a:qE)(D:AC):Prop:=h.SetOf (APZ strKind) a (λk=>CJ (k∈D)) D.length
section
variable {prog:qG}{w:World}{A:Around}{R:rV}{I:qE}{fp wr:EI}{G:DYF}{n:Nat}{P:DLM}{St:BST}
def c9L{S:qE}{x:Str}{t:Tok}{s:qC}{E:qH}{Q:fM}(b:DTV)(f:BVF D.length)
  (h:∀h' c,DDU S->pD h' S (if B1F then D else x::D)->Q c BK6):EE (setAdd S AWR):=by
 unfold setAdd;have hi:AW (ASU strKind is x AWR):=by show AW (D2E AWR);simp[Value.isStrOf]
 rw[DZ0 (ASU strKind pyHash hi ?_)];refine wpAny_setAddHashed_of (s:=dW) hi rfl b f λh' d a=>h h' _ d ?_;rw[YI B1F]
 .rw[CO c];rw[F1A]
  .rw[CK];simp[c]
  .simp[e]
 .rw[BC c];rw[F1A]
  rw[BSL]
  .simp[e]
def b6r{rows:B0N}{i:Nat}(h:EAI):BKX AO (if DIY then D else AOG::D):=by
 rw[YI DIY]
 .rw[CO c];rw[EHV h.nd (by rw[yB h.le a1U])]
  rw[EOE b]
  .rw[BM q j i]
   .subst q;rw[AD e c]
   .exact EDQ
 .rw[BC c];rw[EHV (List.nodup_cons.mpr ⟨c,h.nd⟩) (EFU h.le)]
  .rw[BW AHY]
   .rw[BA i AZ3 z]
   rw[EOE z]
  .rw[BM q j i]
   .subst q;rw[AD e List.mem_cons_self]
   .exact KN EDQ
def setS_at{h h':Heap}{a:qE}(x:pD h a D)(k:E5W):pD h' a D:=by
 obtain⟨o,es,ep,t,e1,e2⟩:=x;rw[GZ o es ep t (k o e1) e2]
def b4Y(W:F41)(S:qE)(l:DL4)(rows:B0N)
  (y:E7V EDJ) (N:CS<scanBound) :
  EVK D AC (n-i=k->B15->DYY->DTV->EAI ->
   EZC L (pD s'.heap S L) (BKX n L) ->
   ENR):=by
 have m:DL5:=λh=>l DQD;have d:E7O:=λb p=>KN p;intro k;induction k with
 |zero =>
  rw[F4A];have J:i=n:= XD c0T C
  rw[EZW J f q];rw[BVG (hR s' D (q.mono d) ESM) B]
 |succ k O =>
  rw[F4A];have a:LR:= ~~~c0N C
  rw[BP0 (AL3 i s a f (DW v s' M x q))];rw[MK tk (y i v a M)];have F:pD s'.heap S D:=ESM;rw[EYO (Value.str (rows i) tk) (CUN tk) (c9L F (by have:=B.le;exact lq 0x73d9a3a233055e5338 N a this) (BT h' c u H))];rw[EB2 (O AO _ _ (~~~c5P C) a (F1L x p) H (b6r B)) K z r j g]
  .rw[AD (B6M u.2 (APC l h p)) e]
  .refine hR K z (Moved.trans W.gtrans (ENP q.mono d p) r) j g;rw[AD (B6M u.2 (E2G p)) e]
#where
section
variable {prog:qG}{w:World}{A:Around}{E:qH}{s:qC}
def c4S{b:Bool}{h:Heap}{a:qE}(e:XY (ANJ b)):pD h a [] :=
 ⟨_,#[],0,_,e,BXA,rfl,(λe h=>ABZ),(λk=>AJ),(AI),(BA1),rfl⟩
def call_set_strs{l:qE}{items:CY}{rows:B0N}{Q:qH}
  (hh:PH) (hl:DHF) (y:CX5 EDJ) (hn:BVF items.size)
  (h:CZ5 AC CWQ (CT4 ->
   C44)) :
  CAW:=by
 rw[CEO]
 rw[TR]
 rw[CEC];cases r with
 |error e=>exact K
 |ok fl =>
  cases fl with
  |ret z =>
   rw[MK rfl K];generalize a2:(AAF)=a;rw[D0D]
   rw[TR]
   rw[CE0 (BG8 CWQ (CT4 /\
     ACE))]
   .rw[CEN u EW3 a2I T0 "list"]
    rw[CEI IsList u]
    wp_walk
    rw[DVM]
    have q:l≠ACV:=by
     rw[A8W p]
    rw[C7V (by
     rw[CBM])]
    have m:DVA
       = BQU:=OB P
    refine b4Y DVF s.heap.objs.size D rows y hn CUF 0 _ [] CQG F1
     C96 (c4S m) ⟨List.nodup_nil,(λx=>⟨(DET),(λ⟨j,hj,_⟩=>CYC)⟩),BO⟩ ?hR
    case hR =>
     rw[CEP (by
      rw[A8W S])]
     rw[CC8]
   .cases r₂ with
    |error e=>exact hr₂
    |ok fl₂ =>
     cases fl₂ with
     |ret r =>
      rw[CEJ]
      rw[TR]
      rw[CDW]
     |_=>rw[AYW]
  |_=>exact K.elim
#where
universe TabS
open PySem PySem.Spec PyProof.Rows
noncomputable def a9L(P:qG)(w:World)(a:qE)(n:Nat):HO:=C3A (∃D:AC,TabS.SetS P w h a D/\D.length=n)
inductive rSetS(K:qF)(P:qG)(w:World)(ys:AA)(H:Hp)(Q:VK):Prop
 |mk (p:qE) (ws:AC) (_:DMT) (_:ABC p A4W) (_:BVF ws.length) (_:∀(a:qE) (D:AC),yN->D.Nodup->(∀x,B1F↔x∈ws)->D.length<=ws.length->NZ a (yZ (BEH D.length))):ELT rSetS
inductive rLenN(P:qG)(w:World)(ys:AA)(H:Hp)(Q:VK):Prop
 |mk (a:qE) (n:Nat) (_:DMS) (_:WV (BEH n)) (_:n<ADF) (_:QM n):EKV rLenN
section
variable {X:Cx}
def b3d(K:qF)(P:qG)(w:World)(C:DV)(z:AT:=by rfl)(B:kO:=by rfl)(hw:kP:=by rfl):eJ A1D DOU:=by
 subst z B hw;rw[aA ys S O];obtain⟨p,ws,rfl,J,G,q⟩:=h;rw[T6 N O.one N];have E:X.A.handled=none:=CRQ;rw[AZ2 r A (I.list J)];have c:its.length=ws.length:=by rw[<-r.length,List.length_map]
 refine TabS.call_set_strs (rows:=λi=>ws.getD i Str.empty) E A.isList (BT i v hi k) (BK9 c G) (DT h' tk D y l F)
 .rw[MA k AJ6 k]
  have f:i<ws.length:=by rw[<-c];exact NE k
  rw[BX T g n r.get (show eT A4W=BU V.str ws[i] by rw[List.getElem?_map,BJY];rfl)];rw[AX k g g];rw[HN n];rw[AY t (B1S BJY)]
 .have hfr:yO:=aY;have m:=y;obtain⟨o,es,ep,t,g1,R⟩:=m;rw[DO (EXT a9L D.length F ⟨NJ D y,jS g1,λh1 h2 ⟨D,L,M⟩ kk=>⟨D,TabS.setS_at L kk,M⟩⟩ (q _ D hfr l.nd (λx=>?_) (by rw[C1O l.le List.size_toArray c]))) l.mem];constructor
  .rintro⟨j,d,rfl⟩;rw[List.size_toArray,c]at d;show DZI∈ws;rw[F2 List.getD_eq_getElem?_getD BT0 List.getElem_mem d]
  .intro hx;rw[lG j d hx];rw[LT j (by rw[List.size_toArray,c];exact NE d)];show x=DZI;rw[D4X d]
def b6A(P:qG)(w:World)(i:kO:=by rfl)(hw:kP:=by rfl):B2G D67:=by
 subst i hw;rw[aA ys v m];obtain⟨a,n,rfl,k,r,q⟩:=h;rw[T6 l m.one l];obtain⟨⟨D,j,g⟩,_⟩:=(BEW (DZ2 a9L n) k);obtain⟨o,es,ep,t,g1,c,d,_,_,p,e,f⟩:=j;have b:es.size=n:=by rw[f,g]
 refine call_len_set g1 c d e (XM b) (BB4 AFR (eX (X3 b)))
variable {e:Expr}{es:BN}{t:TA}{p pos:Pos}
def c4x(K:qF)(P:qG)(w:World)(h:D5X)(i:D7R)(d:ET)(f:DV:=by rfl)(b:AT:=by rfl)(c:kO:=by rfl)(hw:kP:=by rfl)(g:CI:=by rfl)(a:HV:=by rfl) :
  DFO DOU:=(F0F (b3d K P w f b c hw))
def c4B(P:qG)(w:World)(f:B0Z)(g:B1J)(c:ET)(b:kO:=by rfl)(hw:kP:=by rfl)(d:CI:=by rfl)(a:HV:=by rfl) :
  xT "len" D67:=(mV (F5 (b6A P w b hw) f g a9e) c.h d)
#where
open PySem PySem.Spec PyProof.Rows PySem.Builtin PySem.Builtin.Str PySem.StrLaws
inductive rJoinT(K:qF)(x:V)(vs:AA)(H:Hp)(Q:VK):Prop
 |mk (sep:Str) (p:qE) (ys:AC) (B:Nat) (_:DFI) (_:lE) (_:AQK p D6Q) (_:C3X) (_:ERM) (_:DYR) (_:E5Z):C0A rJoinT
section
variable {X:Cx}
def b8M(K:qF)(i:AT:=by rfl):DJ2 D89:=by
 subst i;rw[lF C y w];rw[F1V g j f];rw[HN y];rw[T6 r w.one r];rw[AZ2 m A (AYL hs)];rw[BX l rfl b a3l m];have k:DZ9:=by
  rw[AD b (joinFits g j)]
 rw[EYE meets_str_join_tuple k (by rw[wF e c n d A];rw[EB o n e c d])]
 match l,b with
 |[z],b =>
  rw[EV1]
  rw[EM9]
 |[],b =>
  rw[B9V]
  rw[ET0 f]
  rw[EOB]
 |ELX,b =>
  rw[B9V]
  rw[EJI f]
  rw[EC3]
variable {o e:Expr}{es:BN}{to:TE}{t:TA}{qO qM:Pos}
def c1r(K:qF)(h:cF)(g:ET)(f:AT:=by rfl)(b:DBN:=by rfl)
  (d:lN:=by rfl)
  (c:TQ:=by rfl) (hs:CI:=by rfl) (a:L1:=by rfl) :
  DSS D89:=(EPL b8M)
noncomputable def a2m(z:Str)(n:Nat):Str:=⟨CJ4 n z.cps.toList⟩
inductive rRepX(x:V)(y:V)(H:Hp)(Q:VK):Prop
 |mk (z:Str) (n:Nat) (_:xO z) (_:BYB) (_:z.length<=10) (_:YQ) (_:A4X E0F):YW rRepX
def b0I(c:rM):y4 n a rM ((gQ n c foldl (λb d=>b++d) a).toList=a.toList++XL n c.toList)
 |0,a=>AJ
 |CS,a=>by
  rw[EGE (b0I c n) List.replicate_succ List.flatten_cons Array.toList_append]
def c3Y(z:Str)(n:Nat):PySem.Txt.mul z n=E0F:=by
 rw[cW PySem.Str.ext' Array.toList_inj.mp];unfold PySem.Txt.mul a2m;rw[BM a n 0]
 .subst a;rfl
 rw[BC (bY 0x1df7de1e8b03418125)];by_cases h1:A4U (FE==1) (z.length==0)
 .rw[CO h1];simp only[Bool.or_eq_true,beq_iff_eq]at h1;rcases h1 with h1|h1
  .have:n=1:= BRO 0x346f1040d8627f7e555
   rw[pJ];simp
  .have hz:z.cps.toList=[]:=by
    rw[<-List.length_eq_zero_iff,Array.length_toList];exact h1
   rw[hz];have:∀m:Nat,XL m ([]:rE)=[]:=λm=>by induction m with
    |zero=>rfl
    |succ m b=>rw[C3N b]
   rw[this]
 .rw[BC h1];rw[LS b0I]
def c3I:AJP rRepX:=by
 rw[NH b c];rw[VN z n rfl rfl a h1 q];rw[BLB];refine iZ PySem.SB.mul ?_ DYN DYN λd k=>⟨.str (a2m z n),H,?_,eX (X3 c3Y),q⟩
 .rw[B06,B06];rfl
 .rename_i hn _;have h2:BG 1000<=CNC n:=Int.le_ediv_of_mul_le (BH 0x1a5a29350491955 hn) AF;omega
 .have hm:z.length*(FE).toNat<=10*1000:=CR8 AF;rw[E06 (_ > sizeLine) (XM sizeLine_eq)]
 .exact I.tok _
def c7Q{a b:Expr}{ta tb:TE}{pos:Pos}(c:CA)(d:CZ):AK0 rRepX:=(WA c3I)
#where
universe L2
namespace L2
open PySem PySem.Spec PyProof.Rows
section
open PySem.W
noncomputable def c4N:B3K
 |.non=>true
 |_=>false
noncomputable def a7v:DCR
 |.none=>true
 |_=>false
inductive rInN(K:qF)(x:V)(y:V)(H:Hp)(Q:VK):Prop
 |mk (p:qE) (xs:AA) (_:BFC) (_:ABB p) (_:ALB) (_:(SZ xs EFY)) (_:Q (.bl (xs.any c4N)) H):B4V rInN
section
variable {X:Cx}
def c7h(K:qF)(d:GG)(k:AT:=by rfl):B21 D8A:=by
 subst k;rw[NH z B];rw[VN p xs rfl rfl l m q];cases z;cases B;rw[A85 t C l];have c:=r.length;have key:y4 i hi (i<its.length) (B6N X.A.in1 AIM .none a7v AIM/\∃b:AHX,a7v AIM=c4N AQO):=XO (by
  have o:AZV (xs[i]'(ASR)):=BT1;rw[BX D e1 e2 r.get o];rw[AGS XR];rcases DDC m (ASR:AHX)with e|⟨a,vs,e,g⟩
  .rw[e]at e2;have f:AIM=.none:=e2;rw[EA5];rw[f];rw[QS ((CZT X.K .non (y:=.non) rfl rfl).at I (A:=X.A.in1) (u:=.none) (v:=.none) (ESN 0xdcfc0ed2fdb2db95c0d9a7312a7) rfl rfl) (b0M rfl)]
  .rw[e]at e2;have f:LH AIM a:=e2;obtain⟨j,_,pt,_⟩:=EH7 g;rw[EA5];rw[AD f (SeqAt.EqAt.tuple_none pt (ESN 0x293bb827e6abf67e0a7312a7))])
 have g:its.any a7v=xs.any c4N:=by
  rw[Bool.eq_iff_iff,List.any_eq_true,List.any_eq_true];constructor
  .rw[EVY (vJ key)];exact FP (List.getElem_mem b) (RZ e' e)
  .rw[EVY (key i DRO)];rw[BA (its[i]'(DRO)) (List.getElem_mem _) (wJ e')]
 refine SeqAt.in_listAt a7v t.isList C5L (BDE ?_)
 .rw[AF5 CBT];exact(vJ key).1
 .rw[CM (show its.toArray.any a7v=its.any a7v by simp) g q]
variable {a b:Expr}{ta tb:TE}{pos:Pos}
def c7J(K:qF)(g:GG)(d:CA)(e:CZ)(f:B3W)(c:AT:=by rfl):W2 .In D8A:=(B8N J0 (c7h K g c))
#where
#where
section
section
variable {prog:qG}{w:World}{A:Around}{I l S:qE}{vs:AN}{kw:qS}{R:rV}{h₀:Heap}{s:qC}
#where
section
variable {prog:qG}{w:World}{A:Around}{E:qH}{s:qC}
#where
section
variable {X:Cx}{e:Expr}{es:BN}{t:TA}{p pos:Pos}
#where
#where
universe L2
namespace K50
open PySem PySem.Spec PyProof.Rows L2
section
variable {C a b c p:qE}{F L W rss:LLI}{H H':Hp}{P:qG}{Q:VK}{base:Heap}{cs:AS}{i j k:Nat}{qL:YP}{mg:BJ}{o:HO}{r u v:qI}{vs:AA}{w:World}{σ:L2.St}
noncomputable def top(i:Nat):Stmt:=PySem.Challenge.pw_leastlays_k50_desk_finds.main.body.getD i (.Pass CBB)
noncomputable abbrev b1C:Stmt:=BD 1
noncomputable abbrev a5g:Stmt:=BD 2
noncomputable abbrev a3p:Stmt:=BD 11
noncomputable abbrev b1A:Stmt:=BD 12
noncomputable abbrev a0V:Stmt:=BD 13
noncomputable abbrev a3q:Stmt:=BD 14
noncomputable abbrev a8k:Stmt:=BD 15
noncomputable abbrev a8l:Stmt:=BD 17
noncomputable abbrev b1B:Stmt:=BD 18
noncomputable abbrev a8g:Stmt:=BD 20
noncomputable abbrev a5j:Stmt:=BD 22
noncomputable abbrev b1z:Stmt:=BD 23
noncomputable abbrev a2h:Stmt:=BD 24
noncomputable abbrev a0W:Stmt:=BD 25
noncomputable abbrev X7:Stmt:=BD 27
noncomputable abbrev a5h:Stmt:=BD 28
noncomputable abbrev a8h:Stmt:=BD 29
noncomputable abbrev a0U:Stmt:=BD 31
noncomputable abbrev a0n:Stmt:=BD 32
noncomputable abbrev a8j:Stmt:=BD 34
noncomputable abbrev a2c:Stmt:=BD 36
noncomputable abbrev a2g:Stmt:=BD 40
noncomputable abbrev a3t:Stmt:=BD 41
noncomputable abbrev b1D:Stmt:=BD 43
noncomputable abbrev a2i:Stmt:=BD 44
noncomputable abbrev a3r:Stmt:=BD 49
noncomputable abbrev a0o:Stmt:=BD 50
noncomputable abbrev T5:Stmt:=BD 51
noncomputable abbrev X6:Stmt:=BD 52
noncomputable abbrev a5i:Stmt:=BD 54
noncomputable abbrev a0T:Stmt:=BD 55
noncomputable abbrev a0m:Stmt:=BD 56
noncomputable abbrev a2f:Stmt:=BD 57
noncomputable abbrev X1:Stmt:=BD 58
noncomputable abbrev a2d:Stmt:=BD 61
noncomputable abbrev X5:Stmt:=BD 62
noncomputable abbrev X2:Stmt:=BD 64
noncomputable abbrev a0S:Stmt:=BD 65
noncomputable abbrev a0l:Stmt:=BD 66
noncomputable abbrev a2e:Stmt:=BD 67
noncomputable abbrev T4:Stmt:=BD 68
noncomputable abbrev X4:Stmt:=BD 69
noncomputable abbrev a8i:Stmt:=BD 71
noncomputable abbrev a0k:Stmt:=BD 72
noncomputable abbrev a5m:Stmt:=BD 73
noncomputable abbrev a5n:Stmt:=BD 74
noncomputable abbrev a3s:Stmt:=BD 82
noncomputable abbrev a5l:Stmt:=BD 83
noncomputable abbrev T3:Stmt:=BD 84
noncomputable abbrev a2j:Stmt:=BD 88
noncomputable abbrev a0X:Stmt:=BD 89
noncomputable abbrev a3u:Stmt:=BD 90
noncomputable abbrev a0q:Stmt:=BD 91
noncomputable abbrev a0p:Stmt:=BD 92
noncomputable abbrev X9:Stmt:=BD 93
noncomputable abbrev X8:Stmt:=BD 94
noncomputable abbrev T7:Stmt:=BD 95
noncomputable abbrev a0r:Stmt:=BD 96
noncomputable abbrev a2k:Stmt:=BD 97
noncomputable abbrev a5k:Stmt:=BD 98
noncomputable abbrev M4:Stmt:=zX 0
noncomputable abbrev a6I:Stmt:=zX 1
noncomputable abbrev I9:Stmt:=zX 2
noncomputable abbrev a5o:Stmt:=zX 3
noncomputable abbrev Y0:Stmt:=zX 4
noncomputable abbrev T8:Stmt:=zX 5
noncomputable abbrev T9:Stmt:=zX 6
noncomputable abbrev N1:Stmt:=AJH 0
noncomputable abbrev a0s:Stmt:=AJH 1
noncomputable abbrev K8:Stmt:=AJH 2
noncomputable abbrev N0:Stmt:=AJH 3
noncomputable abbrev Y5:Stmt:=AJH 4
noncomputable abbrev O8:Stmt:=zY 0
noncomputable abbrev a2l:Stmt:=zY 1
noncomputable abbrev Y6:Stmt:=zY 2
noncomputable abbrev O7:Stmt:=zY 3
noncomputable abbrev K0:Stmt:=zY 4
noncomputable abbrev a5p:Stmt:=zY 5
noncomputable abbrev a5q:Stmt:=zY 6
structure Tx(mg:BJ):Prop where
 b_ValueError:MC "ValueError"
 b_abs:MC "abs"
 b_all:MC "all"
 b_any:MC "any"
 b_enumerate:MC "enumerate"
 b_int:MC "int"
 b_isinstance:MC "isinstance"
 b_len:MC "len"
 b_list:MC "list"
 b_max:MC "max"
 b_min:MC "min"
 b_range:MC "range"
 b_set:MC "set"
 b_sorted:MC "sorted"
 b_str:MC "str"
 b_sum:MC "sum"
 b_tuple:MC "tuple"
 b_zip:MC "zip"
noncomputable def pk(b:qE)(l t k:Int):KZ:=[(DP "own",F0),BYO "left" l,BYO "seed" t,BYO "many" k]
section
variable (b:qE)(l t k z:Int)
def c6I:F9 iH BGX=BRS:=CG
def c3r:F9 iH ADM=AVW:=CG
def c3o:F9 iH ADN=DZ t:=CG
def c3p:F9 iH ADO=BSA:=CG
def b7R:CDC ADM ERE:=CG
def b7P:CDC ADN EIE:=CG
def b7Q:CDC ADO (ANT z):=CG
def c3q:a3y [] (EW7 l k)=iH:=CG
#where
structure PotAt(H:Hp)(a b:qE):Prop where
 ne:AKG
 ex:∃(cs:qI) (l t k:Int),BDG/\BWL
def PotAt.same(h:QX)(s:BP):SQ:=by
 rw[F2O h1 h2 BSF D55]
def J6(h:QX){xs:AA}(d:DRC):BWE:=by
 rw[F4B (VP d h1) (VP d h2)]
def J1(h:QX)(d:EC c):BWE:=by
 rw[F4B (oS h1 d) (oS h2 d)]
def a4G(h:QX)(d:BWE):CT1 BKQ:=by
 rw[AYD d];rw[F2O e1 e2 (AG (A4 (Ne.symm d.1)) e1) (AG (A4 (Ne.symm d.2)) e2)]
def IT.pot{v:V}{ns:qI}(h:BZF)(d:QX)(o:OZ):DD5:=by
 rw[OP c e q h c e (o c _ (J6 d q) q)]
def Its.pot{H H':Hp}{vs:AA}{rss:LLI}{a b:qE}(h:TM)(c:QX)(o:OZ):AMI:=(E63 (IT.pot e2 c o))
def b1Q{l:EI}(s:AIO)(hp:RE):EUQ:=QC u a (by
 rw[AD (aO e hp) B8A])
def a5H(o:OZ)(c:SQ)(hp:pC):RE:=by
 rcases e:H p with _|u
 .rfl
 .rw[AHJ (AK o (J1 c hp) e) hp]
section
variable {K:qF}
inductive IspPot(K:qF)(vs:AA)(H:Hp)(Q:VK)(E:XK):Prop
 |mk (a:qE) (ns:qI) (_:A7K) (_:B7A) (_:HK ns.length) (_:∀p b H',RE->KW->CEY p->BP->vY):E6W
noncomputable def c5r(K:qF):Sp:=BA8 E6W
def sc__law_pot:D9W ["_law_script","_law_seed","_law_own","_law_cell"] a2j:={}
def c7m(F:SO "_law_pot" a2j "_law_script")(T:AV):ELK:=by
 rw[BV sc__law_pot l g q]
 rw[QW a ns]
 .obtain⟨a,ns,rfl,hS,hl,k⟩:=h;rw[YR m]
  rw[CD (DHA A6
 (DSY sc__law_pot.nd
 (A1 (B3M 3 sc__law_pot.nd
 (DHA (BW2 (O3 (O3 (DF9 A6) E6E) A6))
 (A3 (AAB c9n 3 (c5U A6 A6)
 (ADG (gL J4 2 jT))
 B4))))
 (SG c7U (EX7 rN (EX7 ZX c7M))))))]
  rw[lC b c];rw[MO n H UP c];rw[DQ (hZ a (GH _ n.seq hS))];rw[JZ (O4 (K:=K) (a:=a) (xs:=v3) (λi σ H2=>Ex3 λ(BG t) (cs:qI) (v:fG)=>An3 (σ=[dD,DZ t,BRS,v]) (cs.length<=i) (H2=ZN b A3O)) ⟨17,[],none,rfl,BO,rfl⟩
   (λi σ H2 _ (IQ _ _ _ _ e)=>A5K e ((xL c).seq hS))) ?_]
  .rintro i x σ H2 hx ⟨t,cs,v,rfl,hcs,rfl⟩;have hi:i<ns.length:=by rw[vR D8G]
   rw[eQ z (R8 hx)];rw[DQ ⟨_,rfl,_,_,rfl,rfl,BT8,_,rfl,_,_,rfl,rfl,(A3S 2147483587),_,_,rfl,rfl,_,_,rfl,rfl,_,_,rfl,rfl,C1K,?_⟩];rw[DQ ⟨_,rfl,_,_,rfl,rfl,ECD,_,_,rfl,rfl,_,rfl,nS⟩]
   .refine F3L (BAK _ mJ) b A0 (OQ (lq 0xd566f1c41ba601cf01163667ddc80e8 hl m hcs hi));exact IQ (cs++[z]) _ rfl (by rw[AFD];simpa using hcs) (BKD a2F)
   .exact IQ cs _ rfl (AHK hcs) rfl
  .rintro σ H2 ⟨t,cs,v,rfl,hcs,rfl⟩;refine λp d=>ABW A0 (EW7 0 0) (aI (4<=15)) ?_;rw[c3q,a2F];have j:nC:=A5 (o:=A3O) A0 d;rw[oT A3O c];exact k p b _ (s1.free d) c ⟨j.symm,cs,0,t,0,A0,B1I j⟩ (s1.upd d)
inductive IspNext(vs:AA)(H:Hp)(Q:VK)(E:XK):Prop
 |mk (a b:qE) (m:Int) (_:ASE AHO) (_:QX) (_:0<m) (_:m<A01) (_:∀r H',0<=r->r<m->SQ->OZ->CS4 r):GK IspNext
noncomputable def a4Y:Sp:=HH IspNext
def sc__law_next:DA ["_law_pot_here","_law_many","_law_drawn","_law_mixed"] ["_law_pot_here","_law_many"] a0X:={}
def c3S(F:DAX "_law_next" a0X "_law_many")(T:AV):AN5:=by
 rw[BV sc__law_next N G O]
 rw[CAH a b m]
 .obtain⟨a,b,m,rfl,⟨ne,cs,l,t,k,r,v⟩,hm0,hm1,kk⟩:=h;have n:=O.u60;rw[YR D]
  rw[CD (A1 (B7J (G8 gF A6) (c1l K n gF BZO)
 (A3 (B8V (a6a K gF XA)))
 B4)
 (A1 (AKZ a1m gF
 (CQ 2 sc__law_next.nd (DJK gF)
 (A1 (B8V (c4G gF (jv 1)))
 B4P))
 B4)
 (A1 (B8V (O3 gF A6))
 (CQ 3 sc__law_next.nd (a2Y (a2X (O3 gF (a2X gF A6)) A6) A6)
 (A1 (B8V (BW2 (D4 a2X 3 (O3 E6E A6))))
 (GS (DJK (c7T gF A6))))))))]
  have y:B9Y "left" AVW:=B9U c3r ADM
  have J:B9Y "own" BRS:=B9U c6I BGX
  have gS:B9Y "seed" (DZ t):=B9U c3o ADN
  have I:B9Y "many" BSA:=B9U c3p ADO
  have M:CEL "left" ERE:=CEH b7R ADM
  have S:CEL "seed" EIE:=CEH b7P ADN
  have R:CEL "many" (ANT z):=CEH b7Q ADO
  rw[B9L (σ=[dD,ATG,none,none]/\OZ/\∃(cs:qI) (l:Int),A1G a .dK iH/\WB H' A3O)]
  case fin =>
   clear r v;rintro σ H1 ⟨rfl,d,cs,l,r,v⟩;rw[F4G a (y r)]
   .refine⟨_,rfl,a,_,rfl,y r,_,rfl,_,_,rfl,rfl,hm0,?_⟩;rw[DQ ⟨_,rfl,a,_,rfl,y r,_,rfl,_,_,rfl,rfl,⟨hm0,hm1⟩,_,rfl,a,_,rfl,M r,?_⟩];rw[cA (kk _ _ ECN DQB (EZO v) D9H)]
   .refine⟨_,rfl,a,_,rfl,I r,_,_,rfl,rfl,_,rfl,a,_,rfl,R r,?_⟩;rw[ER j (upd H1 a DVP b=some A3O) (A4 ne.symm) v]
    have g:upd H1 a DVP a=BU .dK BH0:=A0;have u:BTF EMV:=D9H;rw[A6U EMV g j u];refine⟨_,rfl,a,_,rfl,gS g,_,rfl,a,_,rfl,I g,_,_,rfl,rfl,BT8,_,_,rfl,rfl,_,_,rfl,rfl,BT8,_,_,rfl,rfl,C1K,?_⟩;generalize L:(t+A2U*104729)*48271 % 2305843009213693951=x;rw[XX x0 WH L (CQO AI)]
    rw[XX W (x<2305843009213693951) L (CQP AI)]
    rw[DQ ⟨_,rfl,_,rfl,_,_,rfl,rfl,(A3S 1009),_,_,rfl,rfl,_,_,rfl,rfl,B86,_,_,rfl,rfl,C1K,_,rfl,a,_,rfl,S g,?_⟩];refine⟨_,rfl,a,_,rfl,gS A0,_,_,rfl,rfl,CNV,_,rfl,_,_,rfl,rfl,hm0,?_⟩;exact kk _ _ ECN DQB (EZO j) (SE u.set)
  refine B9J a (y r) (a1S A9U (λe=>B5 (VF (y7 xI cs l r v))));refine KH (BI c8K b b cs cs (λU q=>oQ a _ rfl (J r) q) v) p C;rw[AE g (E91 r) j (E91 v)];have d:BTF B2D:=(xI).upd C;rw[AZ7 B2D g j d];cases cs with
  |nil=>exact B5 (VF (y7 d [] l g j))
  |cons c cs =>
   rw[QP ⟨_,rfl,a,_,rfl,J g,VC j,b,_,0,0,_,rfl,rfl,j,AI,AI,seqIndex_of AI AJ,rfl,?_⟩];rw[oY B (upd H1 b (cL (FQ sO V.int).eraseIdx 0) a) (BU .dK iH) (A4 ne) g]
   refine⟨_,rfl,a,_,rfl,M B,VF (y7 (B2B d.set AJ) cs c A0 ?_)⟩;rw[A4 ne.symm,A0];rfl
inductive IspOf(vs:AA)(H:Hp)(Q:VK)(E:XK):Prop
 |mk (a b l:qE) (xs:AA) (_:ASE HQ) (_:QX) (_:YU) (_:VM l) (_:D5D) (_:NS) (_:∀r H',r∈xs->SQ->OZ->UE r):GK IspOf
noncomputable def c2G:Sp:=HH IspOf
def b1y:lJ "_law_pot_here" "_law_some" "_law_pot_here" "_law_some" a3u:={}
def c9f(F:DAX "_law_of" a3u "_law_some")(T:AV)(c:AN5):B9G:=by
 rw[BV b1y m g o]
 rw[bK a b l xs]
 .obtain⟨a,b,l,xs,rfl,hP,hl,hn,h0,h1,k⟩:=h;rw[GF (gL J8 1 (BBU o.mono D2R))];have n:EA xs.length<A01:=jO (show HK AFP by exact b9n h1);refine⟨_,rfl,_,rfl,_,rfl,l,_,rfl,BW8,a,b,_,rfl,hP,~~~b2l h0,n,DT r H1 q p e d⟩;rw[LV j rfl (YK j (r=j)) r.toNat AF];have i:kY:= ~~~b2r p
  refine⟨l,_,_,_,rfl,rfl,B02 d hn hl,N9 (j:=j) (List.getElem?_eq_getElem i),k _ H1 (List.getElem_mem i) e d⟩
#where
def a6y{ns:qI}(h:k<ns.length):BZS ns.map kH=DZ (ns.getD k 0):=by
 rw[EXG]
def sqt{K:qF}{xs:AA}(h:zW):BCC true:=D3V
noncomputable def Bel(xs ys:qI):Bool:=AB3 (λa b=>CJ (a<=b)) all id
def c8C(xs ys:qI):AB3 (λa b=>A4A (a<=b)) all trV=DEM:=by
 unfold Bel;induction xs generalizing ys with
 |nil=>rfl
 |cons x xs c =>
  cases ys with
  |nil=>rfl
  |cons y ys=>simp only[List.zipWith_cons_cons,List.all_cons,c ys];rfl
def a7N{γ:Type}(f:A0B)(g:BYY):EQQ
 |[],_=>rfl
 |HI,[]=>rfl
 |IO,NU=>CD1 a7N
section
variable {K:qF}
#where
def c1P(n:Nat):XL n A5J=CH3 n V.int:=by
 induction n with
 |zero=>rfl
 |succ n a=>rw[EUH]
noncomputable def dot(xs ys:qI):Int:=AB3 (λa b=>a*b) sum
noncomputable def Ans(rss:LLI)(ys:qI):Bool:=rss.all λr=>CJ EMT
noncomputable def Sm(ys:qI):Prop:=kR ys (-eZ<z/\z<eZ)
section
variable {K:qF}
inductive IspRowSum(vs:AA)(H:Hp)(Q:VK)(E:XK):Prop
 |mk (x:_) (y:_) (xs:_) (ys:_) (_:C3O) (_:B6U) (_:gB) (_:NS) (_:AKE) (_:B2P DEN):GK IspRowSum
noncomputable def Z5:Sp:=HH IspRowSum
def b1u:AGP "row" "row" a3p:={}
def b1L(F:A4T "row_sum" a3p "row")(T:AV):B8Z:=by
 rw[BV b1u d c l]
 rw[B95]
 .obtain⟨_,_,xs,ys,rfl,⟨a,rfl,ha⟩,⟨b,rfl,hb⟩,hl,hs,k⟩:=h;rw[GF (ZB c1u T.b_sum (WO (C90
 B7E) (AJB a2X)))]
  rw[BP2 (b4O (caps:=[]) (BXK (x*y)) hl BOB rfl (λx y H1 j _ g _ q=>EWC (.inr (hs y g)))) e];rw[C34 a7N (x*y)];exact EYN D35
inductive IspSums(vs:AA)(H:Hp)(Q:VK)(E:XK):Prop
 |mk (a:qE) (y:V) (us:AA) (rss:LLI) (ys:qI) (_:C01) (_:zV) (_:PJ) (_:gB) (_:kZ) (_:BYG) (_:AKE) (_:A0F B4T):GK IspSums
noncomputable def b1r:Sp:=HH IspSums
def c2S:E81 b1A:={}
def c3Q(F:BZ6 "sums" b1A)(T:AV)(b:B8Z):CBO:=by
 rw[BV c2S g e d]
 rw[AMO a y ys]
 .rw[F5E c];rw[GF (bP (aK "row" "one" uI AQN
 (UL (tZ "row"))) (kL d.mono jC))]
  refine AGA a ha;rw[EX (SJ a4E [BJF] (λr=>C8X) c DAL hI rfl (λv r H1 n d m s1 q=>B61 v y r ys m (hy.same s1) (hl2 r d) hs q)) H1 p s j];rw[B7L (ASM C8X) (FQ B4T)];rw[C9W j]
inductive IspIsAns(vs:AA)(H:Hp)(Q:VK)(E:XK):Prop
 |mk (a:qE) (y:V) (us:AA) (rss:LLI) (ys:qI) (_:C01) (_:zV) (_:PJ) (_:gB) (_:kZ) (_:BYG) (_:AKE) (_:A56 E2L):GK IspIsAns
noncomputable def b3M:Sp:=HH IspIsAns
def a8e:E81 a0V:={}
def a8t(F:BZ6 "is_answer" a0V)(T:AV)(b:CBO):EBQ:=by
 rw[BV a8e j d m]
 rw[AMO a y ys]
 .rw[F5E hl];rw[GF (AGZ (oF "total" (E1 K (B2W m.mono a3z jC))
 (eD "total")) (AJA a1l))]
  refine F4R hl hl2 c;rw[GV q g c];rw[C0W q g];rw[EX (a9u (caps:=[]) (λx=>E5E) (E9J hl) (bA g) rfl (λx H2 n _ _ q=>BV3 q)) H2 p s2 l];rw[A9B p ?_]
  .rw[BMY c];rw[eQ x (List.mem_map.mp c)];rfl
  .have e:(FQ B4T λx=>E5E).all trV=E2L:=by
    rw[List.all_map,List.all_map];unfold Ans;congr 1;funext r;show eY (CJ (eB C8X 0)) EMT;simp
   rw[AD e (k _ (s1.trans (s2.upd l)))]
#where
def a9h{α β γ:Type}(f:B6G Int)(g:BYY):∀(xs:CL) (ys:A6V),D0G
 |[],_=>rfl
 |HI,[]=>rfl
 |IO,NU=>CD1 a9h
noncomputable def c5v(rss:LLI)(ts:qI)(j:Nat):Int:=ATD (λt r=>t*AIP) ts rss sum
noncomputable def b3k(rss:LLI)(ys:qI)(j:Nat):Int:=DEE B4T
noncomputable def Rs(n:Nat)(rss:LLI):Prop:=jA rss (AVP n (Sm r))
def Sm.at(h:Sm r)(a:j<r.length) : -eZ<AIP/\AIP<eZ:=by
 refine B3P;rw[F2 List.getD_eq_getElem?_getD AE5 List.getElem_mem _]
section
variable {K:qF}
inductive IspPullOf(vs:AA)(H:Hp)(Q:VK)(E:XK):Prop
 |mk (a:qE) (y:V) (us:AA) (rss:LLI) (ts:qI) (j n:Nat) (_:vs=[CC,y,aW]) (_:zV) (_:PJ) (_:ZQ y ts) (_:HK ts.length) (_:j<n) (_:YQ) (_:Rs n rss) (_:B2P (DEE ts)):GK IspPullOf
noncomputable def a9C:Sp:=HH IspPullOf
def b1v:DA AXU AXU a3q:={}
def b1M(F:HL "pull_of" a3q AXU)(T:AV):EMZ:=by
 rw[BV b1v e c d]
 rw[A97 a y us rss ts j n]
 .obtain⟨a,_,us,rss,ts,j,n,rfl,ha,hI,⟨b,rfl,hb⟩,hl,hj,hn,hR,k⟩:=h;rw[GF (ZB c1u T.b_sum (WO (C9Z "total" "row" "j" AR9 zL
 (wB CWD CWD)) (D4 a2X 0 DP6)))]
  refine AT4 b a hb ha;rw[EX (SJ b6L [ATH] (λt r=>DI (t*AIP)) hl (CKA hb ha) hI rfl (λx v r H1 m _ d l _ q=>?_)) H1 p s g]
  .rw[GV va hva l];obtain⟨e1,e2⟩:=hR r d;exact⟨_,rfl,_,rfl,_,rfl,va,_,_,_,rfl,rfl,FU hva,EKK e1,_,_,rfl,rfl,lT e2.at (~~~b2f hj e1),q⟩
  .rw[a9h (λt r=>t*List.getD r j 0) V.int];exact EYN D62
inductive IspFalls(vs:AA)(H:Hp)(Q:VK)(E:XK):Prop
 |mk (a:qE) (y:V) (us:AA) (rss:LLI) (ys:qI) (_:C01) (_:zV) (_:PJ) (_:gB) (_:kZ) (_:BS8) (_:C2G) (_:AKE) (_:A0F (FQ CXZ λ(PN i)=>RO)):GK IspFalls
noncomputable def b3N:Sp:=HH IspFalls
def sc_falls:DA (ANU "one" "totals") (tZ "rows") a8k:={}
def b8B(F:BZ6 "falls" a8k)(T:AV)(b:EMZ)(c:CBO):EBR:=by
 rw[BV sc_falls n m e]
 rw[AMO a y ts]
 .obtain⟨a,y,us,rss,ys,rfl,ha,hI,hy,d,hn,hR,hs,k⟩:=h;rw[CD (B6Q 2 sc_falls.nd (oP c e.mono a3z jC)
 (AIA (C9I (A9J C0 (N:=["j","rows","totals"]) (src:=[none,ZW,AR9]) (B7H eU)
 (UL ["j","rows","totals"])) b4k (kL e.mono (WN (EG 2 WL))) A6)))]
  rw[VQ (F4R d (λr e=>AG (BQW e) hn) t)];rw[BX x rfl g hy.same s1];rw[EXU x g AF];rw[EX (b1G (caps:=[dD,RX]) BWS hn rfl (C89 H2 B s2)) H2 p s2 o]
  .refine⟨_,rfl,_,rfl,_,rfl,a,v,us,rss,_,i,ys.length,rfl,E7E,hI.same (s1.trans s2),t.same s2,E9J d,hi,hn,hR,BK z u⟩;exact BOT (q _ u)
  .rw[BIS d (s1.trans ((s2.upd o).upd d))]
#where
def a3f(x y:Int)(xs ys:qI):dot IO NU=x*y+DEN:=by unfold dot;rw[List.zipWith_cons_cons,List.sum_cons]
noncomputable def R9(now:qI)(j:Nat):qI:=now.set j (now.getD j 0+1)
noncomputable def Under(now xs:qI):Prop:=now.length=xs.length/\∀j,kY->now.getD j 0<=D79
def V4(a:qI)(j:Nat):IS R9 a j=a.length:=List.length_set
def c4Z(a:qI)(j k:Nat)(b:BS7):(R9 a j).getD k 0=if k=j then a.getD j 0+1 else a.getD k 0:=by
 unfold R9;rw[List.getD_eq_getElem?_getD,List.getElem?_set];rw[GD j k]
 .rw[CK];rw[EJ,BJI,EJ];rfl
 .rw[IX,E2X,List.getD_eq_getElem?_getD]
def b3I:ACG xs qI k z Int (AJE->(xs.set k z).sum=xs.sum-xs.getD k 0+z)
 |[],_,_,h=>sJ
 |IO,0,z,_=>by rw[List.set_cons_zero,List.sum_cons,List.sum_cons,List.getD_cons_zero];rw[VY 0x30c3a41451915c8e]
 |IO,CF,z,h=>by rw[List.set_cons_succ,List.sum_cons,List.sum_cons,List.getD_cons_succ,b3I xs k z yM];rw[VY 0x1c978819e44407a5df2aa]
def b0Y(a:qI)(j:Nat)(h:BS7):(R9 a j).sum=a.sum+1:=by
 unfold R9;rw[BB (GX b3I h) lq 4640591445492082]
def Under.tail{x y:Int}{xs ys:qI}(h:Under IO NU):x<=y/\A4C Under :=
 ⟨BL (FD 0 AJ),BL DE,λj a=>BL (FD NK rO)⟩
def c6s(l:qI)(h:jU l):0<=l.sum:=by
 induction l with
 |nil=>exact Int.le_refl _
 |cons x l b =>
  rw[List.sum_cons];have:=h x (List.mem_cons_self ..);rw[QE (b λy a=>h y jK)]
section
variable {K:qF}
inductive IspBelow(vs:AA)(H:Hp)(Q:VK)(E:XK):Prop
 |mk (x:_) (y:_) (xs:_) (ys:_) (_:C3O) (_:B6U) (_:gB) (_:NS) (_:A56 DEM):GK IspBelow
noncomputable def a8a:Sp:=HH IspBelow
def b7r:DZP a8l:={}
def b8E(F:HL "below" a8l ATV)(T:AV):C8U:=by
 rw[BV b7r d c l]
 rw[B95]
 .rw[F5B hl];rw[GF (AGZ (C90
 B7E) (AJB b4i))]
  rw[EW9 (λx y=>A4A (x<=y)) hl e];rw[A9B p ?_]
  rw[DOO g g]
  .rw[AD c8C (k _ D35)]
inductive IspUnit(vs:AA)(H:Hp)(Q:VK)(E:XK):Prop
 |mk (wd:Int) (n j:Nat) (_:QA (BQ wd) aW) (_:wd=n) (_:YQ) (_:j<n) (_:A0F (AWX BM1)):GK IspUnit
noncomputable def b7h:Sp:=HH IspUnit
def c2R:lJ "width" "j" "width" "j" b1z:={}
def c3O(F:XU "unit" b1z "width" "j")(T:AV):ES8:=by
 rw[BV c2R b a m]
 .obtain⟨_,n,j,rfl,_⟩:=h;rfl
 .obtain⟨_,n,j,rfl,rfl,hn,hj,k⟩:=h;rw[GF (bP (aK "k" "j" uI (A50 N5 T.b_range)
 (UL ["k","j"])) (a6b (AJB G8) A6 A6))]
  rw[D6B (EPH n)];rw[EX (a5v (caps:=[ATH]) (λi=>D3I) hn rfl (C89 H1 g _)) H1 p s d]
  .refine EDX nS
   .rw[SF e1 RO rJ e]
    have e':jN:= BH 0x1df6526e7032b02996 e1
    rw[CO e']at q;exact q
   .rw[MA e1 (¬RO=rJ) e]
    have e':i≠j:= BH 0x3d88b437a1ce563f3996 e1
    rw[D4E]at q;exact q
  .rw[B7L (AWX D3I) (FQ E94)];rw[C9W d]
noncomputable def cV:DAC
 |none=>.non
 |AQ c=>BQ c
noncomputable def c8o(c:FF)(x:Int):Bool:=EOM (CJ (x<=c))
noncomputable def Wi(cs:AS)(xs:qI):Bool:=EL4 c8o id
def c8E(cs:AS)(xs:qI):EL4 ESJ trV=E8L:=by
 unfold Wi;induction cs generalizing xs with
 |nil=>rfl
 |cons c cs a =>
  cases xs with
  |nil=>rfl
  |cons x xs=>rw[List.zipWith_cons_cons,List.zipWith_cons_cons,List.all_cons,List.all_cons,a];rfl
inductive IspWithin(vs:AA)(H:Hp)(Q:VK)(E:XK):Prop
 |mk (a b:qE) (cs:AS) (xs:qI) (_:DGL) (_:E25) (_:A2I bI) (_:HK cs.length) (_:A56 E8L):GK IspWithin
noncomputable def a9A:Sp:=HH IspWithin
def b5e:AGP "caps" "caps" a5g:={}
def b5y(F:A4T "within" a5g "caps")(T:AV):EKD:=by
 rw[BV b5e e d m]
 rw[bK a b cs xs]
 .obtain⟨a,b,cs,xs,rfl,ha,hb,hl,k⟩:=h;rw[GF (AGZ (BIA "cap" "number"
 (wB CV5 CV5)) (c9o (D4 c7G 0 J7) (a2W (D4 b4i 1 EO))))]
  rw[BP2 (SJ c2y [] cV V.int ESJ hl BOB rfl (λc x H1 l _ _ _ q=>?_)) g]
  .cases c with
   |none=>exact IQ rfl rfl true rfl (E2 bR)
   |some c=>exact IQ rfl rfl false rfl (B5 (COE bR))
  rw[A9B p ?_]
  rw[DOO j j]
  .rw[AD c8E (k _ D62)]
#where
noncomputable def S4(n j:Nat):qI:=E94
noncomputable def V6(cs:AS):LLI:=(nH cs.length (S4 cs.length)).filter λu=>EGO
noncomputable def b4J(c:FF)(x:Int):Bool:=EOM (CJ (x<c))
noncomputable def StP(rss:LLI)(cs:AS)(ys:qI):rE:=DXZ λj=>CUZ
section
variable {K:qF}
inductive IspFirst(vs:AA)(H:Hp)(Q:VK)(E:XK):Prop
 |mk (a:qE) (cs:AS) (_:A7K) (_:E25) (_:BRU) (_:BW1) (_:∀p zs qN H',BP->cZ p zs->B3L->qN.Perm (V6 cs)->xS->vY):GK IspFirst
noncomputable def a7Y:Sp:=HH IspFirst
def sc_first_steps:UZ ["caps","units"] "caps" X7:={}
def a5F(F:SO "first_steps" X7 "caps")(T:AV)(c:ES8)(b:EKD):CBJ:=by
 rw[BV sc_first_steps S J m]
 rw[QW a cs]
 .rw[VN a cs rfl ha h1 h2 k];rw[YR U]
  rw[CD (A0Q (yW 1 sc_first_steps.nd (N:=["j","caps"]) (src:=[none,ZW]) (B7H AG5)
 (UL ["j","caps"])) gP (KR c m.mono (jaC eU WL))
 (AIA (EHB (C9I (aK "one" "caps" ZW DDL
 (A7I "caps")) L3 K (kL m.mono zL)))))]
  rw[EXU a ha A67];refine tH a5w caps AP0 BY5 (fA (B1Z (nH i (S4 cs.length)))) (AAW .nil) (BON (BJ1 YD)) ?_ ?_
  .rw[CCC s' hI];refine⟨_,rfl,a,_,rfl,aQ (kG ha),_,rfl,_,cs.length,i,rfl,AJ3,BY5,hi,λv H2 s2 G=>D72⟩;rw[List.range_succ,List.map_append];exact(hI.same s2).snoc G
  .rintro ys H' ⟨s',hI⟩ p hp;rw[EM];rw[AE s1 (s'.upd (o:=dH) hp) d (ALQ hI.same H' dH hp)];rw[mS e1 H' p dH p ys];rw[AZ7 CVZ s1 d e1];rw[AGJ p e1];have I:ys.length=cs.length:=by rw[LS GE]
   refine SJ a5R AP0 (λu=>EGO) (TC 0x5cde6d514a4e27bcdf1773c4c60e867 h2 U I) (AD2 (EU AJ8)) d rfl (λv r H2 W m G s2 q=>?_) (DT H2 p2 ws s2 g x)
   .rw[GV va hva G];exact⟨_,rfl,_,rfl,a,va,cs,r,rfl,E7E,hva,BY5,λn t=>EW (Wi cs r) (q n t)⟩
   rw[AE t (DZL (o:=DD ws) g) e (x.same (GR H2 (o:=DD ws) g))];rw[XZ M H2 p2 ws p2 ws];generalize AJT ws=n at t e M;refine aB p2 ws _ (XS M) e (BK r m) (λl zs L z y C D _=>?_)
   .rw[IV j hj (A48 m)];have:=List.mem_range.mp hj;simp[S4];rw[uS c0m]
   rw[oD l V B];rw[AE O (GR n (o:=UW) z) R (GR (EZ n l zs) (o:=CL9) B)];exact k V zs L _ (IJ t.trans O R) A0 ((y.same O).same R) C D
inductive IspRaised(vs:AA)(H:Hp)(Q:VK)(E:XK):Prop
 |mk (y:V) (ys:qI) (j:Nat) (_:QA y aW) (_:gB) (_:AVU) (_:BS8) (_:A0F A0E):GK IspRaised
noncomputable def a9B:Sp:=HH IspRaised
def b5f:DA BV9 BV9 a5h:={}
def b5B(F:HL "raised" a5h BV9):EKU:=by
 rw[AM4 b5f]
 rw[CAH y ys j]
 .obtain⟨_,ys,j,rfl,⟨a,rfl,ha⟩,hj,hl,k⟩:=h;rw[GF (a4M (a4M (C3E J3 (J2 (jv 1))) (Q5 (gO O3 (C9 K EO (jv 1)) A6))) (C3E (EDC 1) J3))];exact tH (BI c6B i 0 j 1 (a:=a) (xs:=ys)) k j (z:=ys.getD j 0+1) rfl ha hj hl (λH' N s' q=>⟨_,rfl,_,rfl,a,_,_,_,rfl,rfl,BVY ha,DPS,_,_,rfl,rfl,q⟩) k
inductive IspSteps(vs:AA)(H:Hp)(Q:VK)(E:XK):Prop
 |mk (a c:qE) (y:V) (us:AA) (rss:LLI) (cs:AS) (ys:qI) (_:vs=[CC,XE,y]) (_:zV) (_:PJ) (_:AMU) (_:gB) (_:kZ) (_:dN ys.length) (_:BPG cs.length) (_:C2G) (_:AKE) (_:∀p ps H',BP->yX p ps->E53 ps AXB->vY):GK IspSteps
noncomputable def b3K:Sp:=HH IspSteps
def c2g(h:j<cs.length):atI (cs.map cV) rJ=BU cV BFP:=by
 rw[EXG]
def sc_steps:DA ["rows","caps","one","places"] BNG a8h:={}
def b8s(F:HL "steps" a8h BNG)(T:AV)(d:EBR)(b:EKU):EN3:=by
 rw[BV sc_steps U I M]
 rw[A97 a c y us rss cs ys]
 .obtain⟨a,c,_,us,rss,cs,ys,rfl,ha,hI,hc,⟨y,rfl,hy⟩,hl,hn,hcl,hR,hs,k⟩:=h;rw[YR O]
  rw[CD (A0Q (yW 3 sc_steps.nd (N:=["j","caps","one"]) (src:=[none,uI,AR9]) (E1 K (AK9 d M.mono a5M OV))
 (UL ["j","caps","one"])) (PP (a2w (a1R (a0K (Z0 DP5 J7) (Y9 (b4k (C9 K rN (jv 0)) DP5)))))) EO
 (GS (aK "j" "one" AR9 C1Z
 (UL (tZ "j")) gP (PP (Q5 (AW9 (kL M.mono zL)))))))]
  refine⟨_,rfl,_,rfl,a,_,us,rss,ys,rfl,ha,hI,EW y hy,hl,DDE,hR,hs,ADS v G⟩;rw[GV X l G];rw[C0W X l];rw[List.map_map]at l;have p:∀j∈AFU ys.length filter BWS,AVU:=λj g=>D0O DE9;have n:QH CMX BWS ys.length:=B6W;rw[EX (SJ b4V [FB c,FB y] (λ(PN j)=>DI j) DBX (AU 0x236dfbe0ba924853f62866 hn n) (bA l) rfl (DT j H2 Y g s2 q)) H2 p2 s2 u]
  .have hj':=p j g;refine⟨_,rfl,_,rfl,c,_,_,_,rfl,rfl,DTU,ENN,rfl,_,rfl,?_⟩;cases e:BFP with
   |none =>
    rw[e]at q;exact E2 bR
   |some z =>
    rw[e]at q;rw[QI ⟨_,rfl,_,rfl,y,_,_,_,rfl,rfl,CUM hy,a6y hj',_,rfl,_,rfl,c,_,_,_,rfl,rfl,DTU,ENN,?_⟩];rw[e];exact BOT bR
  rw[HW J DZL (DD AF6) u];rw[XZ t H2 p2 AF6 p2 AF6];have D:DTL:=λj g=>p j DE9;have C:BXB<=ys.length:=Nat.le_trans bF n;have W:DXZ DBX=AXB:=rfl;rw[W];rw[EM];generalize AJT AF6=L at J t;rw[AGJ p2 t];refine a0f (xs:=AF6) (AJ0 0xbe501db666aa273044c60e867 hn O C) (RJ qs (AZS L/\E53 qs (DCP i))) ⟨Same.refl L,Prs.nil⟩ (QT qs ⟨EU (AH DE t),BGK YD⟩) ?_ ?_
  .rintro i x qs H' hx ⟨s',hP⟩;rw[CHH hx];cases r:eT AXB with
   |none=>rw[AX r hx hx]
   |some j =>
    rw[AX r hx hx];have g:=XJ D j r;refine⟨Sub.one,_,rfl,_,rfl,_,rfl,_,ys,j,rfl,EW y (AFO (J.trans s') hy),g,DDE,BT v S R G⟩;rw[GN (DRM O) Z B];rw[lB m S CN3 B];rw[HS (IJ s'.trans R m)];rw[List.take_add_one,r];exact((hP.same R).same m).snoc A0 (G.same m)
  .rintro qs H' ⟨s',hP⟩ p4 hp4;rw[DBY hP];rw[A62 m H' qs hp4];exact k p4 qs _ (IJ J.trans s' m) A0 (hP.same m)
noncomputable def Bar(fss:LLI)(ys:qI)(j:Nat):Bool:=CVD (CMN f.getD && BIC)
inductive IspBarred(vs:AA)(H:Hp)(Q:VK)(E:XK):Prop
 |mk (l:qE) (y:V) (fs:AA) (fss:LLI) (ys:qI) (j:Nat) (_:vs=[HQ,y,aW]) (_:DMR) (_:DM9) (_:gB) (_:AVU) (_:BS8) (_:DX f fss (BPG f.length)) (_:A56 DNT):GK IspBarred
noncomputable def a9G:Sp:=HH IspBarred
def sc_is_barred:DA ["found","one","j","answer"] BO0 a0U:={}
def a8s(F:HL "is_barred" a0U BO0)(T:AV)(b:C8U):EN1:=by
 rw[BV sc_is_barred v t n]
 rw[tD l y fs fss ys j]
 .obtain⟨l,_,fs,fss,ys,j,rfl,hl,hI,⟨y,rfl,hy⟩,hj,hn,hL,k⟩:=h;rw[CD (A1 (B3M 3 sc_is_barred.nd
 (A3 (B7J (G8 (C9 K wO (jv 2)) DP6) (A3A (kL n.mono (EG 3 MU)))
 fK
 B4)))
 fK)]
  rw[EZJ [yP,FB y,ATH,o] (BLX (fss.take i)) (λi σ H' _ (GT _ s' _)=>EU DDD)]
  .rw[F32];rw[DR r n p q hI.mem hx];rw[BX u rfl m q.same s'];have g:=hL r n;have d:BLX (fss.take AO)=(C41 && AL1):=by
    unfold Bar at hB⊢;rw[EMK p]
   have c:iE C41 AL1->AW DNT:=λe=>by
    rw[GO Bar List.any_eq_true];rw[BA r n e]
   rw[DQ ⟨_,rfl,_,rfl,u,_,_,_,rfl,rfl,D4G,EKK g,_,rfl,_,rfl,y,_,_,_,rfl,rfl,BVY hy,DPS,rfl,_,rfl,?_⟩];have z:eY (CJ (eB (V.int (r.getD j 0)) (ys.getD j 0))) (ABU r.getD ys.getD):=by simp
   rw[z];cases e:C41 with
   |false =>
    rw[e]at d;rw[cW B5 B5];exact UU s' d
   |true =>
    rw[e]at d c;rw[QP ⟨_,rfl,_,rfl,_,_,r,ys,rfl,EW u m,EW y (kG hy),DYJ g,BYX⟩];cases e2:AL1 with
    |false =>
     rw[e2]at d;exact B5 (UU AW8 d)
    |true =>
     rw[e2]at c;rw[EU8 (c rfl)]
  rw[F4T]
#where
inductive IsNx(rss:LLI)(cs:AS)(F:LLI)(u v:qI):Prop
 |mk (j:_) (_:DL7) (_:v=BXP) (_:D52 v):APP
def a8R{a b:qI}(h:a.map BN5=b.map Sum.inl):a=b:=by
 induction a generalizing b with
 |nil=>cases b with|nil=>rfl|cons _ _=>cases h
 |cons x a c =>
  cases b with
  |nil=>cases h
  |cons y b =>
   rw[AH9 h1 h2]
   rw[C5E]
   rw[h1,c h2]
def a5W{a:LLI}(e:AV5 a):MQ CCG↔r∉a:=by
 constructor
 .intro h hm;rw[JZ a9q h];rw[BB e List.mem_map.mpr (NJ r hm)]
 .intro h;cases c:CCG with
  |none=>rfl
  |some v =>
   rw[MR (b3y c) e];rw[BX q b e2 List.mem_map.mp this];rw[EV (a8R e2 ▸ b) h]
def c1h{a:LLI}(e:AV5 a):eY (F9 qL DII).isSome BVU:=by
 by_cases h:BVU
 .rw[decide_eq_true h];cases b:CCG with
  |none=>rw[EV h (XT a5W e b)]
  |some v=>rfl
 .rw[AVQ,kA a5W e h];rfl
def c1g(r:qI):EJE r.map r.map:=DAV
def c4M{d:qE}(h:TM)(hd:C7Z)(o:AG2 d):AMI :=
 (AY3 (AK o (BL (VP q hd)) q))
def a9O{H1 H2:Hp}(s:LQ)(c:yN)(o:E1W KG):BR5:=kK (o b u (BL (A4Y c)) BZZ)
structure NxPre(H:Hp)(a c f l:qE)(us:AA)(rss:LLI)(cs:AS)(fs:AA)(F:LLI)(ls:AA)(L:LLI):Prop where
 ha:zV
 hI:PJ
 hc:AMU
 hf:ZR f fs
 hF:DM8
 hl:ZR l ls
 hL:LL ls L
 us1:kZ
 n1:BRU
 n2:BW1
 hR:DKB
 fw:EAC
 lw:C25 L (Sm v)
 big:C9G
section
variable {K:qF}
inductive IspNxl(vs:AA)(H:Hp)(Q:VK)(E:XK):Prop
 |mk (a c f l:qE) (r:V) (us:AA) (rss:LLI) (cs:AS) (fs:AA) (F:LLI) (ls:AA) (L:LLI) (_:vs=[CC,XE,mQ,HQ,r]) (_:NxPre H a c f l us rss cs fs F ls L) (_:EA6) (_:∀p zs qN H',BP->RE->yX p zs->B3L->xS->qN.Nodup->SZ qN AMR->EA7 (v∈qN) qN.length->C6O qN.length->EUW qN.length->vY):GK IspNxl
noncomputable def c5s:Sp:=HH IspNxl
def sc_next_level:DA ["rows","caps","found","level","room","met","one","j","more"] BOA a0n:={}
def a6O(F':HL "next_level" a0n BOA)(T:AV)(M:EN3)(n:EN1):ERI:=by
 rw[HZ F'.okJ sc_next_level c9 c6 hr]
 .obtain⟨a,c,f,l,r,us,rss,cs,fs,F,ls,L,rfl,_⟩:=h;rfl
 .obtain⟨a,c,f,l,r,us,rss,cs,fs,F,ls,L,rfl,N,hroom,k⟩:=h;have W:=hr.u60;rw[KY hz]
  have hbig:=N.big;rw[CD (CQ 5 sc_next_level.nd b4o
 (A1 (pE C1Z 6 sc_next_level.nd
 (A1 (B8W (E9 K (AK9 M hr.mono b8W (WN BRI))) 7 sc_next_level.nd 8 sc_next_level.nd
 (A3 (CB9 a2v (b5T W D2Q A74 CG) a1F (AKL n 174585852 (EG 2 (EG 8 (ZA 7))))
 (A3 (a1G W A74 D2Q a3M))
 B4)))
 (A3 (B7J (D4 b4j 4 J7) (a1m (c4A rfl T.b_len BRH) (jv 4))
 (A3 c1p)
 B4))))
 (GS (c1w rfl T.b_sorted BRH))))]
  intro d hd;rw[EM];rw[MO s0 H ACU hd];rw[EXM e0 H];generalize PM H d .dT []=H0 at s0 e0;have fin:∀(qL:YP) (g:LLI) (σ:L2.St) (H':Hp),IP σ 5 (FB d)->BP->A1G d .dT qL->AV5 g->g.Nodup->SZ g AMR->EA7 B1V g.length->C6O g.length->(EUW g.length) ->
    c6p (tCB rSortD (CAK 5)) {nx:=λx H'=>UE V.non,rt:=Q} σ H':=by
   intro qL g σ H' hσ s' R y I h1 h2 B O;refine⟨_,hσ,d,qL,g,rfl,R,y,wM t,λp zs c7 hp hI J c3=>?_⟩
   .obtain⟨u,W,j,hj,rfl,_⟩:=h1 v t;rw[V4];have:=List.mem_range.mp DEA;rw[uS c0m]
   refine k p zs c7 _ (s'.upd hp) (s'.free hp) A0 (hI.same (BRY hp)) c3 (J.symm.nodup I) (λv t=>h1 v (J.mem_iff.mp t)) ?_ (BQQ B) λm e=>BQQ (O m e)
   rcases h2 with h2|⟨m,e,h2⟩
   .exact .inl λu W v t=>J.mem_iff.mpr ELE
   rw[HG ⟨m,e,BQQ h2⟩]
  rw[AGJ l (AH s0 N.hl)];refine YH O4 l ls ((λi σ H'=>Ex5 λo6 o7 o8 qL g=>An9 (σ=[some (.ref a),some (.ref c),some (.ref f),some (.ref l),some r,some (.ref d),o6,o7,o8]) (Same H H') (H' d=some (.dT qL)) (qL.map (·.1)=IK g) (g.Nodup) ((∀v∈g,∃u∈L,IsNx rss cs F u v)) ((∀u∈L.take i,∀v,IsNx rss cs F u v->v∈g)) (g.length<=i*cs.length) (∀m:Int,r=.int m->(g.length:Int)<=m)))
   ⟨none,none,none,[],[],rfl,s0,e0,rfl,List.nodup_nil,xE,DXT,AJ,AHM e⟩ (QT σ (by obtain⟨_,_,_,_,_,_,s',_⟩:=h;rw[A5P (kG N.hl)])) ?_ ?_
  .rw[BQ3 e' m' e' hm']
   .rw[FH e']
   .rw[FH e'];simpa using hm'
  .rintro i x σ H' hx ⟨o6,o7,o8,qL,g,rfl,s',R,y,I,h1,h2,B,O⟩;rw[DR ys b2 b3 c5 N.hL.mem hx];obtain⟨yw,c8⟩:=N.lw ys b2;have c1:i<L.length:=NE b3;have a8:C6O DEV:=D1T c1;rw[EPG C DEV i]
   rw[EM];rw[ER b6 C2G yw N.hR]
   refine⟨_,rfl,_,rfl,_,rfl,a,c,x,us,rss,cs,ys,rfl,kG N.ha,N.hI.same s',kG N.hc,c5.same s',N.us1,AG yw N.n2,yw.symm,b6,c8,DT p1 ps H1 s1 a2 a1⟩;rw[AE G BTC a3 (s'.trans s1)];rw[C0X p1 a2];have c4:DTL:=λj hj=>D0O DEA;have S:BXB<=cs.length:=by rw[<-yw];exact Nat.le_trans bF B6W
   have b8:d≠p1:=VP G a2;refine YH O4 p1 ps ((λZ σ H2=>Ex4 λo7 o8 qL g=>An10 (σ=[some (.ref a),some (.ref c),some (.ref f),some (.ref l),some r,some (.ref d),some x,o7,o8]) (Off [d] H1 H2) (H2 d=some (.dT qL)) (qL.map (·.1)=IK g) (g.Nodup) ((∀v∈g,∃u∈L,IsNx rss cs F u v)) ((∀u∈L.take i,∀v,IsNx rss cs F u v->v∈g)) ((∀j∈(StP rss cs ys).take Z,Bar F (R9 ys j) j=false->R9 ys j∈g)) (g.length<=i*cs.length+Z) (∀m:Int,r=.int m->(g.length:Int)<=m+Z)))
    ⟨o7,o8,qL,g,rfl,xI,G,y,I,h1,h2,DXT,B,λm e=>by rw[AY5];rw[QN 0x49fa49de21c243757]⟩ (λZ σ H2 _ h=>by rw[BQ6 o2];rw[A5P (TH o2 b8.symm a2)]) ?_ ?_
   .rintro Z q σ H2 hq ⟨o7,o8,qL,g,rfl,off2,hd2,y,I,h1,h2,h5,B,O⟩;obtain⟨j,b,v,ej,rfl,hb,t⟩:=a1.2 Z q hq;rw[GV va b1 t];rw[AE a9 (List.mem_of_getElem? ej) hj (c4 j a9)];rw[AE b7 (TH off2 (VP hb G) hb) U (TH off2 (VP b1 G) b1)];rw[AE a7 (AH a3 N.hf) b9 (TH off2 (VP a7 G) a7)];have b5:=c4M (N.hF.same a3) G off2;have c0:Z<BXB:=NE ej;rw[AHU X g.length (by
     rw[E95])]
    have a0:∀D:LLI,SZ g (v∈D)->(D52 A0E->A0E∈D)->∀j'∈DCP (Z+1),PR (Bar F E9L j')->E9L∈D:=λD b0 c2 j' hj' a5=>by
     rw[DX2 ej hj' hj']
     .exact b0 _ (h5 j' z a5)
     .have:j'=j:=BRM
      rw[mH this c2 a5]
    refine A3W b (hJ j BQF) b7 aW (A1Y va) BQF [];rw[DO (EPO d (DGet.t hd2 (AG c1g U))) (c1h y)];by_cases hm:A0E∈g
    .rw[DBU];rw[cW B5 B5];rw[F4S off2 hd2 (DF hm)]
    .rw[jW hm];rw[QP ⟨_,rfl,_,rfl,_,rfl,f,BQF,fs,F,A0E,j,rfl,b9,b5,EW va U,AG V4 hj,by rw[V4,yw];rw[yB N.n2 a0I],λv t=>by rw[V4,yw];exact N.fw v t,C1E A47⟩];have a6:=xF hd2;cases e:Bar F A0E j with
     |true =>
      rw[AIE];rw[F4S (off2.trans s3.off) a6 (λz=>by rw[aS z z])]
     |false =>
      rw[AFZ];rw[DO (ABW d _ (DPut.t a6 (AG c1g (xF U)) (~~~lq 0xf630520312f412f36f3a4b9b0c569e11b1ceeea0c156937d2b17683275f53c3e032ae0ee5 hz hbig a8 C S B c0 X)) ?_) (a5x _ (kA a5W y hm))];refine⟨_,_,_,g++[A0E],rfl,B2B off2.trans s3.off,A0,by rw[List.map_append,y];simp[IK],a8v I hm,wM t,λu W v t=>XQ ELE,a0 _ (λv t=>XQ t) (DF AJ),by rw[D8E];exact b8T B,λm e=>by rw[AY5];rw[D8E];rw[QN 0x2b686806c21ede7b9c0b58]⟩;rw[E04]
      .exact h1 v z
      .rw[SN];exact⟨ys,b2,j,a9,rfl,e⟩
   .rintro σ H2 ⟨o7,o8,qL,g,rfl,off2,hd2,y,I,h1,h2,h5,B,O⟩;rw[bO a1.1 h5];rw[AHU X g.length (by
     rw[E95])]
    have Y:=a1.1;have s2:BR5:=a9O a3 hd off2;have a4:∀u∈L.take AO,CNH B1V:=λu W v t=>by
     rw[DX2 b3 W W]
     .exact h2 u z v t
     .have:u=ys:=BRM
      rw[pJ];obtain⟨j,hj,rfl,hb⟩:=t;exact h5 j hj hb
    rw[BQ3 rfl m rfl d0]
    .refine tJ (cT B5 B5);exact⟨_,_,_,qL,g,rfl,s2,hd2,y,I,h1,a4,EWU,λm e=>by rw[CP]⟩
    .rw[IN x5 ⟨_,rfl,d,qL,rfl,hd2,_,rfl,_,_,rfl,rfl,_,rfl,nS⟩]
     .have e':D7L:=yI;have b4:=O m rfl;exact EU6 H2 s2 hd2 (DP (EW m (AU 0x7c2da9532ebe98813d58 X e'))) (~~~lq 0x579545243ee8723ec81ee55c4a39825137db a8 C S B Y) λm' e2=>by cases e2;exact lq 0xa3a80bdb4398deca7f886f234af6b35a S Y b4
     .rw[dL e' D7L AJ9];exact⟨_,_,_,qL,g,rfl,s2,hd2,y,I,h1,a4,EWU,λm' e2=>by cases e2;rw[DL 0xd9612a51d7fd5622d3d58 X e']⟩
  .rintro σ H' ⟨o6,o7,o8,qL,g,rfl,s',R,y,I,h1,h2,B,O⟩;rw[bO D14 h2];exact EU6 H' s' R (EL h2) (BPI D14 B B) λm e=>by rw[AY5];rw[QN 0x7b194d4c5c8f8ef83758]
#where
noncomputable def ffl(ra ca:qE)(b:Bool)(ah af aw:qE):OY:=[DCU ra,DCV ca,("begun",bX),jY "here" ah,jY "found" af,jY "walked" aw]
section
variable (ra ca ah ah' af aw:qE)(b b':Bool)
def b0K:AKS "rows" ra:=CG
def b0L:AKS "caps" ca:=CG
def a7B:BC9 (tM "begun")=BU .bl b:=CG
def a1t:AKS "here" ah:=CG
def a3Q:AKS "found" af:=CG
def a6k:AKS "walked" aw:=CG
def a9T:C5 "here" (AM ah') AB1=AA3 b ah':=CG
def b5m:C5 "begun" (.bl b') AB1=AA3 b' ah:=CG
def a9S:AOA "walked" aw "found" af (C5 "here" CKW (C5 "begun" bX ESX))=AB1:=CG
def c1S:B46 "told":=CG
def b6j:B46 "paper":=CG
def b6k:B46 "ended":=CG
def a4y:B46 "step_within":=CG
#where
structure FiTx(K:qF)(C:qE):Prop where
 cl:W0
 n1:DBJ
 n2:DBK
 n3:eE "begun"
 n4:eE "here"
 n5:eE "found"
 n6:eE "walked"
structure FAt(C:qE)(H:Hp)(p ra ca af aw:qE)(b:Bool)(L F W:LLI):Prop where
 ob:∃dx ah hs,AU3 AB1/\ZR ah hs/\LL hs L/\ah≠af/\ah≠aw
 hf:∃fs,ZR af fs/\DM8
 hw:∃ws,ZR aw ws/\LL ws W
 ne:af≠aw
def FAt.same{C:qE}{H H':Hp}{p ra ca af aw:qE}{b:Bool}{L F W:LLI}(h:lO)(s:BP):BC0 (A2F FAt ra):=by
 rw[AYK a c d e f h];rw[EF ⟨dx,ah,hs,BSF,D55,a.same s,c,d⟩ (C52 fs f1 f2.same) (C52 ws e f.same) ne]
structure SyAt(H:Hp)(a c:qE)(rss:LLI)(cs:AS):Prop where
 ex:∃us,zV/\PJ/\kZ
 hc:AMU
 n1:BRU
 n2:BW1
 hR:DKB
def SyAt.same{H H':Hp}{a c:qE}{rss:LLI}{cs:AS}(h:ETS)(s:BP):EU9:=by
 obtain⟨⟨g,h1,h2,b⟩,d,e,f,hR⟩:=h;rw[EB ⟨g,BSF,h2.same s,b⟩ (FX d) e f hR]
structure StR(rss:LLI)(cs:AS)(b:Bool)(L F:LLI)(r:V)(L':LLI):Prop where
 ri:G2 L'
 nd:L'.Nodup
 fst:PR b->A55 L' B6X
 snd:vQ->NF L' AMR
 all:vQ->CWK (v∈L')∨AUO (m<L'.length)
 len:L'.length<=cs.length+L.length*cs.length
 few:∀m:Int,BCR->CXW L'.length
def a3m(n j i:Nat)(hi:LR):(S4 n j).getD i 0=BM1:=by
 unfold S4;rw[BJ5 hi]
def S1(n j:Nat):IS S4 n j=n:=IF S4
def a3P(cs:AS):(V6 cs).Nodup:=by
 unfold V6;rw[JZ List.Nodup.sublist ((List.filter_sublist))];rw[CLS List.Nodup];refine(List.nodup_range (n:=cs.length)).imp_of_mem (EVJ b a);have h1:(S4 cs.length i).getD i 0=(S4 cs.length j).getD i 0:=D6X (λl:qI=>l.getD i 0);rw[E1N,E1N,EJ,YM]at h1;omega
def lp{f:Str}{v:V}{fs:OY}(h:fs.length<=k):EUG CF:=by
 refine Nat.le_trans ?_ (Nat.succ_le_succ h);clear h;induction fs with
 |nil=>rw[DF7]
 |cons p r a =>
  obtain⟨g,x⟩:=p;show HP EMD<=_;split
  .simp
  .rw[BPU]
section
variable {K:qF}
inductive IspFInit(C:qE)(vs:AA)(H:Hp)(Q:VK)(E:XK):Prop
 |mk (p dx ra ca:qE) (_:vs=[FZ,y9,AM ca]) (_:C0P) (_:∀(af aw:qE) (H':Hp),D43->EC aw->CZO false [] [] []->CYO false->C35->ABF):AJD IspFInit
noncomputable def b3O(C:qE):Sp:=AKR IspFInit
def a2b:DA AMM AMM M4:={}
def b8A(I:iG "__init__" "Finder.__init__" M4 AMM)(U:A7P):A1X "__init__" 1 AMM b3O:=by
 rw[HZ I.fnJ a2b J G L]
 rw[bK p dx ra ca]
 .rw[VN p dx ra ca rfl hp k];rw[CD (AS8 jv 1
 (AS8 jv 2
 (ADH a3M
 (B5Z
 (B5Z
 (A3 (F8 K EO (E4 jaN))))))))]
  have t:([]:OY).length<=0:=BO;refine F3M hp U.n1 (Nat.lt_of_le_of_lt t AI);rw[DO (F3M A0 U.n2 (Nat.lt_of_le_of_lt (lp t) AI)) a2F];rw[DO (oG A0 U.n3 (Nat.lt_of_le_of_lt (lp (lp t)) AI)) a2F];generalize D:C5 "begun" (V.bl false) ESX=r;have F:r.length<=3:=by rw[nM D lp (lp (lp t))]
  have k1:AB6 H nC (KB H p AN0 b o):=λb o e c=>IH c e
  have e1:KB H p AN0 p AN0:=A0;have u:∀b,MQ (upd H p AN0 b)->KW:=λb e=>by
   rw[BM c b p]
   .rw[BPS c]
   .rwa[B0A]at e
  rw[AZ7 (ZN p AN0) k1 e1 u];rw[lC ah n];have x:p≠ah:=A5 e1 n;refine oG (AG (A4 x) e1) U.n4 (BH 0x25c2b6fbea393465 F);rw[lC af m];have y:DB9:=λz=>by subst z;rw[AX A0 m m]
  have g:upd H1 ah UP af=none:=by rwa[BRV]at m
  rw[CBG j ah af g];have d:AFQ af:=by rwa[A4 j.symm]at g
  refine oG (B1I y) U.n5 (AFC (lp (f:="here") (v:=CKW) F) 0x4214c038d9ecee065);rw[lC aw q];have B:DBA:=λz=>by subst z;rw[AX A0 q q]
  rw[GL a q BRW a];rw[CBG i af aw a];rw[A4 i.symm,BRW]at a;rw[CBG l ah aw a];rw[A4 l.symm]at a;refine oG (B1I B) U.n6 (AFC (lp (f:="found") (v:=AM af) (lp (f:="here") (v:=AM ah) F)) 0x162273630afc27290c465);rw[EX (k af aw _ (u _ d) (u _ a) ⟨⟨dx,ah,[],?_,?_,.nil,j,l⟩,C95,C95,i⟩ ⟨dx,ah,by rw[A0,<-D,<-a9S],u _ n⟩) b o e c]
  .rw[A0,<-D,<-a9S]
  .rw[BRX,A4 l,BRX,A4 j,BRX,A0]
  .rw[BRV,A4 i,BRV,A0]
  .rw[BRW,A0]
  .have e2:=aR k1 c;rw[B0A,BVL a,B0A,BVL d,B0A,BVL n];exact e2
def b4s:∀{vs ws:AA}{rss a:LLI},TM->LL ws a->LL (vs++ws) (rss++a):=by
 intro vs ws rss a h g;rw[CCJ (by rw[List.length_append,List.length_append,DE,YA]) BW9 vs.length]
 rw[C8T r A3G r]
 .rw[BZ9];rw[OP r e1 e2 (g.2 _ v e) r (BJ9 CTG DE e1) e2]
def a4O{o':HO}(h:TM)(b:DR6)(d:C8R):AWV (ZN c o') :=
 (AY3 (IH (I0 q b (d _)) q))
def a6d(h:TM)(b:DR6)(d:C8R)(off:AG2 c):AMI :=
 (AY3 (TH off (I0 q b (d _)) q))
def c2E(h:ETS)(d:GP H)(e:C8R)(off:mE [b]):EU9:=by
 obtain⟨⟨k,h1,h2,g⟩,f,i,j,hR⟩:=h;rw[EB ⟨k,EEI h1 h1,a6d h2 d e off,g⟩ (EEI f f) i j hR]
def c2I{B:Int}(h:AFX u B)(b:B67):AFX BXP (ADF+1):=by
 rw[EB8]
 .rw[QE (h x z)]
 .rw[E71]
  .rw[EX4];rw[AT8 z]
  .rw[AFH (AD0 hj) z];rw[AT8 z]
inductive IspStepW(C:qE)(vs:AA)(H:Hp)(Q:VK)(E:XK):Prop
 |mk (p ra ca af aw:qE) (b:Bool) (L F W rss:LLI) (cs:AS) (r:V) (B:Int) (_:w5 r) (_:lO) (_:CA6) (_:EA6) (_:(DRZ DNZ)) (_:B67) (_:DN7) (_:C9G) (_:DKU) (_:DFT) (_:ESG L' (CCO F r L') (DVI L' DON DKX) L'.length):AJD IspStepW
noncomputable def a7V(C:qE):Sp:=AKR IspStepW
def b7w{ra ca af aw:qE}{b:Bool}{r:V}{B:Int}(hi:B4K)(h:u9 AWD r)(D:lO)(Y:CA6)(h1:CU3∨AUO (0<=m))(h2:C25 L DNZ)(c:B67)(d:EAC)(e:C9G)(f:DKU)(g:DFT)
  (k:ESG a (CCO F r a) (DVI a (BMX a.filter) (W++a)) a.length):B8C "step_within" a7V (CAK j):=by
 rw[BP3 ⟨_,hi,p,dx,_,rfl,g1,aH a4y,_,h,p,ra,ca,af,aw,b,L,F,W,rss,cs,r,B,rfl,D,Y,h1,h2,c,d,e,f,g,k⟩]
def a0N:DA (cU "room") (cU "room") I9:={}
def b8r(FM:B2H "step_within" "Finder.step_within" I9 "room")(U:A7P)(T:AV)(d:ERI)(a:CBJ)(n:EBQ) :
  EUB:=by
 rw[HZ FM.fnJ a0N c9 c5 hr]
 .obtain⟨p,ra,ca,af,aw,b,L,F,W,rss,cs,r,B,rfl,_⟩:=h;rfl
 .obtain⟨p,ra,ca,af,aw,b,L,F,W,rss,cs,r,B,rfl,D,Y,hroom,hL,hB,hF,hbig,hF1,hW1,k⟩:=h;rw[lA hz]
  rw[AYK h3 h4 h5 w1 w2 vM];have b7:DB9:=VP h1 f1;have b8:DBA:=VP h1 w1;rw[CD (A1 (E59 RC
 (B0S (oP d hr.mono b1W (C03 (C03 MU))))
 (ADH (ZB c4z T.b_list (DG (AAM (BVO 175200508) uM)))
 (B0S a3M)))
 (B4A a0a (C9I (aK "one" "self" ZW (E9 K RC)
 (A7I "self")) L3 K (AKL n 175201292 (jaC BY9 WL)))
 (B4A a0a uM
 (GS zO))))]
  rw[B9L (σ=[dJ,fF]/\∃ah' c Z,aP p (gU C3Q)/\yX ah' c/\mL c Z/\EC ah'/\CCO F r Z/\AG2 p/\C25 Z (Sm v))]
  case fin =>
   rintro σ H1 ⟨rfl,ah',c,Z,p1,a1,i1,a0,R,g,c2⟩;have a6:=Y.n2;have t:Z.length<=100000:=by have:=R.len;exact lq 0x15d25e151e3800651a643540baa23cc95586e54927867 hbig a6 this
   rw[AE b0 (TH g b7.symm f1) c7 (TH g b8.symm w1)];rw[AE c0 (DUO f2) c8 (DUO w2)];have Y1:=c2E Y h1 wT g;have b1:ah'≠af:=oS f1 a0;have b3:ah'≠aw:=oS w1 a0;have d0:p≠ah':=A5 h1 a0;rw[IN (B9T p1 U.n5 BV7 b0) (AYH p1 U.n4 AJ7 ah' rfl (nD a1) ?_)];refine SJ a5R [dJ] BWR (wK i1.1 0x3f871e88c24f9655e63bd89f17d6e hz t) (AD2 (BRL a1)) i1 rfl (λv r' H2 Q2 c4 hv s2 q=>?_) (DT H2 p2 zs s2 b5 O)
   .obtain⟨⟨us,u1,u2,u3⟩,_,_,_,hR⟩:=Y1.same s2;refine⟨_,rfl,p,C,dx,_,_,rfl,XF p1,U.cl,U.n1,D92,_,rfl,ra,v,us,rss,r',rfl,u1,u2,hv,u3,λr hr=>IU (BQW hr) a0I a6,(c2 r' c4).2,λM y=>DK (q M y)⟩
   have S:HP (BDA Z.filter)<=Z.length:=bF;rw[AE y (s2.upd (o:=UW) b5) c6 (GR H2 (o:=UW) b5)];rw[mS e3 H2 p2 UW p2 zs];have G:=O.same c6;generalize AJT zs=M at y e3 G;have f3:=AH y b0;refine⟨af,p2,fs,zs,rfl,rfl,f3,e3,IG f2.1 O.1 (lq 0x44ab7be3665b9767d1fc5904786ca95c7a83c90b4b9a228 hF1 hz t S),?_⟩;rw[ER p4 (KB M af (DD ASP) p (gU C3Q)) (A4 b7) (AH y p1)]
   rw[EW4 w4 aw ws ne.symm c7]
   rw[EW4 a4 ah' c b1 a1]
   rw[IN (B9T p4 U.n6 D95 w4) ⟨_,rfl,p,C,dx,_,_,rfl,p4,U.cl,U.n4,AJ7,aw,ah',ws,c,rfl,rfl,w4,a4,IG w2.1 i1.1 (lq 0xcd01f7cd995ef7e1cf0223aa4d887a83c90b4b9a227 hW1 hz t),?_⟩];rw[ER p5 (KB CAR aw (DD B50) p (gU C3Q)) (A4 b8) p4]
   rw[oY a5 (upd CAR aw (DD B50) ah') (BU .lst c) (A4 b3) a4]
   rw[DO ⟨_,rfl,p,C,dx,_,_,rfl,p5,U.cl,U.n4,AJ7,ah',_,rfl,XS a5,?_⟩ i1.1];have J:∀{vs:AA}{rss:LLI},AWV M->AWV (EZ CAR aw B50):=λh=>a4O (a4O h f3 wT) w4 wT;rw[EX (k Z _ R ⟨⟨dx,ah',c,p5,a5,J (i1.same y),b1,b3⟩,⟨ASP,B1I ne,J (b4s (c0.same y) G)⟩,⟨B50,A0,J (b4s (c8.same y) (i1.same y))⟩,ne⟩ ⟨dx,ah',p5,a0⟩) b o hb e];rw[MA a3 (nC/\IB af/\IB aw) hb]
   rw[CM (A4 a3.2.2) (A4 a3.2.1) (AH y (TH g a3.1 e))]
  refine⟨_,rfl,p,C,dx,_,_,rfl,h1,U.cl,U.n3,D94,b,rfl,?_⟩;obtain⟨us,u1,u2,u3⟩:=Y.ex;have a6:=Y.n2;cases b with
  |true =>
   rw[AFZ];rw[IN ⟨_,rfl,p,C,dx,_,_,rfl,h1,U.cl,U.n1,D92,_,rfl,p,C,dx,_,_,rfl,h1,U.cl,U.n2,D93,_,rfl,p,C,dx,_,_,rfl,h1,U.cl,U.n5,BV7,_,rfl,p,C,dx,_,_,rfl,h1,U.cl,U.n4,AJ7,_,rfl,?_⟩ ⟨ra,ca,af,ah,r,us,rss,cs,fs,F,hs,L,rfl,⟨u1,u2,Y.hc,f1,f2,h2,h3,u3,Y.n1,Y.n2,Y.hR,hF,λv hv=>⟨jZ hL hv,DE8 (hL v hv).2⟩,hbig⟩,hroom,λp9 zs a9 H9 s9 I h9 c1 a8 c3 a2 b2 t b4=>?_⟩];have b9:=AH s9 h1;have a7:p≠p9:=DSJ;rw[EP1 b9];rw[F3Z p9 h9 c1 b9 ⟨a8,c3,AZ8,DF a2,DF b2,BH 0x10590516048917d7 t,b4⟩ s9.off.set];obtain⟨u,hu,j,_,rfl,_⟩:=a2 v hv;have:=c2I (j:=j) (DJR).2 hB;rw[AY (A5K V4 (DJR).1) (DE8 this)]
  |false =>
   rw[AIE];rw[IN ⟨_,rfl,p,C,dx,_,_,rfl,h1,U.cl,U.n2,D93,ca,cs,rfl,Y.hc,Y.n1,Y.n2,λq zs a9 H2 s2 hq O X a8=>?_⟩ (US q zs (aQ hq) DYM)];rw[AE p3 (S3 (o:=UW) (XF h1) hl) y (s2.upd (o:=UW) hl)];have G:=ALQ O.same H2 UW hl;rw[mS e3 H2 l UW l zs];have I:=s2.free hl;generalize iW l zs=M at p3 y G e3;rw[EP1 p3];refine oG A0 U.n3 CVS;rw[a2F,b5m];have a7:p≠l:=DSJ;have S:QH V6 cs cs.length:=B6W;have b6:=X.length_eq;rw[F3Z l e3 G p3 ⟨a8,X.symm.nodup (a3P cs),EH v X.mem_iff,AZ8,AZ8,AU 0xf632a17235ebb02fa1d8 S b6,AHM e⟩ y.off.set]
   .rw[BQ3 z m' z hm']
    .rw[FH z]
    .rw[FH z];exact lq 0x1e89568cec85034f0dfe98f41b359 S b6 hm'
   .rw[eQ j (List.mem_map.mp (DLO X.mem_iff.mp hv))];rw[GN D2P x hx];unfold S4 at hx;rw[C3V (List.mem_map.mp hx)]
inductive IspEnded(C:qE)(vs:AA)(H:Hp)(Q:VK)(E:XK):Prop
 |mk (p ra ca af aw:qE) (b:Bool) (L F W:LLI) (_:lE) (_:lO) (_:E5B):AJD IspEnded
noncomputable def a7Z(C:qE):Sp:=AKR IspEnded
def b7y{ra ca af aw:qE}{b:Bool}(hi:B4K)(D:lO)(k:E5B):B8C "ended" a7Z X0:=by
 rw[F60 b6k]
def a4q:B5Q T9:={}
def b8C(c:AJI "ended" "Finder.ended" T9)(U:A7P)(T:AV):E5M:=by
 rw[HZ c.fnJ a4q d a l]
 rw[CED]
 .rw[F5R g i j m n (A8J RC (a1l zO A6)) (D09 h1 U.n3 D94)];rw[LT b rfl];cases b with
  |false=>exact B5 k
  |true =>
   rw[QP ⟨_,rfl,p,C,dx,_,_,rfl,h1,U.cl,U.n4,AJ7,ah,_,rfl,XS h2,rfl,?_⟩];have e:eY (CJ (BLY (BG hs.length))) (L=[]):=by
    rw[YA];cases L with
    |nil=>simp
    |cons x L=>simp;rw[VY 899391872267029]
   rw[AD e k]
inductive IspTold(C:qE)(vs:AA)(H:Hp)(Q:VK)(E:XK):Prop
 |mk (p ra ca af aw:qE) (b:Bool) (L F W:LLI) (_:lE) (_:lO) (_:(SZ F D5G)) (_:DTI qN B3L BXD xS):AJD IspTold
noncomputable def b1q(C:qE):Sp:=AKR IspTold
def c3a{ra ca af aw:qE}{b:Bool}(hi:B4K)(D:lO)(h:NF F D5G)(k:DTI a (ABS a) (a.Perm F) (G2 a)):B8C "told" b1q X0:=by
 rw[BP3 ⟨_,hi,p,dx,_,rfl,g1,aH c1S,p,ra,ca,af,aw,b,L,F,W,rfl,D,h,k⟩]
def a5f:B5Q Y0:={}
def c3P(g:AJI "told" "Finder.told" Y0)(U:A7P)(T:AV):E5K:=by
 rw[HZ g.fnJ a5f i d u]
 rw[CED]
 .obtain⟨p,ra,ca,af,aw,b,L,F,W,rfl,D,hF,k⟩:=h;rw[AYK n r t v x vM];rw[GF (gY (EHB uM))];refine⟨_,rfl,p,C,dx,_,_,rfl,h1,U.cl,U.n5,BV7,af,fs,F,rfl,XS f1,f2,hF,λl zs e j hI a c _=>?_⟩;rw[oD l q m];rw[HW s2 (xL (o:=UW) j).upd CL9 m];exact k q zs e _ s2 A0 (hI.same s2) a c
inductive IspPaper(C:qE)(vs:AA)(H:Hp)(Q:VK)(E:XK):Prop
 |mk (p ra ca af aw:qE) (b:Bool) (L F W:LLI) (_:lE) (_:lO) (_:B9S W):AJD IspPaper
noncomputable def a7W(C:qE):Sp:=AKR IspPaper
def b7x{ra ca af aw:qE}{b:Bool}(hi:B4K)(D:lO)(k:B9S W):B8C "paper" a7W X0:=by
 rw[F60 b6j]
def a4p:B5Q T8:={}
def b8v(c:AJI "paper" "Finder.paper" T8)(U:A7P)(T:AV):E5L:=by
 rw[HZ c.fnJ a4p d a n]
 rw[CED]
 .rw[F5R j l m g i BUO (AYH h1 U.n6 D95 aw _ rfl (A51 g q e))];rw[MO s2 H (JM ws) e];exact k q ws _ s2 A0 (i.same s2)
#where
inductive Wk(rss:LLI)(cs:AS):LLI->LLI->EK LLI Nat
 |one {L:LLI}(ri:G2 L) (nd:L.Nodup) (h:A55 L B6X):ZZ BZH L L 1
 |more {F W L L':LLI}{k:Nat}(h:sI) (ne:rZ) (ri:G2 L') (nd:L'.Nodup) (hm:A55 L' AMR):ZZ DON DKX L' CF
inductive Over(rss:LLI)(cs:AS)(most:Int):Prop
 |mk (F W L k:_) (_:sI) (_:(most<W.length∨(rZ/\∃L':LLI,L'.Nodup/\SZ L' AMR/\most<W.length+L'.length))):C0N
def b8I(h:B3C):FW v (x<=v.sum):=by
 induction v with
 |nil=>intro x a;cases a
 |cons y v c =>
  intro x a;rw[TB DGD (E46 (c6s v))];rw[List.sum_cons];rw[lM]
  .exact lq 0xdd1b54cc76252 h2
  .rw[PD (c DHX x a) 0x4a1385aeaf97b226e h1]
def c4Y(h:jU u):jU BXP:=by
 rw[EB8]
 rw[sG h]
 .rw[E71]
  .rw[EX4];simp at z;rw[UN 0xd9612a41daf4ddc5bf372 z]
  .rw[AFH (AD0 hj) z];simp at z;rw[DN 0x9e6754105652516 z]
def a9s(n j:Nat):jU (S4 n j):=by
 rw[BM9 S4];rw[C3V AHQ]
def b1h(n j:Nat)(a:j<n):S4 n j=R9 A6C j:=by
 refine List.ext_getElem (by rw[S1,V4,List.length_replicate]) λi h1 h2=>?_;rw[S1]at h1;rw[AE e1 (a3m n j i h1) e2 (c4Z A6C j i rO)];rw[AFH (aG List.getElem?_eq_getElem S1 h1) e1];rw[AFH D63 e2];simp only[Option.getD_some]at e1 e2;rw[A6E];simp only[List.getD_eq_getElem?_getD,List.getElem?_replicate,a,h1,if_true];by_cases e:jN<;>simp[e]
def b7v(n:Nat):gQ n MX sum=0:=by
 induction n with
 |zero=>rfl
 |succ n a=>rw[CLR List.sum_cons a]
def b4R(n j:Nat)(a:j<n):(S4 n j).sum=1:=by
 rw[b1h n j a,AH b0Y rO,b7v];rfl
def c6t(h:DL7):j<u.length/\CH8 u/\AW (CPC u.getD):=by
 rw[v6 StP];rw[List.mem_filter,List.mem_filter,List.mem_range,decide_eq_true_eq]at h;rw[BA DE.1 DE.2 FD]
structure LvF(n k:Nat)(v:qI):Prop where
 len:v.length=n
 nn:B3C
 sum:v.sum=k
def a7z(h:B6X):C85 1:=by
 rw[IV j a (List.mem_filter.mp h).1];rw[BA D2P (BS a9s) (AH b4R D2Z)]
def b8F{n:Nat}(a:LvF n k u)(h:APP):LvF n CF v:=by
 obtain⟨j,b,rfl,_⟩:=h;have:=(c6t b).1;rw[BA (AG V4 a.len) (c4Y a.nn) (IG (AH b0Y this) a.sum c0b)]
def Wk.lv(h:sI):SZ L (LvF cs.length k v)/\SZ W (∃i,1<=i/\B14/\C85 i)/\SZ F (v∈W/\AW BBE)/\BIX W.length/\D0U W.length/\1<=k/\k<=W.length+1/\(rZ->k<=W.length):=by
 induction h with
 |@one L ri nd h =>
  refine⟨λv a=>E35,λv a=>⟨1,AF,AF,E35⟩,λv a=>List.mem_filter.mp a,bF,BO,AF,A5N,MN ne⟩;cases L with
  |nil=>rw[AID ne]
  |cons x L=>simp
 |@more F W L L' k h ne ri nd f p =>
  obtain⟨l,m,d,n,q,r,s,o⟩:=p;have b:NF L' (C85 CF):=λv a=>by
   rw[YJ g j (QO f v a)];exact b8F (l u g) j
  rw[D5S BWR L'];have e:=o ne;refine⟨b,BWU,BWU,IG List.length_append List.length_append (lq 0x392a1d2b48312d5d8 n this),IU List.length_append lq 1147073304470,A5N,D26 (lq 0x3210a01de77a8dc3d7 e),MN c⟩
  .rw[BW A4O]
   .obtain⟨i,q1,q2,q3⟩:=m v z;rw[EF i q1 (AHK q2) q3]
   .exact⟨CF,A5N,KP 183599221,b v z⟩
  .rw[BW A4O]
   .rw[AY (XQ (jZ d z)) (d v z).2]
   .rw[AY (iB DQO) (List.mem_filter.mp z).2]
  .rw[AFD];have:0<L'.length:=List.length_pos_iff.mpr c;rw[oK c5L e]
section
variable {K:qF}
inductive IspLeast(D:qE)(vs:AA)(H:Hp)(Q:VK)(E:XK):Prop
 |mk (ra ca:qE) (rss:LLI) (cs:AS) (most:Nat) (mi:Int) (_:wY y9 (AM ca) mi) (_:B5M) (_:CA6) (_:C2A+200<=100000) (_:(∀q t pp zs qN ws F W k H',BP->ABR [II,AVF]->E24->B3L->BXD->xS->cZ pp ws->mL ws W->lI->BZQ->oR)) (_:(B7F C0N)):B2E IspLeast
noncomputable def a2K(D:qE):Sp:=B3T IspLeast
def sc_least:DA (CK8 "most" "finder") (A2X "caps") a8j:={}
def b8x{r:qE}(Z:HL "least" a8j (A2X "caps"))(T:AV)(U:A7P)(d:W0)(I:EPY "Finder" AMM b3O)(j:EUB)(n:E5M)(t:E5K)(p:E5L)
  (D:OwnCls "TooMany" r CZJ "ValueError.__new__" mg base):AN6 r:=by
 rw[HZ Z.okE sc_least c5 c2 hr]
 rw[tD ra ca rss cs most mi]
 .obtain⟨ra,ca,rss,cs,most,_,rfl,rfl,Y,hbig,kq,ke⟩:=h;rw[CD (CQ 3 sc_least.nd (c1z I (hr.mono (KP 4923175852)) rfl jC)
 (kI 4 sc_least.nd jv 2
 (C62 (b0D (U6 (A3A (CAX n)))
 (CQ 4 sc_least.nd (D4 b4n 4 (a2x j d (aL hr.mono b8V) wO AHZ))
 (A3 (AAB b4k 4 A6
 (A3 (c1o D PySem.F.excBase_ValueError rfl PySem.F.excBase_ValueError rfl YC))
 B4))))
 (SG Q5 (xG (CAX t) (CAX p))))))]
  refine C43 (DW x dx hx b4 N);rw[EPN c1 N.symm hx]
  have s0:LF CA1:=iJ xL b4 c1;refine⟨x,dx,ra,ca,rfl,A0,λaf aw H1 b2 b3 D1 _ kp=>rT⟩;have a0:D43:=s0.free b2;have a1:EC aw:=s0.free b3;have s1:LQ:=EF1;rw[EM];rw[A79];rw[EM];rw[lA hz]
  rw[B9L (σ=CA2 (σ.getD 4 none)/\BP/\∃F W k,EX0 [] F W/\lI/\BZQ)]
  case fin =>
   rintro σ H2 ⟨hσ,s2,F,W,k,O,J,V⟩;rw[F4C];have a2:=J.lv;rw[hσ];refine c3a rfl O DE3 λq1 zs c3 H3 s3 b8 a7 b7 c0=>?_
   .obtain⟨i,i1,_,lv⟩:=a2.2.1 v (jZ (dR a2) M);cases v with
    |nil=>have:=lv.sum;simp at this;rw[UN 0x5bc56849a6aaf3bc066e i1]
    |cons _ _=>simp
   have D3:=O.same s3;obtain⟨⟨c6,c4,c8,g1,_⟩,_,_,_⟩:=id D3;refine b7x rfl D3 (DT q2 ws H4 s4 b9 a8);rw[GN (bQ 2 b9o) q hq];rw[MO s5 H4 (APX q1 (AM q2)) hq];exact kq q q1 q2 zs c3 ws F W k _ (IJ (rG s2.trans s3) s4 s5) A0 (pW (AHH b8)) ((a7.same s4).same s5) b7 c0 (pW b9) (a8.same s5) J V
  refine⟨λm σ H'=>∃(b:Bool) (L F W:LLI) (g:Int),σ=CA2 (DZ g)/\BP/\BC0 CXY/\0<=g/\m=g.toNat+MW DWV 0 1/\((b=false/\L=[]/\F=[]/\W=[]/\g=most)∨(vQ/\EDG sI)),
   ⟨_,false,[],[],[],_,rfl,s1,D1,vP,rfl,EL (AEB rfl rfl rfl)⟩,?_⟩
  rintro m σ H2 ⟨b,L,F,W,g,rfl,s2,O,r0,rfl,X⟩;rw[F4C];refine b7y rfl O A47;have c7:most+1<=C2A:=CJI Nat.le_mul_of_pos_right;have S:C2A=ARD*cs.length+ARD:=by rw[Nat.mul_add,Nat.mul_one]
  by_cases he:DWV
  .rw[MK rfl he];rw[AIE];rcases X with⟨z,_⟩|⟨_,k,J,a⟩
   .cases z
   .exact VF ⟨rfl,s2,F,W,k,O,J,E4U⟩
  .have hb:(b && ARC L)=false:=by
    cases b with
    |false=>rfl
    |true =>
     have:rZ:=λz=>he D5O;rw[mT]
   rw[hb,BC he];rw[QP (y6 (λσ' H'=>∃(G Z W':LLI) (k:Nat) (l:Int),σ'=CA2 AVW/\BP/\EX0 G Z W'/\0<=l/\ZZ Z W' G k/\l=most-W'.length/\l.toNat+MW (G=[]) 0 1<g.toNat+1) (λσ' H' ⟨G,Z,W',k,l,e1,e2,e3,e4,e5,e6,e7⟩=>⟨_,e7,true,G,Z,W',l,e1,e2,e3,e4,AJ,DP (A5L k e5 e6)⟩))];obtain⟨B,hB,hL,hF,b1,b0,a6⟩:∃B:Int,B67/\DRZ E0Y/\DN7/\W.length<=most/\D0U most/\BIX most:=by
    rcases X with⟨rfl,rfl,rfl,rfl,_⟩|⟨rfl,k,J,a⟩
    .exact⟨0,AF,xE,xE,AJ,AJ,AJ⟩
    .obtain⟨i1,i2,i3,i4,i5,i6,i7,i8⟩:=J.lv;refine⟨k,AF,λv M=>⟨BOF len,λy hy=>HR (DPA y hy)⟩,DE3,E4U,EG6 i5,EG6 i4⟩
     .rw[QS (b8I DPA y hy) (BOF sum)]
     .obtain⟨i,_,_,lv⟩:=i2 v (jZ i3 M);exact lv.len
   have a9:CMK<=AR1 most:=D1T b0;rw[EPG b6 (AR1 (ARD)) most]
   rw[cA (b7w rfl rfl O (Y.same s2) (DP (EW g r0)) hL hB hF (~~~lq 0x34d1b5312030e0989947fb8756e32e086480dd64ea652ba02563892148447f6a hbig S a9 b6) (EOL a6) (EOL b1) (DT G H3 R D3 _ a4))];rw[VQ (BNF ?_)];have s3:LF H3:=λc o e=>a4 c o (by simpa using⟨CTC,A4Y a0,A4Y a1⟩) (s2 c o e);have key:(EDG (ZZ (BMX G.filter) (W++G) G k))∨(g<G.length/\C0N):=by
    rcases X with⟨rfl,rfl,rfl,rfl,a⟩|⟨rfl,k,J,a⟩
    rw[HF ⟨1,BL (Wk.one R.ri R.nd (R.fst rfl)),rO⟩]
    .have N:rZ:=λz=>he D5O;rcases R.all rfl with ha|⟨m',e',a3⟩
     rw[HF ⟨CF,.more J N R.ri R.nd λv=>⟨R.snd rfl v,λ(AYV hu M)=>ha u hu v M⟩,a⟩]
     .cases e';rw[kE ⟨a3,F,W,L,k,J,DP ⟨N,G,R.nd,R.snd rfl,AU 0x2aae99fb1010a1b4757c8e36484f99 a a3⟩⟩]
   refine B64
   .have e':E1Y:=yI;rw[FT D0Y (ke _ s3 ?_)];rcases key with⟨k,J,a⟩|⟨_,ho⟩
    .exact IQ _ _ k J (aG .inl List.length_append (lq 0x82ac556d0c46e9325fedcb8d59071f99 e' a))
    .exact ho
   .rw[dL e' E1Y AJ9];rcases key with⟨k,J,a⟩|⟨b5,_⟩
    .refine⟨G,_,_,k,_,rfl,s3,D3,BH 0x18d94a651d94ea7831f97 e',J,D26 (lq 0x608ef6100a441ed122dc9011ec484f99 a),?_⟩;cases G with
     |nil=>simp
     |cons y G=>rw[D1J e'];rw[PZ xM]
    rw[FJ b5 (BH 0xa2f4953f51cce31f97 e')]
#where
def Under.refl(v:qI):Under v v:=EQ (EH _ (Int.le_refl _))
def Under.trans{a b c:qI}(h:Under a b)(g:Under b c):Under a c :=
 ⟨mG DE YA,λj d=>Int.le_trans (FD j (AG YA d)) (g.2 j d)⟩
def a1N{f:qI}(a:f.length=v.length):AW (Bel f v)↔Under f v:=by
 constructor
 .intro h;rw[HS a];rw[v6 Bel];induction f generalizing v with
  |nil =>
   intro j b;rw[<-a]at b;simp at b
  |cons x f c =>
   cases v with
   |nil=>cases a
   |cons y v =>
    rw[List.zipWith_cons_cons,List.all_cons,Bool.and_eq_true]at h;intro j b;cases j with
    |zero=>exact of_decide_eq_true DE
    |succ j=>exact c rO FD j CR7
 .intro h;unfold Bel;induction f generalizing v with
  |nil=>rfl
  |cons x f c =>
   cases v with
   |nil=>cases a
   |cons y v =>
    rw[NG h.tail];rw[List.zipWith_cons_cons,List.all_cons,c rO h2,Bool.and_true];rw[DBZ]
def c9h(h:B3C)(j:Nat):DZE:=by
 rw[List.getD_eq_getElem?_getD];cases e:v[j]? with
 |none=>simp
 |some x=>simpa using A7Q h e
def Wk.nd{rss:LLI}{cs:AS}{F W L:LLI}{k:Nat}(h:sI):W.Nodup/\F.Nodup:=by
 induction h with
 |@one L ri nd h=>exact GH nd nd.sublist List.filter_sublist
 |@more F W L L' k h ne ri nd f d =>
  obtain⟨l,m,n,p,q,r,s,w⟩:=h.lv;have a:NF W (∀u∈L',v≠u):=λv c u b e=>by
   obtain⟨i,x,o,lv⟩:=m v c;obtain⟨t,g,j⟩:=XT f u b;have:=(b8F (l t g) j).sum;rw[<-e,lv.sum]at this;rw[UN 0x111ffe3dcf3736bd6 o]
  refine GH (iZ List.nodup_append.mpr d.1 nd a) List.nodup_append.mpr ⟨d.2,nd.sublist List.filter_sublist,λv c u b=>a v (jZ n c) u DH1⟩
def U0:F1M
 |[],[],_,_,_,_,_=>rfl
 |[],A7E,_,_,_,_,h=>EMR
 |fJ,[],_,_,_,_,h=>EMQ
 |fJ,A7E,ra,rb,na,nb,h=>by
  rw[F5I (by
   rw[EQN]
   .rw[B4C (QO h x)]
    .rw[BB z G4 y]
    rw[sG i]
   .rw[B4C (XN h y)]
    .rw[BB z G4 x]
    .exact k y z)]
  rw[EXE U0]
  .rw[B8J BLU]
   rw[FJ (xD hv) f]
   rw[NQ]
  .rw[B8J (XN h v)]
   rw[FJ (xD hv) c]
   rw[NQ]
section
variable {K:qF}
def b6e(n:Nat)(v:V):XL n [v]=BCJ v:=by
 induction n with
 |zero=>rfl
 |succ n a=>rw[EUH]
inductive IspFree(vs:AA)(H:Hp)(Q:VK)(E:XK):Prop
 |mk (n:Int) (_:D7X) (_:0<=n) (_:YQ) (_:DKI (gH (gQ n.toNat (none:FF) map) cV)):GK IspFree
noncomputable def a7X:Sp:=HH IspFree
def c2U:C7H b1C:={}
def c3T(F:BW7 "free" b1C):B7Y:=by
 rw[BV c2U c a g]
 rw[AMW n]
 .rw[F1Z c7S (DG J7)]
  rw[F4E [.non]]
  rw[ESZ]
  rw[ERQ b6e (QF e List.map_replicate)]
#where
#where
section
variable {w:Str}{xs:qI}
noncomputable def C6(x:Int):Str:=AGG
noncomputable def Sz(xs:qI):Prop:=kJ C9L
noncomputable abbrev bk:Str:=tP 32
noncomputable abbrev lf:Str:=tP 10
def C3(x y:Str):uT x y=x.length+y.length:=by
 show(x++y).cps.size=_;rw[Str.cps_append,Array.size_append];rfl
def M7{c B:Nat}:EDE (C3X) GY ((B+1))
 |[],_=>F1
 |SW,h=>by
  rw[EQ3 ((B+1))]
 |rQ,h=>by
  rw[TB A54 (M7 (c:=c) (ys:=iD) λz a=>E0Z)];show HP EBE<=_;rw[C3,C3,pV ((GY:Str).length=1),List.length_cons,Nat.succ_mul];rw[A8L 0xaefa8c1b15b8bb7d5d8]
def O5{x:Int}(h:C9L):QH C6 x 60:=D4C
def c4U{x:Int}{c:Nat}(a:c<48):c∉BO3:=λh=>by
 have:=V0 x.toNat c h;rw[DL 0x6207d617a8641bce5 a D13]
noncomputable def vt(xs:qI):Str:=vH bk xs.map C6
noncomputable def ln(w:Str)(xs:qI):Str:=TJ BMW
def a7P(h:B26)(a:B3Y):QH vt xs 488:=by
 rw[AG1 (EZ8 ARJ (λy d=>E6J d (h x b)))];rw[A0D (DXA (xs.length*61) 8 61)]
def c7x(hw:w.length<=60)(h:B26)(b:B3Y):IS ln w xs<=549:=by
 have:=EZ8 BMW (λy a=>by
  rw[lM]
  .exact hw
  .rw[LU x hx AHQ];exact O5 D9A)
 rw[List.length_cons,List.length_map]at this;rw[A0D (show(xs.length+1)*61<=9*61 from Nat.mul_le_mul (B05 0x6352ccfff125) BO)]
def b0s{c d:Nat}:∀{ys:AC},d≠c->DX y ys (d∉y.cps.toList)->d∉C4B ys
 |[],_,_=>DET
 |SW,_,h=>A54
 |rQ,hd,h=>λa=>by
  rw[a1n]at a;rw[XW A4O]
  .exact h x List.mem_cons_self q
  .rw[XW (List.mem_cons.mp q)]
   .exact hd q
   .exact b0s (c:=c) hd DHX q
noncomputable abbrev wL:Str:=⟨#[108,101,97,115,116]⟩
noncomputable abbrev wS:Str:=⟨#[115,116,101,112]⟩
noncomputable def lns(A B:LLI):AC:=A.map (ln wL)++B.map (ln wS)
noncomputable def pt(A B:LLI):Str:=Str.join lf (lns A B)
def c1c(hw:32∉w.cps.toList):C5O (ln w xs) BMW:=by
 refine KH (SE a2a) a b;rw[WR AHY b]
 .exact hw
 .rw[eQ x yK];exact c4U AI
section
variable {K:qF}{α:Type}{src:NM}{σ caps:L2.St}{Q:VK}{a:qE}{vs:AA}{as:CL}{H:Hp}{te:TE}
def a3H(f:A02)(hz:A73)(g:DWE)(b:E7N)(c:cG)
  (d:F50) (hd:DKG):ADU AJN:=by
 refine a0f (xs:=vs) hz (fA (B5C as.take)) A3T (QT ys B8E) ?_ ?_
 .rw[EYK]
  rw[F52]
 rw[EY7]
def S5(f:A02)(hz:A73)(g:DWE)(b:DO0)(c:cG)
  (d:F50) (hd:DKG):BZM:=by
 refine O6 (xs:=vs) hz (fA (B5C as.take)) A3T (QT ys B8E) ?_ ?_
 .rw[EYK]
  rw[F52]
 rw[EY7]
#where
noncomputable abbrev topN:Int:=1000000000000
noncomputable abbrev wd(s:String):Str:=KO s
noncomputable def isNm(w:Str):Prop:=1<=w.length/\w.length<=8/\DF0 C8F
structure Nms(ns:AC):Prop where
 nd:ns.Nodup
 nm:∀n∈ns,BSK
noncomputable def N3(s:B69)(w:Str):B69:=if w=wd "+" then(C5U,[])else(s.1,s.2++[w])
noncomputable def prt(ws:AC):ES:=let s:=ACY ws.foldl [];C5U
noncomputable def Wok(w:Str):Prop:=D46 w.cps.all/\w.length<=10000
def b6Q(h:DF0 (c<128))(b:A4H w.length):Wok w:=⟨by
 rw[AD Array.all_eq_true' (λc a=>decide_eq_true (h c rO))],b⟩
noncomputable def ovI:DAC
 |iS=>BR1
 |none=>.non
section
variable {P:qG}{w:World}{K:qF}{mg:BJ}{base:Heap}
noncomputable abbrev fgs:Str:=KO "0123456789"
noncomputable abbrev lts:Str:=KO "abcdefghijklmnopqrstuvwxyz"
def c4V(c:Nat):CSO↔CWM:=by
 have e:fgs.cps.toList=List.range' 48 10:=by rw[lZ]
 rw[E36]
def c4a(c:Nat):c∈lts.cps.toList↔C8F:=by
 rw[DUG (List.range' 97 26)]
 rw[E36]
def a9I{σ:L2.St}{src:NM}{Q:VK}{x z:Str}{H:Hp}{te:TE}(b:A4H x.length)(a:∀c H' (N:VK),N (BAL BL3) H'->te (B2R (ACK GY)) H' N)(h0:∀v,CGQ BIG)
  (hd:ABH (DNO x.cps.toList.map)):ADU BRB:=by
 rw[KY d]
 refine b6q (x:=x) (by show x.length<=_;exact b9v b d) (RJ ys (H'=H/\ys=DNO (HM x.cps.toList.take i))) (EQ AJ) (BON (IG FD List.length_map uL)) ?_ ?_
 .rintro i c ys H' hc ⟨rfl,rfl⟩;rw[FT (h0 _) (a c _ _ rT)];rw[CQH hc];rw[BM5 hc]
 .rintro ys H' ⟨rfl,rfl⟩ p hp;rw[show x.cps.size=x.cps.toList.length by rw[Array.length_toList],List.take_length];exact hd p hp
def a7L(l:rE)(p:fL):(E6C).all trV=l.all p:=by
 rw[List.all_map];rfl
def a6h(l:rE)(p:fL):DY (E6C).all c1R:=by
 rw[B93]
inductive spIsW(vs:AA)(H:Hp)(Q:VK)(y_3:XK):Prop
 |mk (n:Nat) (_:QB C6A) (_:DK8) (_:BZJ):JD spIsW
def a6G:E5I a0o:={}
def b6i(n:Nat):B0U=Str.ofString "0"∨(B0U≠KO "" /\ ∃c,D83/\UY atI AL4 0 c):=by
 rw[BM a n 0]
 rw[HF (AG a b6h)]
 .rw[AC1 (HR (λe=>a3c n DAU))];rw[AE b (a7A n (bY 0x9c8eb1be6da6125)) d D5C];cases e:AL4 with
  |nil=>rw[EV e d]
  |cons c r =>
   rw[e]at b;rw[BA c (λz=>b (by rw[z];rfl)) B91]
def dq0{c:Nat}(h:D83):A60 (CJ (BCB GY "0")):=by
 rw[gJ decide_eq_false z]
 .rfl
 .rw[C5D]
  have a:[c]=[48]:=dF (λt:Str=>t.cps.toList) z;injection a with a
  exact h a
def c8f{n:Nat}(h:DK8):Wok (E3 n):=b6Q (λc a=>by have:=V0 n c a;rw[DN 0x254cbe63e13aeea5 BPL]) h
def a6P{m:Tok}(F:SO "is_written" a0o "word")(T:AV)(a:D2 mg "FIGURES" (.str fgs m)):EAL:=by
 rw[BV a6G d b q]
 rw[AMW n]
 .rw[SK n rfl hl k];rw[KY l]
  rw[CD (A1 (B72 (EUF (E45
 DBH) (APH "0123456789"))
 NT
 B4)
 (GS (c9o (BVH a1l) (a2W (A8J (BVH c5T) (c5T (AJA c5V) B1))))))]
  refine hZ _ (c8f hl).1;refine EH3 fgs hl (λc H' N e=>EDO fgs e) λp j=>?_;have k:=k _ (xL (o:=DD (AQW cps.toList.map λc=>A4A CSO)) j);rw[A9B p (BS a6h)];rw[a7L,List.all_eq_true.mpr λc g=>BQ8 (XN c4V c) (V0 n c g)];rw[cA (B5 eC)];rcases b6i n with z|⟨z,c,h1,h2⟩
  .rw[BB (D25 decide_eq_true) E2 k]
  .refine a1S (DF k) wP;rw[DO eC (decide_eq_false λy=>z (V.str.inj y))];rw[QP (VA _ 0 c rfl rfl (~~~b9v hl l) h2 rfl ?_)];rw[AD (dq0 h1) k]
inductive spRF(vs:AA)(H:Hp)(Q:VK)(y_3:XK):Prop
 |mk (n m:Nat) (_:QA C6A AHO) (_:AX1 m) (_:m<=600) (_:B2P n):JD spRF
def a4n:lJ "word" "most" "word" "most" T5:={}
def a4u(F:XU "read_figures" T5 "word" "most")(T:AV)(a:EAL):ET3:=by
 rw[AM4 a4n]
 rw[QW n m]
 .obtain⟨n,m,rfl,hl,hm,k⟩:=h;rw[CD (A1 (CB9 a0K (a1m E60 (jv 1)) Y9 (BXT d.mono)
 NT
 B4)
 (GS (A50 c4C T.b_int)))]
  rw[KY e]
  refine⟨_,rfl,_,rfl,TC 0x248a20bf0d75636cd0ff25a398d7 hl hm e,_,rfl,_,_,rfl,rfl,_,rfl,?_⟩;rw[BB (jW (show ¬(QL<BG BZX) by exact b9F hl)) B5 (IQ rfl n rfl (DR0 0x218aebdfebacd5d18398d6) (λH1 s1=>DK (B5 ⟨_,rfl,_,FE,rfl,DR0 0xbb94b398da84b8398d6,b2T (AU 0x22f55090ff1ec06a8398d6 hl hm),E6A⟩)))]
inductive spRN(vs:AA)(H:Hp)(Q:VK)(y_3:XK):Prop
 |mk (x:Int) (_:QA C6B CFU) (_:WH) (_:cD) (_:B2P x):JD spRN
def sc_read_number:DA (BBO "top" "number") ["word","top"] X6:={}
def a5E(F:XU "read_number" X6 "word" "top")(T:AV)(a:ET3):B9I:=by
 rw[BV sc_read_number d c e]
 rw[AMW x]
 .rw[QG x rfl h0 h1 k];rw[KY g]
  have b:AS9 1000000000000=13:=by
   have h1:DEH 13:=AVH BNI;have h2:¬DEH 12:=λz=>AFN (QO a1r AI) z AI;rw[A8L 0x1ebc5a7729835915f9b7cde5]
  rw[CD (CQ 2 sc_read_number.nd (AAM (aL e.mono a3z) (AW9 (AQP a8O T.b_len (B6T MU))))
 (A1 (EBU (D4 a1m 2 ZX)
 NT
 B4)
 B4P))]
  have h1:x<=1000000000000:=h1;rw[DO ⟨_,rfl,_,rfl,1000000000000,rfl,FV,_,rfl,A71 b 0x698e4bb341316e0edd g,x.toNat,13,VL b,D4C,AI,C5M⟩ (AL2 x.toNat x)];rw[EM];rw[DO eC DJ7];rw[QI (EPO _ rfl)];rw[BB (jW (AZ6 (¬(BG 1000000000000<x)) 0x3e0dcd8bd8646e4d29ef7524589666f1ce19960e3bb32bda2a16 h1)) B5 (DK E6A)]
inductive spNm(vs:AA)(H:Hp)(Q:VK)(y_3:XK):Prop
 |mk (w:Str) (_:QB DB4) (_:isNm w) (_:BZJ):JD spNm
def b1w:E5I a3r:={}
def isNm.ok{x:Str}(h:BGN):Wok x:=b6Q (λc a=>by have:=wI c a;rw[DN 0x254cbe63ea771625 BPL]) (by rw[yB YD b9k])
def b1N{n:Tok}(F:SO "is_name" a3r "word")(T:AV)(a:D2 mg "LETTERS" (.str lts n)):EAM:=by
 rw[BV b1w d b o]
 rw[AMW x]
 .rw[SK x rfl hx k];rw[BX h1 h2 e id hx];rw[KY m]
  rw[GF (A8J (c4s A6 E60 A6) (EUF (E45
 DBH) (APH "abcdefghijklmnopqrstuvwxyz")))]
  rw[DO ⟨_,rfl,_,rfl,B07 0x238079d3484c5f55bdd926 m,_,_,rfl,rfl,_,rfl,?_⟩ (E7T x.length)];rw[QP DPK];rw[bL (show CQU<=8 by exact b9H h2)];rw[QP (hZ _ hx.ok.1)];refine KH (EH3 lts (~~~b9k h2) (λc H' N g=>EDO lts g)) p l;rw[A9B p (BS a6h)];rw[CM a7L (List.all_eq_true.mpr λc j=>BQ8 (XN c4a c) (e c j)) (k _ (AWK H l))]
#where
#where
section
variable {H:Hp}{L:ES}{b:qE}{j:Nat}{ns:AC}{x:Int}{ys:qI}
noncomputable def Lsts(H:Hp)(gs:EI)(L:ES):Prop:=gs.length=L.length/\GC i Nat a qE (CB gs a) (∃l:AC,CB L l/\WV D4L)
def Lsts.same{H':Hp}{b:EI}(h:C0F b)(s:BP):Lsts H' b L:=ET6 BSG
def Lsts.put{c:EI}{o:HO}(h:C0F c)(d:b∉c):Lsts (uG b) c L:=ET6 (AG (A4 λz=>d (by rw[DXD z])) e2)
def Lsts.snoc{c:EI}{l:AC}(h:C0F c)(d:A2I D4L):Lsts H (c++[b]) (L++[l]):=by
 rw[CCJ BTS (OM a ?_) c.length]
 rw[C8T f (uH a) f]
 .rw[BZ9];have:i-c.length=0:=by
   rw[vR A8K]
  rw[FH this];rw[BA l (DWM this) d]
structure PrtI(H0 H:Hp)(g:qE)(D:ES)(c:AC)(ds:EI)(cu:qE):Prop where
 hg:ZR g (EHE cu)
 hd:Lsts H ds D
 hc:HJ cu (JN c.map)
 nd:cu∉ds
 ng:g∉ds
 gc:g≠cu
 fg:EY H0 g
 fc:EY H0 cu
 sm:Same H0 H
def a9i{γ:Type}(f:A0B)(g:BYY):EQQ
 |[],_=>rfl
 |HI,[]=>rfl
 |IO,NU=>CD1 a9i
def Z4(a b c:Str):a++b++c=a++(b++c):=Str.ext' (by rw[Str.cps_append,Str.cps_append,Str.cps_append,Str.cps_append,Array.append_assoc])
def a0A(s x y:Str)(r:AC):pX s rQ EBD:=rfl
def Z9{s:Str}:∀{a b:AC},IE a->B0P->pX s (a++b) (Str.join s a++s++WK s b)
 |[],_,h,_=>AMG
 |SW,b,_,h=>by
  cases b with
  |nil=>rw[AID h]
  |cons y r=>rfl
 |rQ,b,_,h=>by
  show x++s++WK s ((iD)++b)=(EBD)++s++WK s b;rw[Z9 AYR h];rw[BQ0]
noncomputable def M8:ES->AC
 |[]=>[]
 |[t]=>t
 |A0C=>y0
noncomputable abbrev wplus:Str:=KO " + "
def a9W:∀{ts:ES},BTM->C08->IE B2X
 |[],h,_=>AMG
 |[t],_,h=>lK
 |A0C,_,h=>λz=>by
  have:t=[]:=(List.append_eq_nil_iff.mp z).1;exact h t List.mem_cons_self this
def a7t:∀{ts:ES},C08->pX wplus (AXN ts.map) (vH bk M8 ts)
 |[],_=>rfl
 |[t],_=>rfl
 |A0C,h=>by
  have c:=EVU a7t;have b:IE BCA:=a9W (by rw[u0]) λx a=>BKK;show TJ t++wplus++WK wplus (AXN (FQ AA1))=TJ y0;rw[c,Z9 lK AYR];cases e:BCA with
  |nil=>rw[EV e b]
  |cons y q =>
   rw[a0A];have:wplus=bk++(AUQ "+"):=CG
   rw[this];rw[BQ0]
def a8n:GC t AC s B69 C97 (t.foldl N3 s=(s.1,s.2++t))
 |[],s,_=>AJ
 |A78,s,h=>by
  rw[List.foldl_cons,a8n r _ λz=>h ASA];have:N3 s x=(s.1,s.2++[x]):=by
   rw[GO N3 (AII (CJP h))]
  rw[LS this]
def a7k:∀(ts:ES) (D:ES),BTM->AEV C97->(let s:=ACY (AR8 M8 ts) D;C5U)=D++ts
 |[],_,h,_=>AMG
 |[t],D,_,h=>by
  rw[EJ1 t.foldl t.foldl];rw[a8n t _ lK];rfl
 |A0C,D,_,h=>by
  have b:=a7k AA1 DQX AYR λx a=>BKK;rw[EJ1 DQ7 DQ7];rw[List.foldl_append,a8n t _ lK,List.foldl_cons];have:N3 (D,[]++t) (wd "+")=(DQX,[]):=by
   rw[GO N3 EJ];simp
  rw[this];refine Eq.trans b ?_;simp
def b7M{ts:ES}(h0:BTM)(h:dY ts C97):prt (M8 ts)=ts:=by
 rw[QS (a7k ts [] h0 h) List.nil_append]
def isNm.ne{n:Str}(h:BSK)(x:Str)(b:∃c∈x.cps.toList,c<97):n≠x:=λz=>by
 rw[bC a h1 b];have:=wI c C3C;rw[DL 0x620760470a3262465 h1 D13]
noncomputable def tmW(x:Int)(n:Str):AC:=if x=1 then[n] else DWU
noncomputable def psW(ys:qI):DLR:=ys.zipIdx.filter λq=>AAV
noncomputable def tmP(ns:AC)(q:B1U):AC:=if AH4 DB then[DAR] else tmW ED (ns.getD DB bk)
noncomputable def a0i(ns:AC)(ys:qI):ES:=HM psW ys (tmP ns)
noncomputable def D7(ts:ES):AC:=BJ8 AK6 B2X
noncomputable def a5t(ns:AC)(ys:qI):AC:=BND C18 (AV0 EJB)
noncomputable def Bds(xs:qI):Prop:=kJ (-topN<=x/\x<=topN)
def Bds.neg{xs:qI}(h:zS):Bds kN:=λy d=>by
 rw[IV x c d];obtain⟨a,b⟩:=h x c;rw[BN3]
def c8I(x:Int)(n:Str):IE B6J:=by
 unfold tmW;split<;>intro z<;>cases z
noncomputable def Tm(ns ws:AC)(j:Nat)(x:Int):Prop:=(∃n,E0K/\ws=B6J)∨(j=ns.length/\ws=[nP])
def Tm.ne{ws:AC}(h:C2P):B17:=by
 rcases h with⟨n,_,rfl⟩|⟨_,rfl⟩
 .exact c8I x n
 .exact BS List.cons_ne_nil
def c8h{y:Str}(b:DGV D9O):DL3:=λz=>by
 rw[bC a h1 b];exact h1 (V0 x.toNat c (by show DCC;rw[JP z a]))
def c8g(b:QV)(x:Int):nP∉ns:=λz=>by
 obtain⟨h1,_,h2⟩:=b.nm _ z;cases e:BO3 with
 |nil=>exact a3c _ e
 |cons c r =>
  rw[ER a DCC e List.mem_cons_self]
  have:=h2 c a;rw[QE DTG]
def Tm.out{ws:AC}(d:QV)(h:C2P){y:Str}(b:DGV (c<97/\D9O)):y∉ws:=by
 have a:DL3:=c8h (let ⟨c,h1,_,h2⟩:=b;(ALN c));rw[CAI h e]
 .have hn:y≠n:=λz=>(d.nm n D32).ne y (let ⟨c,h1,h2,_⟩:=b;(ALN c)) z.symm;rw[bW tmW]
  rw[D4W hn]
  .rw[List.mem_cons,List.mem_singleton];rintro(z|z)
   .exact a z
   .exact hn z
 rw[D4W a]
def b7K(b:AL5){q:B1U}(h:q∈psW ys):0<ED/\ED∈ys/\Tm ns (tmP ns q) DB ED:=by
 rw[NG (List.mem_filter.mp h)];rw[AE a (List.mem_zipIdx_iff_getElem?.mp h1) hi DLP];rw[LT (of_decide_eq_true h2) (List.mem_of_getElem? a)];unfold tmP;rw[BM c DB ns.length]
 .rw[BB rS .inr (IC c)]
 .rw[BC c];have e:=List.getElem?_eq_getElem (show DB<ns.length by exact lq 0x7f6248cec7f0c78ec0f02a0ed7 b hi c);rw[nW (FP e (B1S e))]
def a7S{ns:AC}{ys:qI}(a:AL5){t:AC}(h:t∈AKP):∃j x,0<x/\x∈ys/\BIK t:=by
 rw[LU q b (List.mem_map.mp h)];exact FP _ (b7K a b)
def c1J(b:QV)(d:AL5)(h:IE AKP):prt (D7 AKP)=AKP/\C18≠AK6:=by
 have a:=λt=>@a7S ns ys d t;rw[GO D7 kX];generalize AKP=f at h a;rw[FT (KH (b7M h) t m) AZX]
 .obtain⟨j,x,_,_,q⟩:=a t m;exact q.out b (C74 43)
 .match f,h with
  |[t],_ =>
   obtain⟨j,x,g,_,q⟩:=DRA;have z:t=AK6:=z;rw[CAI q c]
   .rw[AT9 tmW z z]
    .rw[C5D]
     exact(b.nm n (List.mem_of_getElem? c)).ne _ (C74 48) z
    rw[FJ (D9E z) AJ]
   .rw[C5D]
    exact a7A x.toNat AF (VL (show E3 x.toNat=wd "0" from z))
  |A0C,_ =>
   have e:0<t.length:=by
    obtain⟨_,_,_,_,q⟩:=DRA;exact List.length_pos_iff.mpr q.ne
   have z:=D9E (show y0=[wd "0"] from z);rw[List.length_append,List.length_cons]at z;simp at z;rw[DL 0x99530036f36af526dc5e e z]
def a9V{y:Str}(a:y≠wd "+"):∀{ts:ES},AEV (y∉t)->y∉B2X
 |[],_=>RQ
 |[t],h=>lK
 |A0C,h=>λz=>by
  rw[ABJ (A5I (show y∈y0 from z))]
  .exact h t List.mem_cons_self z
  .rw[BW pM]
   .exact a z
   .exact a9V a (λx b=>h x A2K) z
def b0H(a:QV)(b:AL5):wd "="∉C18:=by
 rw[bW D7]
 .rw[ZE List.mem_singleton]
 .refine KH (AVH a9V) t m;obtain⟨j,x,_,_,q⟩:=a7S b m;exact q.out a (C74 61)
noncomputable def a1Y(t:qI)(q:B1U):qI:=t.set DB (t.getD DB 0+ED)
noncomputable def a6J(x:Int):Int:=if BTU then x else 0
def b1a:∀(xs pre:qI),(mM xs.zipIdx pre.length λq=>AAV).foldl a1Y (pre++List.replicate xs.length 0)=pre++A1S a6J
 |[],pre=>rfl
 |A78,pre=>by
  have a:=b1a r (pre++[a6J x]);rw[List.length_append,List.append_assoc,List.append_assoc]at a;rw[DX0 List.length_cons List.replicate_succ];refine Eq.trans ?_ a;unfold a6J;by_cases e:BTU
  .rw[B4Q,NL,List.foldl_cons];congr 1;rw[A6Q a1Y];rw[BQJ BO,List.getD_eq_getElem?_getD,AIN,Nat.sub_self];simp
  .rw[AIC,IX];rfl
def c9K(a:AL5):CYB (AR8 psW ys)=ys.map a6J:=by
 rw[<-a];exact b1a ys []
def c2u(ps:DLR):∀t:qI,IS ps.foldl a1Y t=t.length:=by
 induction ps with
 |nil=>intro t;rfl
 |cons p r a=>intro t;rw[F2 List.foldl_cons a List.length_set ..]
def b4D:∀ys:qI,List.zipWith (λa b:Int=>a-b) (ys.map a6J) (FQ EJB a6J)=ys
 |[]=>rfl
 |A78=>by
  have:a6J x-a6J (-x)=x:=by
   unfold a6J;split<;>split<;>omega
  rw[List.map_cons,List.map_cons,List.map_cons,List.zipWith_cons_cons,b4D r,this]
def c7Z(h:ns.Nodup){n:Str}(c:E0K):r6 j (JL (D6I).any ((· == n))):=XO (by
 obtain⟨a,b⟩:=List.getElem?_eq_some_iff.mp c;rw[AD (List.getElem?_eq_getElem (Nat.lt_trans hi a)) (beq_eq_false_iff_ne.mpr λz=>List.pairwise_iff_getElem.mp h i j (Nat.lt_trans hi a) a hi (z.trans b.symm))])
section
variable {P:qG}{w:World}{K:qF}{mg:BJ}{base:Heap}
inductive spPrt(K:qF)(vs:AA)(H:Hp)(Q:VK)(y_3:XK):Prop
 |mk (p:qE) (ws:AC) (_:lE) (_:DC5) (_:BZ1) (_:∀g gs H',aP g (cL gs.map V.ref)->Lsts H' gs (prt ws)->BP->AO8 g):ALX spPrt
def sc_parted:UZ ["words","groups","word"] "words" a5i:={}
def c3k(ws:AC):∀s:B69,VD (E4F).1+VD (E4F).2<=EFN+ws.length:=by
 induction ws with
 |nil=>intro s;rw[DF7]
 |cons w r a =>
  intro s;have:=a (N3 s w);have h1:VD (DZZ).1+VD (DZZ).2<=EFN+1:=by
   unfold N3;split<;>simp<;>exact lq 0x6670fb787dd6
  rw[CM List.foldl_cons List.length_cons (lq 0x233e7d439f09329df202a111a1e43a0d9b this h1)]
def b5C(F:SO "parted" a5i "words")(T:AV):ELL:=by
 rw[BV sc_parted R M W]
 rw[QW p ws]
 .obtain⟨p,ws,rfl,hp,hl,k⟩:=h;rw[KY J]
  rw[CD (kI 1 sc_parted.nd E4 DGQ
 (A1 (B3M 2 sc_parted.nd
 (A3 (APS 2
 (E5Y DGQ)
 (ADG (J4 K CBN OV)))))
 (ASI 1)))]
  rw[FT F1 (λr u=>tR (B42 J) g v)];rw[EM];have m:g≠r:=λz=>by subst z;rw[AX A0 v v]
  have D:EC g:=by rw[A4 m]at v;exact v
  have s1:LF (EZ (RD r []) g [V.ref r]):=iJ xL u v;refine B29 p AIK;refine YH O4 p A4W (RJ σ (∃o ds r,σ=DXM o/\PrtI H H' g (C40).1 (C40).2 ds r)) (GJ none [] r ⟨A0,EQ (OM a ((by rw[CP]))),E1Z m.symm,(RQ),(RQ),m,D,u,s1⟩) (DTT U I U (AH I.sm hp)) ?_ ?_
  .rintro i x σ H1 hx ⟨o,ds,cu1,rfl,I⟩;rw[ALY hx d hw hx];have hi:=NE hw;have G:BHM AO N3 BVV=N3 (BHM i N3 BVV) d:=by
    rw[DHE hw]
   have c:=c3k (ws.take i) BVV;rw[G];generalize C40=st at I c⊢;have c:VD bV+VD bU<=i:=by
    have:=List.length_take_le i ws;rw[D1D c];rw[UN 0x6d3ede688338beff4802b198 c]
   have C:=I.hd.1;rw[DQ CRJ]
   .injection yI with e
    refine⟨_,rfl,VC I.hg,F1,BK n q⟩;rw[EE0 L g I.hg]
    rw[EE0 O cu1 I.hc]
    have nd:n∉ds:=λz=>by
     rw[AH8 S D5A];obtain⟨l,_,e2⟩:=I.hd.2 j n S;rw[eS q q]
    rw[ESH (B79 g _ (IH L.symm I.hg) (by simp;exact lq 0x1a4d00fe3177fc4a6cebfce656c1033063bcf5a699d1f70b82a hl J hi c C)) DZ3 n (bV++[bU],[]) NL]
    rw[y];have N:EC n:=I.sm.free q;refine⟨DMX,?_,E1Z L,?_,?_,L.symm,I.fg,N,?_⟩
    .rw[JZ Lsts.put (Lsts.put (I.hd.snoc I.hc) ?_)]
     rw[B94 nd O]
     rw[B94 I.ng I.gc]
    rw[B94 nd O]
    rw[B94 I.ng I.gc]
    .intro b o' t;rw[CM (A4 (C56 g I.fg)) (A4 (C56 n N)) DLH]
   .have e:¬d=wd "+":=λz=>C8L;have B:atI (EHE cu1) (-1)=BU V.ref cu1:=by
     exact BS a1u
    rw[ESH ⟨_,rfl,_,rfl,g,_,_,_,rfl,rfl,EU I.hg,B,VC I.hc,_,rfl,cu1,_,_,rfl,rfl,I.hc,by simp;exact lq 0x13360ca9beacf17fd4d949fb18fd4eb9a699d1f70b829 hl J hi c,?_⟩ ds cu1 (bV,bU++[d]) IX]
    rw[y];refine⟨IH I.gc I.hg,I.hd.put I.nd,DMX,I.nd,I.ng,I.gc,I.fg,I.fc,?_⟩;intro b o' t;rw[AD (A4 (C56 cu1 I.fc)) DLH]
  .rintro σ H1 ⟨o,ds,cu1,rfl,I⟩;rw[DBY I];rw[A79];refine k g DZ3 H1 ?_ (I.hd.snoc I.hc) I.sm;rw[D4Z I.hg]
def b0R(ys:AA):E93 ys=ys.dropLast:=by
 rw[E69 ys.length ys.length (by
  rw[A6Q HT.sIx];rw[PZ A58])]
 rw[e,HT.sIx_none,List.drop_zero,Nat.sub_zero,List.dropLast_eq_take]
def a8S(x:Str)(xs:AC):eY (inV (V.str x) (gN xs.map)) YS:=by
 unfold inV;rw[List.any_map,Bool.eq_iff_iff,List.any_eq_true,decide_eq_true_iff];constructor
 .rw[AE1 y hy];have:y=x:=BJ0 eqV e
  rw[JP this hy]
 .intro h;rw[BA x h (IF eqV)]
def a0d(xs:AC):DY (xs.map V.str).all J9:=by
 rw[B93]
inductive spRT(vs:AA)(H:Hp)(Q:VK)(y_3:XK):Prop
 |mk (nt p:qE) (ns ws:AC) (j:Nat) (x:Int) (_:C66) (_:A0I) (_:DC5) (_:C2P) (_:QV) (_:dN ns.length) (_:0<x) (_:cD) (_:ATT a (cZ a (hJ j BR1)) BW6):JD spRT
def sc_read_term:CVX ["names","words","place","figures","number"] a0T:={}
def c8a{K:qF}{l:Str}:GC j Nat z V (GU ((gN ns.map)) z) (EqV K H 0 z (V.str l) ((ns[j]?).any (· == l))):=λj z a=>by
 rw[List.getElem?_map]at a;rw[LU y b (Option.map_eq_some_iff.mp a)];rw[AD b (EqV.flat rfl rfl)]
def a8r{D:Tok}(F:C6V "read_term" a0T)(T:AV)(c:BO1 D)(a:B9I):ELP:=by
 rw[BV sc_read_term y o t]
 rw[tD nt p ns ws j x]
 .obtain⟨nt,p,ns,ws,j,x,rfl,hn,hp,hT,hN,hnl,hx0,hx1,k⟩:=h;have C:=t.u60;rw[KY u]
  rw[CD (DCJ AG5
 (kI 3 sc_read_term.nd jv 1
 (A1 (B7J DRY (c1m K CBN EO CG)
 (DCJ (b5V K C EO (DG CBN))
 (BS2 3 sc_read_term.nd (a6b DRY (ASQ J3 C8M) (E4 YC))))
 B4)
 (A1 (AKZ a5Y BKC
 NT
 B4)
 (CQ 4 sc_read_term.nd (E90 t.mono (AOT 3) c)
 (A1 (BNZ DST (D4 G8 4 A6)
 NT
 B4)
 (SG Q5 (EG 2 AHZ))))))))]
  refine⟨_,rfl,nt,_,rfl,BKP,?_⟩;rw[EM];rw[A79];rw[EM];rw[B9L (∃fp,σ=[FB nt,dJ,ATH,FB fp,none]/\yX fp [C6B]/\BP)]
  case fin =>
   rintro σ H1 ⟨fp,rfl,r,s1⟩;rw[VQ (B9J fp (XS r) (B5 (B8D fp _ 0 (EU r) B91 x (~~~a8B hx0) hx1 A6I)))];rw[C46 DJ7];rw[BB (C0J (by rw[PD BSH 0xb7c3bd0422bcae36 hx0])) B5 (IQ rfl _ rfl (A1N 2 b2a u) (λq B=>AK k A0 (C6M B)))]
  have l:=List.length_pos_iff.mpr hT.ne;rw[DO EFI (bL (show MX<BG DGG by rw[BB List.length_map b2l l]))];rcases hT with⟨n,g,hw⟩|⟨g,rfl⟩
  rotate_left
  .rw[F5T (a1u [] _)];rw[a8S,decide_eq_false (c8g hN x)];exact DK (B5 (VF ⟨p,QF g List.length_map,hp,mP⟩))
  have m:ws=[n]/\x=1∨ws=DWU:=by
   rw[hw,tmW];split
   rw[HF (EQ (‹_›))]
   rw[HG rfl]
  have b:atI (ws.map V.str) (-1)=BU V.str n:=by
   rcases m with⟨e,_⟩|e<;>rw[e]
   .exact a1u [] _
   .exact a1u [_] _
  rw[F5T b];rw[a8S,BQ8 List.mem_of_getElem? g];rw[cA (E2 ⟨_,rfl,(A3X nt _ hn),_,rfl,_,rfl,p,_,_,_,rfl,rfl,A4R,b,nt,_,_,0,λj=>(BFB).any (· == n),j,rfl,rfl,hn,AI,c8a,A5K List.length_map (NE g),IF g,c7Z hN.nd g,?_⟩)];clear b hw;rw[DQ EFI];rcases m with⟨rfl,rfl⟩|rfl
  .rw[QI (tR (B42 u) p1 d)];rw[EM];rw[EOH]
  .rw[AFZ];dsimp only[M3];rw[DO (F0G p A4R (AHN p1)) b0R];rw[EM];rw[EOH]
def c5e{ms:AC}:F2R (BQ7):=by
 rw[F15]
 .rw[C5C];rw[A4Z i];rw[UX hi ns.length]
  .exact h1 i (XD c0M h2)
  .rw[BHL,List.getElem?_eq_none (XD b9N h2)]
 rw[E2K]
def EqV.strs{k:Bool}{a:qE}{ms:AC}(c:EJ0 a ns.map)(d:EJ0 b ms.map):EBP:=by
 have step:∀j x y,BL6 (gN ns.map)->GU ((gN ms.map)) y->ASK 0 x CNW:=λj x y e f=>by
  rw[List.getElem?_map]at e f;rw[LU u g D36];rw[BE9 v h f];rw[CM g h (EXD (.str u) (.str v))]
 rw[<-c5e];cases k
 rw[B8H EqV.lst (BQ7)]
 rw[B8H EqV.tup (BQ7)]
noncomputable def pr(q:B1U):qI:=[BQL,ED]
def c3X{ys:AA}{rss:LLI}(h:BU5):JL ys.any c4N/\NF ys EFY:=by
 have key:NF ys CY5:=λv b=>by
  rw[AF1 (List.getElem?_of_mem b)];obtain⟨r,_,a,e1,e2⟩:=FD i v hi;rw[EF a _ e1 e2]
 rw[FT (KH List.any_eq_false.mpr v b) (λv b=>.inr (key v b))];obtain⟨a,_,rfl,_⟩:=key v b;exact Bool.false_ne_true
inductive spRTs(vs:AA)(H:Hp)(Q:VK)(y_3:XK):Prop
 |mk (nt p:qE) (ns:AC) (xs:qI) (_:C66) (_:A0I) (_:HJ p (APY D7 B3S)) (_:QV) (_:DB7) (_:lD) (_:B1X cD) (_:QH D7 B3S 10000) (_:ATT a (PY H' (UC (HM xs.map a6J))) BW6):JD spRTs
def sc_read_terms:EEY "totals" "terms" "place" "number" a0m:={}
noncomputable abbrev c9t(nt p t p6:qE)(xs:qI)(m:Nat)(H6:Hp)(i:Nat)(σ:L2.St)(H':Hp):Prop:=∃o4 o5,σ=[D47,dJ,BRR,FB p6,o4,o5]/\aP t (UC (BOP i a1Y (ACI (m+1) 0)).map)/\Off [t] H6 H'
def a6N(F:C6V "read_terms" a0m)(T:AV)(d:ELP)(j:ELL):ELQ:=by
 rw[BV sc_read_terms b2 b0 hr]
 rw[bK nt p ns xs]
 .rw[F5F hxt];rw[BYM];rw[KY R]
  rw[CD (CQ 2 sc_read_terms.nd (BY3 XA (O3 AG5 A6))
 (A1 (C1 (c7K K hu ZX (E4 YC))
 B4P
 B4)
 (A0Q (yW 3 sc_read_terms.nd (N:=["group","names"]) (src:=[none,ZW]) (E9 K (AKL j 174585068 MU))
 (UL ["group","names"])) gP (oP d hr.mono b8W zL)
 (A1 (C1 (c7J K hu J7 wO CG)
 NT
 B4)
 (A1 (B8W C1Z 4 sc_read_terms.nd 5 sc_read_terms.nd
 (A3 (b2K K rN AZT A74)))
 B4P)))))]
  rw[GN (B42 R) p1 a4];rw[CBD A5J a4 p1 A5J p1 A5J];rw[A8T (RD p1 A5J) e1];rw[VQ ⟨_,rfl,nt,_,rfl,aQ D6O,_,_,rfl,rfl,p1,_,_,rfl,rfl,e1,A67,A67,by rw[LS List.length_map];rw[DL 0x3e1f870cf62251555bd8366 hnl R],BK t ht⟩];have I:XL ((ZO (BG (A5W ns.map)+1))) A5J=CI4 V.int:=by
   rw[AFG (AQR (ZO (BG ns.length+1)) hV)];generalize hV=m;induction m with
   |zero=>rfl
   |succ m ih=>rw[C3N ih]
  rw[I];have a7:EC t:=s1.free ht;rw[B4L AW3 ht];rw[TL e2 H1 t AW3 t AW3];rw[A0O (aU t AW3) e2];refine zQ (B42 R) p3 C;rw[AE J (s2.upd (o:=CL3) C) X (S3 (o:=CL3) e2 C)];have G:C6W E3C FZ p3 (CJ (D7 B3S=AK6)):=EqV.strs (k:=false) (EU DLD) (SqL.of A0);generalize E3C=H3 at J X G;refine F19 G;have u:=c9K hl;rw[YI (a0i ns xs=[])]
  .rw[bL (show D7 B3S=AK6 by rw[GO D7 rS])];rw[List.map_eq_nil_iff.mp c]at u;exact E2 (BGQ (RZ u X) J)
  obtain⟨a6,a3⟩:=c1J hN hl c;rw[jW a3];rw[QI ⟨_,rfl,p,_,rfl,DLD,hwl,DT g gs H4 hg Y s4⟩];rw[a6]at Y;rw[AE L (J.trans s4) e4 (AHH X)];have a5:C1W<=8:=dZ bF (by rw[F2 List.length_zipIdx hl Nat.succ_le_succ hnl]);have B:gs.length=C1W:=by rw[BB Y.1 List.length_map ..]
  rw[C0X g hg];refine YH a0f g (gs.map V.ref) (AJ0 0x5cde6d50a8531aa99b5a1547eae0edf R a5 B) (RJ ys (AZS H4/\Its H' ys (HM E8P i pr))) ⟨A24,.nil⟩ (λi ys H' hi h=>CJW (EU (AH DE hg)) YD) ?_ ?_
  .rintro i x ys H5 hx ⟨s5,hT⟩;rw[ALY hx a u hx];obtain⟨l,n,a0⟩:=Y.2 i a u;unfold a0i at n;rw[ALY n q D n];obtain⟨q1,q2,S⟩:=XJ b7K hl D;refine⟨Sub.one,_,rfl,_,rfl,nt,a,ns,_,DB,ED,rfl,pW (AHI L),pW a0,S,hN,~~~b2j hnl,q1,hxt _ q2,λb H6 O v=>HR (s5.trans v)⟩;rw[List.take_add_one,D,List.map_append];exact(hT.same v).snoc (EW b O)
  .rintro ys H5 ⟨s5,hT⟩ p6 hp6;rw[List.length_map,B,List.take_length]at hT;rw[HW v s5.upd dH hp6];rw[mS M H5 p6 dH p6 ys];have r:=ALQ hT.same H5 dH hp6;have t6:p6≠t:=oS DDZ hp6;generalize EZ H5 p6 ys=H6 at v M r;rw[AE b1 (L.trans v) y (AH v e4)];obtain⟨a8,a9⟩:=c3X r;rw[EM];rw[DO (VA p6 ys rfl rfl (EU M) a9 _ rfl ?_) a8];rw[QI (B29 p6 M)];refine YH O4 p6 ys (c9t nt p t p6 xs ns.length H6) (US _ _ y xI) (DTT zz o zz (AK o (BL t6) M)) ?_ ?_
   .rintro i x σ H7 hx ⟨o4,o5,rfl,e7,off7⟩;obtain⟨_,n,a,rfl,u⟩:=r.2 i x hx;rw[ALY n q D n];have S:=(List.getElem?_eq_some_iff.mp (List.mem_zipIdx_iff_getElem?.mp (DLO List.mem_of_getElem? D))).1;have W:a≠t:=VP u y;have Z:=TH off7 W u;rw[VQ (A3W a _ Z _ _ _ _)];rw[GO c9t (show BOP AO a1Y DNH=a1Y DV7 q by rw[DHE D])];have e:=c2u (E8P i) DNH;generalize DV7=U at e7 e;rw[List.length_replicate]at e;have hj:DB<U.length:= TC 0x3e97b66ece48dfeea24b0ed8 hl S e
    have a1:BZS U.map BQL=BU V.int U[DB]:=N9 (by rw[List.getElem?_map,ATN];rfl);have a2:UY ixN (ABP U.map) BQL DB:=by
     rw[EVT (TC 0xbfb09efef05a1a507aca4b0ed8 hl S e)]
    rw[DO ⟨_,rfl,_,rfl,t,_,_,_,rfl,rfl,EU e7,a1,_,rfl,_,_,rfl,rfl,t,_,_,DB,rfl,rfl,e7,a2,_,_,rfl,?_,SE off7.set⟩ A0];unfold a1Y;rw[List.map_set,List.getD_eq_getElem?_getD,ATN];rfl
   .rintro σ H7 ⟨o4,o5,rfl,e7,off7⟩;rw[show ys.length=C1W by rw[BJ3 r.1],List.take_length,u]at e7;rw[cA (AZE e7 λb o O=>AK off7 ?_ (AH b1 O))];simpa using A5 O a7
def a6s(x:Str):∀ws:AC,((ws.map V.str).countP λz=>eqV z (V.str x))=ws.count x
 |[]=>rfl
 |w::r=>by
  rw[List.map_cons,List.countP_cons,List.count_cons,a6s x r];rfl
def cut_hi(ws:AC)(m:Nat)(h:D8J):E4T A4W QL=HM ws.take m V.str:=by
 rw[EKN List.drop_zero Nat.sub_zero List.length_map BRG]
def cut_lo(ws:AC)(m:Nat)(h:D8J):EGP A4W QL=HM ws.drop m V.str:=by
 rw[EKM BRG List.map_drop (BQN (by rw[F2 List.length_drop List.length_map lq 0x9ee3af564d1eaf859b956]))]
inductive spRS(vs:AA)(H:Hp)(Q:VK)(y_3:XK):Prop
 |mk (nt p:qE) (ns:AC) (xs:qI) (_:C66) (_:A0I) (_:HJ p (JN (a5t ns xs).tail.map)) (_:QV) (_:DB7) (_:lD) (_:zS) (_:A4H (IS a5t ns xs)) (_:∀a H',PY H' XV->yN->BP->BW6):JD spRS
def sc_read_sum:EEY "middle" "left" "right" "rest" a2f:={}
def b0e{tT:Tok}(F:C6V "read_sum" a2f)(T:AV)(b:DP3)(a:ELQ):ELR:=by
 rw[BV sc_read_sum a1 Y W]
 rw[bK nt p ns xs]
 .rw[F5F g];have hu:=W.u60;rw[KY d]
  rw[CD (A1 (AKZ a5Y (DTE c1s)
 NT
 B4)
 (CQ 2 sc_read_sum.nd (DTE b5W)
 (CQ 3 sc_read_sum.nd (EE5 (ASQ J3 (J2 (jv 2))))
 (CQ 4 sc_read_sum.nd (EE5 (ASQ (EDC 2) J3))
 (A1 (BNZ (D4 Z0 3 J7) DST
 NT
 B4)
 (A0Q (yW 5 sc_read_sum.nd (N:=["a","b"]) (src:=[none,none]) (APR (EG 3 AHZ))
 B7E) gP (AJB b4n)
 (GS (a6b (c9m (ZB c4y T.b_max (WO (DCA (ZF E9 5)
 BWO) (A50 c7P T.b_abs))) (BLN b)) A74 J7))))))))]
  rw[oY n (HP kN) hV List.length_map hl]
  rw[AE X (b0H hN hl) o2 (b0H hN n)];rw[a5t,List.length_cons,List.length_append,List.length_cons]at hwl;rw[a5t,List.tail_cons]at hp;have t1:kJ cD:=DM6 g;have t2:FW (A1S (λx => -x)) cD:=DM6 g.neg;generalize hA:AV0 xs=A at hp X hwl;generalize hB:AV0 kN=B at hp o2 hwl;have I:A.length<HP A0Y:=by rw[F2 List.length_append List.length_cons lq 32118533801286]
  have l:(A0Y)[A.length]?=BU wd "=":=by rw[AIN,Nat.sub_self];rfl
  have c1:(A0Y).take A.length=A:=List.take_left' rfl;have c2:(A0Y).drop D1P=B:=by rw[List.drop_append,aL List.drop_eq_nil_of_le b9B,Nat.add_sub_cancel_left];rfl
  have hc:(A0Y).count (wd "=")=1:=by
   rw[List.count_append,List.count_cons_self,D0R X,D0R o2]
  have m:∀j z,j<A.length->GU ((A0Y)) z->z≠wd "=":=λj z O e y=>by
   rw[List.getElem?_append_left O]at e;exact X (by rw[DXD y])
  generalize A0Y=ws at hp I l c1 c2 hc m;refine B8D DA0 p _ hp rfl DB5 _ rfl ?_;rw[a6s,show ws.count (Str.ofString "=")=1 from hc];rw[QI ⟨_,rfl,DA0,p,_,_,A.length,rfl,rfl,hp,rfl,DB5,OQ I,AHN z,BT j z O d,?_⟩]
  .rw[xQ l d d];exact beq_self_eq_true (wd "=")
  .rw[ALY d y hy d];exact beq_eq_false_iff_ne.mpr (m j y O hy)
  rw[DQ (C43 ?_)]
  delta M3
  refine ABW p _ A4R (BK p1 R);rw[cut_hi ws _ (~~~a2s I),c1];rw[oT (JN A.map) R];refine⟨nt,p1,ns,xs,rfl,D6O,BQR hA,hN,hl,hnl,t1,A71 hA 0x2a4c3d18d3ea0dfb0977f2762571d6 hwl,BT a2 H2 e2 s2⟩;have s2:=s1.trans s2;rw[DQ ⟨_,rfl,_,rfl,_,rfl,_,_,rfl,rfl,_,rfl,p,_,rfl,BRL hp,BK p3 S⟩];rw[show(BG A.length+1)=EA D1P by exact c0b,cut_lo ws _ (~~~a8F I),c2];rw[MO s3 H2 (JN B.map) S];refine⟨nt,p3,ns,kN,rfl,xF (XF hn),BQR hB,hN,n,hnl,t2,A71 hB 0x1fe983d5ed9379c1049bd6122571d6 hwl,BT a4 H4 L J⟩;rw[AE u (s3.trans J) e2 (A6Z u)];have J:=s2.trans u;rw[DQ (BBT (AQC false false a2 a4 (nD e2) (nD L)))];rw[EX (SJ a4T [] (BXK (x-y)) (k1:=false) (k2:=false) BRK D3Z (by simp;rw[DL 0x48ca7d46caeb4f29e16d252d6 hl hnl]) (BEC (EU (FX e2)) SqL.of L) rfl (CZQ Q1)) Z t s5 r];rw[C34 a9i (x-y),b4D];have f5:EC t:=(J.trans s5).free r;have C:=J.trans (s5.upd (o:=XV) r);have G:KB Z t XV t XV:=A0;rw[AHB Z t XV H6 C G];rw[DQ (B29 t G)];rw[EX (xX a3H nG xs (λi=>CR3) (AJ0 0xa3b26e4bdca7fdb8855b7e426eca52d7 hl hnl d) qW (AIW G) rfl (A0J H7 Q7 hv c s7)) H7 p7 s7 U]
  .rw[xQ c hv hv];exact AEB _ x bR
  .refine⟨false,p7,A1S (λi=>BIH),rfl,SqL.of (by rw[A0,List.map_map];rfl),BGV c0s hl,DS M hM a0⟩;refine⟨_,_,rfl,rfl,_,rfl,?_⟩;rw[IV x c hM];rw[bL (show MW (x<0) (-x) x<=1000000000000 by have g:=g x c;unfold topN at g;split<;>omega)];rw[HW D s7.upd (DD (xs.map λi=>CR3)) U];exact E2 (DK (AK k (AH D G) f5 (C.trans D)))
#where
#where
section
variable {C:qE}
structure Dr where
 names:AC
 rows:LLI
 sides:qI
 caps:YG
 prices:YG
noncomputable def a0J(c:YG):KZ:=c.map λq=>(Sum.inr ED,DI DB)
noncomputable def lk(c:YG)(n:Str):FF:=A1Z c.find? (CJ (ED=n)) (·.2)
def a2T(n:Str):∀c:YG,F9 (a0J c) ATJ=(lk c n).map V.int
 |[]=>rfl
 |q::r=>by
  have a:=a2T n r;unfold a0J lk at *;rw[GD ED n]
  .rw[List.map_cons,G6 (by rw[e]),List.find?_cons,A75];rfl
  .rw[List.map_cons,G7 (λz=>ANW Sum.inr.inj),List.find?_cons,AHS];exact a
def a8M{c:YG}{n:Str}:eY (lk c n).isSome ((n∈c.map (·.1))):=by
 unfold lk;rw[Option.isSome_map,Bool.eq_iff_iff,List.find?_isSome,decide_eq_true_iff,List.mem_map];constructor
 rw[ETW yI]
 rw[ETW A75]
def c4q{c:YG}{n:Str}{x:Int}(h:C2E):putK (a0J c) ATJ (V.int x)=a0J DLX:=by
 rw[a5x]
 .rw[BX1 a0J]
 .rw[a2T];rw[ERX];cases e:DRD with
  |none=>rfl
  |some y=>rw[C6L]
section
variable {P:qG}{w:World}{K:qF}{mg:BJ}{base:Heap}
def a6W{x:Str}{r:AC}:EP5 A78 0 x:=B91
def c9J{x y:Str}{r:AC}:EP5 rQ 1 y:=N9 (j:=1) rfl
inductive spTN(vs:AA)(H:Hp)(Q:VK)(y_3:XK):Prop
 |mk (nt p kp:qE) (ns:AC) (n:Str) (x:Int) (c:YG) (_:vs=[AS3,FZ,AM kp]) (_:A0I) (_:HJ p CK2) (_:HJ kp (.dK (a0J c))) (_:n∈ns) (_:C2E) (_:WH) (_:cD) (_:HK c.length) (_:∀H',BVQ kp DLX->DHD->AMH):JD spTN
def sc_take_number:DA ["names","words","kept","number"] BNP X1:={}
def a5A{m:Tok}(F:HL "take_number" X1 BNP)(T:AV)(b:BO1 m)(a:B9I):EN4:=by
 rw[BV sc_take_number j d e]
 rw[A97 nt p kp ns n x c]
 .obtain⟨nt,p,kp,ns,n,x,c,rfl,hn,hp,hk,hin,hno,h0,h1,hcl,k⟩:=h;have g:=e.u60;rw[KY l]
  rw[CD (A1 (A2D (a0K (a5Y eU A6) (a0K (b5S K pR EO CG) (Y9 (c7L g pR rN CG))))
 NT
 B4)
 (CQ 3 sc_take_number.nd (E90 e.mono pR b)
 (A1 (B74 3
 NT
 B4)
 (A1 (a1G g rN pR wO)
 fK))))]
  refine B9J p CSG (B5 (F3U nt BKP rfl CS6));rw[EJ,a8S,bL hin];rw[cA (B5 (F3U kp (DGet.k (k:=ATJ) hk) _ rfl))];rw[a2T,Option.isSome_map,a8M,jW hno];rw[QI (B8D p _ _ A4R c9J x h0 h1 C5M)];rw[DQ (A1V ⟨_,rfl,_,rfl,_,rfl,p,_,_,_,rfl,rfl,EU AIK,a6W,kp,_,rfl,DPut.k (k:=ATJ) (JU hk) (by unfold a0J;rw[AD List.length_map (lq 0x16bf9609ac6decabf4f54ec80e6 hcl l)]),?_⟩)];refine k _ ?_ (SE s1.off.set);rw[AD A0 (dF some (congrArg HO.dK (c4q hno)))]
#where
noncomputable def dfl(tn ar as ac ap:qE):OY:=[jY "names" tn,DCU ar,jY "sides" as,DCV ac,jY "prices" ap]
section
variable (tn ar as ac ap tn':qE)
def a6r:AKT "names" tn:=CG
def c2a:AKT "rows" ar:=CG
def c6b:AKT "sides" as:=CG
def c6d:AKT "caps" ac:=CG
def c6c:AKT "prices" ap:=CG
def c1Z:B47 "take":=CG
def c8k:B47 "take_names":=CG
def c8j:B47 "take_sum":=CG
def c8i:B47 "whole":=CG
def c4W:EX2 "prices" (AM ap) EXQ tn:=CG
def c2b:EX2 "names" (AM tn') C7U tn':=CG
#where
def Its.putI{H:Hp}{vs:AA}{rss:LLI}{c dx:qE}{fs:OY}{o:HO}(h:TM)(b:HJ c iY):DK4:=E9E
structure DrTx(K:qF)(C:qE):Prop where
 cl:W0
 n1:eE "names"
 n2:DBJ
 n3:eE "sides"
 n4:DBK
 n5:eE "prices"
structure DrAt(C:qE)(H:Hp)(p ar as ac ap:qE)(d:Dr):Prop where
 ob:∃dx tn,AU3 C7U/\AAE tn d.names.map V.str
 hr:∃us,ZR ar us/\LL us d.rows
 hs:HJ as (UC d.sides.map)
 hc:HJ ac (BI7 d.caps)
 hp:HJ ap (BI7 d.prices)
 rs:ar≠as
 cp:ac≠ap
def DrAt.same{C:qE}{H H':Hp}{p ar as ac ap:qE}{d:Dr}(h:A11)(s:BP):A2F DrAt ar as ac ap d:=by
 obtain⟨⟨dx,tn,e,f⟩,⟨k,g,i⟩,hs,b,c,j,a⟩:=h;exact⟨⟨dx,tn,FX e,BSE⟩,C52 k g i.same,FX hs,FX b,FX c,j,a⟩
section
variable {P:qG}{w:World}{K:qF}{mg:BJ}{base:Heap}
noncomputable def dr0:Dr:=⟨[],[],[],[],[]⟩
inductive spDInit(C:qE)(vs:AA)(H:Hp)(Q:VK)(y_3:XK):Prop
 |mk (p dx:qE) (_:lE) (_:C0P) (_:∀(ar as ac ap:qE) (H':Hp),EC ar->EC as->EC ac->EC ap->AT6 dr0->C35->ABF):lL spDInit
def a2M:B5Q N1:={}
def b8D(FM:AJI "__init__" "Draft.__init__" N1)(U:cC):AD1 "__init__" spDInit:=by
 rw[HZ FM.fnJ a2M a0 J hr]
 rw[QW p dx]
 .rw[QG p dx rfl hp k];rw[CD (AS8 Q5 jaN
 (B5Z
 (B5Z
 (ADH b4p
 (B0S b4p)))))]
  have step:∀{H1:Hp}{x:qE}{o:HO}{fs:OY}{fl:Str}{v:V},D2 H1 p iY->AFQ x->D2 (CCF) p COQ/\p≠x/\KB H1 x o p iY/\GQ (CCF) o/\B7G (tQ (CCF)):=by
   intro H1 x o fs fl v h1 h2;have m:p≠x:=AUD A5;refine⟨A0,m,IH m h1,C65 m.symm,BT b u hb G⟩;rw[CM (A4 G) (aO hb h2) hb]
  rw[lC tn I];rw[kD M q a3 N O (B9D CLA "names" tn hp I) (oG a3 U.n1 AI)];rw[AZ7 (upd (MV H tn []) p (CWN tn)) M N O];rw[lC ar l];rw[kD R r b3 z B (B9D UP "rows" ar M l) (AK5 b3 U.n2 1)];rw[A6U (AF4 (EZ H1 ar []) p dx BNU) R z B];rw[lC as c];rw[kD S D c3 T t (B9D UP "sides" as R c) (AK5 c3 U.n3 2)];generalize upd (iW as []) p (BG4 "sides" as BNU)=L at S T t;refine A42 ac;rw[kD W X d3 F d (B9D ACT "caps" ac S j) (AK5 d3 U.n4 3)];generalize AF4 (PM L ac .dK []) p dx EXQ=H4 at W F d;refine jI ap;rw[kD f1 f2 f3 f4 i (step (o:=ACT) (fl:="prices") (v:=AM ap) W a) (AK5 f3 U.n5 4)];have g1:A5D H1:=O;have Y:A5D H2:=B81 B g1;have Z:A5D L:=B81 t Y;have g4:A5D H4:=B81 d Z;have fr:∀{y:Hp}{x:qE},(A5D y)->EY y x->p≠x->EC x:=by
   intro y x g hx m;cases e:H x with
   |none=>rfl
   |some o=>rw[AX (g x o e m.symm) hx hx]
  refine k ar as ac ap _ (fr g1 l r) (fr Y c D) (fr Z j X) (fr g4 a f2) ⟨⟨dx,tn,BU6 c4W,?_⟩,C95,?_,?_,?_,?_,?_⟩ (B81 i g4)
  .exact AK i (AK d (AK t (AK B N q.symm) q.symm) q.symm) q.symm
  .exact AK i (AK d (AK t z r.symm) r.symm) r.symm
  .exact AK i (AK d T D.symm) D.symm
  .exact AK i F X.symm
  .exact f4
  .exact A5 z c
  .exact A5 F a
inductive spTNm(C:qE)(vs:AA)(H:Hp)(Q:VK)(y_3:XK):Prop
 |mk (p ar as ac ap l:qE) (ws:AC) (d:Dr) (_:B3U) (_:A11) (_:BZW) (_:Nms ws) (_:1<=ws.length) (_:ws.length<=7) (_:B40 (DF6 ws) (AG2 p) AMH):lL spTNm
def a1Q:DR5 K8:={}
def a6K(W:iG "take_names" "Draft.take_names" K8 jD)(U:cC)(T:AV)(c:EAM):ELB:=by
 rw[HZ W.fnJ a1Q X F R]
 .obtain⟨p,ar,as,ac,ap,l,ws,d,rfl,_⟩:=h;rfl
 .rw[F3A rfl D hl hN h1 h7];have hu:=R.u60;rw[KY hz]
  have y:PN 9<scanBound:=by decide
  rw[CD (A1 (E3E (c4t A6 eU A6) (a0K (b4k (c4B P w rfl T.b_len (DG (c4x K P w rfl T.b_set MU))) eU) (Y9 (U6 (A3A (AGZ (oF "word" DDL
 DBG) (KR c R.mono WL))))))
 NT
 B4)
 (ADH (gY MU)
 fK))]
  refine D0B l BW8;rw[List.length_map,E7T ws.length];rw[QP DPK];rw[bL (show BQK<=7 by exact c0D h7)];rw[QI ⟨_,rfl,l,ws,rfl,AOQ,AU 0x25d403fee93a5366 h7 y,DT a e n hD hm r⟩];rw[oT AXC n];have M:BQB H AXC AXC:=A0;rw[A8T (yZ AXC) M];refine⟨a,_,rfl,M,AU 0xd7e6e9f73e278a0bc88ecdb7d74a99c08ee1ffa0766 h7 r,_,rfl,l,_,rfl,XS BTA,_,_,rfl,rfl,_,rfl,?_⟩;rw[List.length_map,jW (show ¬(BG e.length<BQK) by rw[yB (B1Q ws e hN.nd x m (kA hm x m)) b9F])];rw[QI (B29 l BTA)];rw[EX (xX a3H A4W ws (λx=>DGS) (CVR h7) qW (AIW BTA) rfl (A0J H2 Q2 S m s2)) H2 p2 s2 u]
  .rw[xQ m S S];exact IQ rfl x rfl (A7Q hN.nm m) q
  .rw[EEN s3 CXX u];rw[A9B p2 ?_]
   .rw[B93]
   rw[show DY (ws.map λ_=>DGS).all trV by rw[B93]];generalize AJT CXX=I at s3;rw[cA (B5 (IQ rfl l _ rfl (A51 (xF hl) tn B)))];rw[HW G s3.upd AX8 B];rw[TL L I tn AX8 tn AX8];rw[AHB I tn AX8 J G L];obtain⟨⟨dx,a0,g,o2⟩,⟨us,r1,r2⟩,hs,Z,hp,rs,Y⟩:=D.same G;rw[DO (AK5 g U.n1 5) c2b];have j:AH1 HO J ((∀fs,o≠iY)) (KB J p (gU C7U) b o):=λ{b o} O t=>by
    rw[AD (A4 λz=>by subst z;rw[O]at g;injection g with g;exact t _ g) O]
   exact k _ ⟨⟨dx,tn,A0,j L AMQ⟩,⟨us,j r1 AMQ,Its.putI r2 g⟩,j hs AMQ,j Z AMQ,j hp AMQ,rs,Y⟩ (SE G.off.set)
inductive spTS(C:qE)(vs:AA)(H:Hp)(Q:VK)(y_3:XK):Prop
 |mk (p ar as ac ap l:qE) (d:Dr) (xs:qI) (sd:Int) (_:B3U) (_:A11) (_:HJ l CYT) (_:C2T) (_:DB6) (_:A7J) (_:Bds AUH) (_:A4H (IS a5t d.names AUH)) (_:DW9) (_:C4X) (_:B40 (DU4 sd) (mE [ar,as]) AMH):lL spTS
def sc_Draft_take_sum:DA (ABA "words" "rest") jD N0:={}
def b0a(Z:iG "take_sum" "Draft.take_sum" N0 jD)(U:cC)(T:AV)(c:ELR):ELC:=by
 rw[HZ Z.fnJ sc_Draft_take_sum a0 O hr]
 rw[EY4 d xs sd]
 .obtain⟨p,ar,as,ac,ap,l,d,xs,sd,rfl,D,hl,hN,hxl,h7,h3,hwl,h5,hsl,k⟩:=h;rw[KY Y]
  rw[CD (CQ 2 sc_Draft_take_sum.nd (oP c hr.mono b8V (jaC RC MU))
 (A1 (EBU (G8 zO A6)
 NT
 B4)
 (B4A J4 (DG (gY (DG (a2V K rN J3 C8M))))
 (B4A J4 (jaC (a0b (EIM rN)) jaN)
 fK))))]
  obtain⟨⟨dx,tn,m,u⟩,⟨a1,R,_⟩,_⟩:=vM;rw[VQ ⟨_,rfl,p,C,dx,_,_,rfl,m,U.cl,U.n1,AEI,_,rfl,tn,l,d.names,AUH,rfl,u,hl,hN,BUM hxl,h7,h3,hwl,DW a H1 x I s1⟩];obtain⟨⟨dx,tn,m,u⟩,⟨F,r,v⟩,hs,G,L,S,cp⟩:=BZP;rw[DO (A1V (BOX m U.n2 BUK ar _ rfl (XS r) rfl)) (C0J (by rw[MR BSH v.1];rw[UN 0x111ffe2f6501d4fe5 h5]))];rw[QI (B9T m U.n2 BUK r)];dsimp only[M3];refine F0G a (SqL.of x) (BK p2 M);rw[b0R,<-List.map_dropLast,List.dropLast_concat];rw[B54 XV M];rw[TL e2 H1 p2 XV p2 XV];rw[A0O (aU p2 XV) e2];rw[GA p2 _ rfl (tX BRK q N)];rw[AI6 j bI N];rw[TL X H2 q bI q bI];rw[AHB H2 q bI t j X];rw[AE W (s1.trans j) x (rH x)];rw[AE m (rH m) u (rH u)];rw[AE r (rH r) hs (rH hs)];rw[AE G (rH G) L (rH L)];rw[AE v (v.same j) J v.1];clear s1 s2 j;refine B79 ar F r (TC 0x5cde6d6301f873465c7fb81d5bcd7e7 h5 Y J);have y:AH1 HO t D54 (KB t ar (DD C5T) b o):=λe g=>IH g e
  have kd:EBF D54:=λ{b o} e g z=>by
   rw[E37 r]
   exact g _ e.symm
  have n:=y hs S.symm;rw[IN (B9T (y m (kd m λ_ z=>tK)) U.n3 D8B n) ⟨_,rfl,_,rfl,a,_,_,_,rfl,rfl,EU (y x (oS R I)),AG List.map_append (BS a1u),_,rfl,as,_,_,rfl,rfl,n,AJ0 0x5d8498f7cc2b21570a82e50ef15dbe7 h5 hsl Y,?_⟩];have B:EBF (KB (EZ t ar C5T) as (DD (EHD (- -sd))) b o):=λ{b o} e g=>by
   rw[AD (A4 λz=>by rw[E37 hs];exact g _ e.symm) (y e (kd e g))]
  refine k _ ⟨⟨dx,tn,B m QJ,B u QJ⟩,y6 C5T (C65 S),?_,B G QJ,B L QJ,S,cp⟩ (B2B W.off.set AJ)
  .exact Its.put (Its.put (v.snoc (EW q X)) r) n
  .rw[A0,List.map_append];exact congrArg (λz=>BU HO.lst (EHD z)) (Int.neg_neg sd)
def a3g(x:V)(xs:AA):a0e IO (AQ RV) none=xs:=by
 rw[eW a0e (show RV=EA 1 from rfl) HT.sIx_none HT.sIx_nat];simp
noncomputable def L5(p ar as ac ap:qE):EI:=[p,ar,as,ac,ap]
inductive Stp:EC9 AC
 |of {d:Dr}{ns:AC}(h0:d.names=[]) (hN:QV) (h1:BT2) (h7:lD):AJ4 AAC (DF6 ns)
 |sum {d:Dr}{xs:qI}{s:Int}(hN:C2T) (h1:B12) (h7:A7J) (hl:DB6) (hb:Bds BYW) (h5:DW9) (hs:C4X):AJ4 (a5t d.names BYW) (DU4 s)
 |cap {d:Dr}{n:Str}{x:Int}(hn:C1J) (hc:BHR d.caps.map) (hl:HK d.caps.length) (h1:WH) (h2:cD):AJ4 [A3B,n,nP] (AD8 caps (d.caps++[BKO]))
 |price {d:Dr}{n:Str}{x:Int}(hn:C1J) (hc:BHR d.prices.map) (hl:HK d.prices.length) (h1:WH) (h2:cD):AJ4 [AE7,n,nP] (BZ2 (d.prices++[BKO]))
inductive spTk(C:qE)(vs:AA)(H:Hp)(Q:VK)(y_3:XK):Prop
 |mk (p ar as ac ap l:qE) (ws:AC) (d d':Dr) (_:B3U) (_:AJ4 ws d') (_:BZ1) (_:A11) (_:BZW) (_:B40 d' BTX AMH):lL spTk
def a6H:DR5 a0s:={}
def DrAt.putK{H H':Hp}{p ar as ac ap kp:qE}{d d':Dr}{c:KZ}(D:A11)(l:YZ kp .dK c)(off:DHD)(m:d'.names=d.names)(n:d'.rows=d.rows)(hs:d'.sides=d.sides)(h1:BVQ ac d'.caps)(h2:BVQ ap d'.prices):AT6 d':=by
 obtain⟨⟨dx,tn,s,t⟩,⟨x,u,j⟩,h,y,A,w,k⟩:=D;have kd:AH1 HO H ((∀c,o≠.dK c)) BRF:=λ{b o} f g=>off b o (by rw[List.mem_singleton];intro z;rw[z,l]at f;injection f with f;exact g _ f.symm) f;rw[DO ⟨⟨dx,tn,kd s QJ,AG m (kd t QJ)⟩,y6 x (kd u QJ),AG hs (kd h QJ),h1,h2,w,k⟩ n];rw[AY j.1 (OM v (CIO (j.2 i v e) (kd q QJ)))]
def b8q(R:iG "take" "Draft.take" a0s jD)(U:cC)(T:AV)(i:W0)(a:EN4)(e:ELB)(g:ELC):ELA:=by
 rw[HZ R.fnJ a6H W N v]
 rw[EY4 ws d d']
 .rw[F3A d' rfl S hwl D hl];rw[CD (A1 (AKZ G8 zO
 (GS (a4f (a1l pR B1) (a2W (EI1 e b1Y D2S))))
 B4)
 (A1 (EK6
 (SG (EI1 g b1X) D2S)
 B4)
 (A1 (EK6
 (GS EJU)
 B4)
 (GS (A8J (a1l pR B1) EJU)))))]
  obtain⟨⟨dx,tn,t,M⟩,_,_,G,I,_,O⟩:=vM;refine BOX t U.n1 AEI tn _ rfl (aQ M) rfl;have L:B12->iV (BLY (PN (A5W d.names.map))):=λh=>C0J (by rw[AG1 BSH];rw[UN 0xb7c3bd02eb9bfe6d h])
  have pos:∀{n:Str},C1J->B12:=λh=>List.length_pos_of_mem h;cases S with
  |@of ns X F h1 B =>
   rw[X];rw[QP CHF];rw[B4I (F1U c8k)]
   delta M3
   rw[CZG (JN ns.map)];exact⟨p,ar,as,ac,ap,p1,_,d,rfl,BZP,A0,F,h1,B,BOY y y (c.mono λb m=>A70 CSB)⟩
  |@sum xs sd F h1 B J m Y hs =>
   rw[AUC (L h1)];rw[B4I (F1U c8j)]
   delta M3
   refine CPF;rw[a5t,List.map_cons,a3g];rw[oT CYT j];exact⟨p,ar,as,ac,ap,p1,d,_,_,rfl,BZP,A0,F,J,B,m,hwl,Y,hs,BOY y y (c.mono λb m=>by rw[uW m];unfold L5;simp only[List.mem_cons];rcases m with rfl|rfl<;>simp)⟩
  |@cap n x u r q h1 h2 =>
   rw[EPR];rw[B4I EQH]
   delta M3
   rw[F61 U.n4 D8C ac BTB BTB e2 (TH c O.symm AW5)]
  |@price n x u r q h1 h2 =>
   rw[EPR];rw[AUC CZA];rw[B4I EQH]
   delta M3
   rw[F61 U.n5 D8D ap AW5 AW5 (TH c O BTB) e2]
#where
#where
section
variable {L:ES}
structure SysAt(H:Hp)(v:V)(ns:AC)(rows:LLI)(sides:qI)(caps:AS)(prices:qI):Prop where
 ex:∃a n r s c p us,AEL/\A21 [AM n,AM r,AM s,XE,FZ]/\BCP n/\BX8/\LL us rows/\AEA s sides.map/\AAE c caps.map ovI/\HJ p (UB prices.map)
def SysAt.same{H H':Hp}{v:V}{ns:AC}{rows:LLI}{sides:qI}{caps:AS}{prices:qI}(h:CD0)(s:BP):CDX:=by
 obtain⟨a,n,r,t,c,p,j,e,e1,e2,b,d,f,g,i⟩:=h.ex;exact⟨a,n,r,t,c,p,j,e,D56,BSG,FX b,d.same s,BSE,FX g,FX i⟩
noncomputable def Dr.capsL(d:Dr):AS:=d.names.map (lk d.caps)
noncomputable def Dr.pricesL(d:Dr):qI:=BAI (CX8 d.prices)
section
variable {P:qG}{w:World}{K:qF}{mg:BJ}{base:Heap}{C:qE}
inductive spWh(C:qE)(vs:AA)(H:Hp)(Q:VK)(y_3:XK):Prop
 |mk (p ar as ac ap:qE) (d:Dr) (_:lE) (_:A11) (_:A7J) (_:F2W):lL spWh
def sc_Draft_whole:DA (ABA "caps" "prices") A1O Y5:={}
def b8o(FM:AJI "whole" "Draft.whole" Y5)(U:cC)(T:AV):E5N:=by
 rw[HZ FM.fnJ sc_Draft_whole a1 a0 hr]
 rw[tD p ar as ac ap d]
 .obtain⟨p,ar,as,ac,ap,d,rfl,D,hnl,k⟩:=h;rw[BYM];rw[KY hz]
  rw[CD (CQ 1 sc_Draft_whole.nd (bP (EDT
 E5C) (c4J hu BY9 (jv 0)))
 (CQ 2 sc_Draft_whole.nd (bP (EDT
 E5C) (c4I hu BY9 EO A6))
 (SG Q5 (jaC RC (UO BUO BUO B1P)))))]
  obtain⟨⟨dx,tn,g,t⟩,⟨j,r1,r2⟩,hs,hc,hp,rs,cp⟩:=vM;refine EWE g t;rw[EX (F13 CFP t (A0J H1 Q1 r Z s1)) H1 p1 s1 S]
  .rw[F0T (JU g) U.n4 D8C ac BTD BTD];cases e:lk d.caps x with
   |none=>rw[A5Z e]
   |some y=>rw[A5Z e]
  rw[B4L (DD pP) S];rw[XZ e2 H1 p1 pP p1 pP];rw[A0O (EZ H1 p1 pP) e2];rw[GA p1 _ rfl (tX BRK l O)];rw[AI6 c (JM pP) O];rw[gD e3 H2 l pP l pP];generalize MV H2 l pP=H3 at c e3;rw[DQ (EWE (AE3 g) (AE3 t))];rw[EX (F13 CFO (AE3 t) (A0J J Q4 r Z B)) J I B W]
  .rw[F0T (CUH g) U.n5 D8D ap DTQ DTQ];cases e:lk d.prices x with
   |none=>rw[A5Z e]
   |some y=>rw[A5Z e]
  rw[HW s5 B.upd (DD pO) W];rw[XZ e5 J I pO I pO];generalize EZ J I pO=H5 at s5 e5;rw[GA I _ rfl (tX (EU e5) m R)];rw[HW s6 s5.upd (JM pO) R];rw[gD e6 H5 m pO m pO];generalize MV H5 m pO=L at s6 e6;rw[EM];have a:=c.trans s6;refine⟨_,rfl,p,C,dx,_,_,rfl,AHG g,U.cl,U.n1,AEI,_,rfl,p,C,dx,_,_,rfl,AHG g,U.cl,U.n2,BUK,ar,j,rfl,A51 (AHG r1) u X⟩;rw[lB s7 L j X];rw[gD e7 L u j u j];generalize MV L u j=M at s7 e7;have F:=a.trans s7;refine AYH (AH F g) U.n3 D8B as _ rfl (A51 (AH F hs) z Y);rw[MO s8 M AW1 Y];rw[TL e8 M z AW1 z AW1];rw[AHB M z AW1 H8 s8 e8];refine IQ rfl _ rfl E44 (BK q hq);rw[AE s9 (GR H8 (o:=JM [AM tn,AM u,AM z,HQ,AM m]) hq) G (s8.trans s9)];have b:=s7.trans G;refine AK k ⟨q,tn,u,z,l,m,j,rfl,A0,AH b (AHG t),AH G e7,(r2.same (a.trans b)),AH s9 e8,AH b (AH s6 (DFZ e3 Dr.capsL)),AH b (DFZ e6 Dr.pricesL)⟩ (a.trans b)
inductive Stps:EC9 ES
 |nil {d:Dr}:A52 [] d
 |cons {d e d':Dr}{ws:AC}{L:ES}(h:ED0) (r:B77 L):EB3
def Stps.inv{d d':Dr}{ws:AC}(h:EB3):∃e,ED0/\B77 L:=by
 cases h with|cons h r=>exact FP h r
def Stps.app{d e d':Dr}{M:ES}(h:Stps d L e)(g:B77 M):A52 (L++M) d':=by
 induction h with
 |nil=>exact g
 |cons h _ a=>exact .cons h (a g)
structure Wl(ws:AC):Prop where
 ne:B17
 wl:BZ1
 no:FW ws (DL6/\10∉x.cps.toList)
 le:A4H DEP
def Wl.split{ws:AC}(h:ACW):C5O DAY ws:=a2a h.ne λa b=>(h.no a b).1
noncomputable def lnW(L:ES):AC:=AXN L.map
noncomputable def ptW(L:ES):Str:=vH lf lnW L
def b5o(h0:rZ)(h:C51 L):PySem.Txt.split (ptW L) lf=lnW L:=by
 refine KH (a2a (λz=>h0 (List.map_eq_nil_iff.mp z))) a b;rw[LU ws hw yK];exact AVH b0s λy c=>((h ws hw).no y c).2
def b3T(h:C51 L)(a:BXG):QH ptW L 10000000:=by
 have:=BDW 10 10000 (ys:=lnW L) λy b=>by
  rw[LU ws hw yK];exact(h ws hw).le
 rw[WD (BVA (HY lnW L) L.length)];rw[A0D (dZ (DXA _ 900 10001) AI)]
inductive spTkA(C:qE)(vs:AA)(H:Hp)(Q:VK)(y_3:XK):Prop
 |mk (p ar as ac ap l:qE) (L:ES) (d d':Dr) (_:B3U) (_:A11) (_:HJ l CW3) (_:l∉CNM) (_:C87) (_:A52 L d') (_:B40 d' BTX ABF):lL spTkA
def sc_take_all:DA ["draft","lines","number","line"] ["draft","lines"] a2d:={}
noncomputable abbrev c9T(p l:qE)(L:ES)(d':Dr)(C ar as ac ap:qE)(H:Hp)(i:Nat)(σ:L2.St)(H':Hp):Prop:=∃o2 o3 e,σ=[dJ,yP,o2,o3]/\B77 (L.drop i)/\AT6 e/\BTX
def b0b(F:XU "take_all" a2d "draft" "lines")(T:AV)(c:W0)(b:ELA):EXV:=by
 rw[BV sc_take_all G y I]
 .obtain⟨p,ar,as,ac,ap,l,L,d,d',rfl,_⟩:=h;rfl
 .obtain⟨p,ar,as,ac,ap,l,L,d,d',rfl,D,hL,hl5,hW,S,k⟩:=h;rw[lA J]
  rw[CD (A3 (B8W (ZB c1t T.b_enumerate MU) 2 sc_take_all.nd 3 sc_take_all.nd
 (A3 (B72 (a2x b c (aL I.mono b8U) EO (DG (gL a5Z 3 YC)))
 NT
 B4))))]
  refine⟨_,rfl,false,l,rfl,nD hL,?_⟩;refine BI b6d K K k false (a:=l) (xs:=(lnW L).map V.str) (c9T p l L d' C ar as ac ap H) ⟨_,_,d,rfl,S,D,xI⟩ (λi σ H' _ O=>by obtain⟨_,_,_,_,_,_,o⟩:=O;rw[A5P (AK o hl5 hL)]) ?_ ?_
  .rintro i x σ H1 q hx ⟨o2,o3,e,rfl,g,D1,off1⟩ hq;rw[AE s2 (GR H1 (o:=JM AXT) hq) t (D1.same s2)];have j:=off1.trans s2.off;rw[gD m H1 q AXT q AXT];rw[A6U (AG3 q AXT) t j m];rw[VQ (A3W q _ m _ SW x [])];rw[lnW,List.map_map,List.getElem?_map]at hx;rw[BE9 ws n hx];have hw:=XJ hW ws n;rw[MK u (List.getElem?_eq_some_iff.mp n)];rw[List.drop_eq_getElem_cons u]at g;generalize L[i]=ws at g hw;obtain⟨e',st,g⟩:=g.inv;obtain⟨⟨dx,tn,M,_⟩,_⟩:=id t;rw[DO ⟨_,rfl,p,dx,_,rfl,M,WQ c1Z,_,rfl,rfl,_,bk,rfl,rfl,AI,by show DEP+2<=_;rw[PD hw.le 0x6ef1cb4911f4afb0f65f78e9f17d6e J],BK N v⟩ (show C5O ((V.str ∘ Str.join bk) ws |> DF DAY) ws from hw.split)];rw[MO z H2 BE5 v];exact⟨p,ar,as,ac,ap,N,ws,e,e',rfl,st,hw.wl,t.same z,A0,λR B r=>DK (B5 ⟨_,_,e',rfl,g,B,IJ j.trans z.off r⟩)⟩
  .rintro σ H1 ⟨o2,o3,e,rfl,g,D1,off1⟩;rw[WX (BVA (A5W (HM lnW L)) L.length) List.drop_length g g];exact k _ D1 off1
inductive spRSy(vs:AA)(H:Hp)(Q:VK)(y_3:XK):Prop
 |mk (L:ES) (d:Dr) (_:QB E1X) (_:rZ) (_:C87) (_:BXG) (_:C7M L) (_:A7J) (_:F2W):JD spRSy
def sc_read_system:UZ ["text","draft"] "text" X5:={}
def a5D(F:SO "read_system" X5 "text")(T:AV)(U:cC)(g:W0)(l:EPY "Draft" A1O spDInit)(c:EXV)(a:E5N):ES2:=by
 rw[BV sc_read_system Z M G]
 rw[QW L d]
 .obtain⟨L,d,rfl,h0,hW,hll,S,hn7,k⟩:=h;rw[DJL]
  rw[CD (CQ 1 sc_read_system.nd (c4E l (D9L 4974806956) rfl)
 (ARE (KR c G.mono (A7N (a5Z K EO YC)))
 (GS (a4N a g (D9L 177658348) ZX))))]
  refine DW x dx I y z;rw[EPN J z.symm I]
  have n:LF CA1:=iJ xL y J;refine US x dx A0 (λar as ac ap H1 t u q r N kp=>rT);have s1:LQ:=CWP n (A4Y I);rw[EM];have D:=b3T hW hll;rw[DO ⟨_,rfl,_,rfl,rfl,_,lf,rfl,rfl,AI,AU 0xc72a5e709e217cace833656b1f6da5c6a2e4e hz D,A42 R⟩ (b5o h0 hW)];rw[MO W H1 CW3 j];have B:R∉BDX L5 x:=by
   obtain⟨⟨a0,a1,o1,o2⟩,⟨us,r1,r2⟩,hs,hc,hp,rs,cp⟩:=N;unfold L5;rw[AYC];rw[EB (AKB o1) (AKB r1) (AKB hs) (AKB hc) (AKB hp)]
  refine⟨x,ar,as,ac,ap,R,L,dr0,d,rfl,N.same W,A0,B,hW,S,DS X O m⟩;obtain⟨⟨p,a2,o4,_⟩,_⟩:=id O;have s4:LF X:=ID o (m b o (by
   unfold L5;rw[AYC];rw[EB (A4Y I) (B8R t) (B8R u) (B8R q) (B8R r)]) (AH W (JU e)))
  exact⟨_,rfl,x,p,_,rfl,o4,WQ c8i,x,ar,as,ac,ap,d,rfl,O,hn7,λv Y hv s5=>k v Y hv (s4.trans s5)⟩
#where
#where
section
variable {ns:AC}{xs:qI}
noncomputable def a6A(a:Int):ES:=AR5 BTT [[C6 a]]
noncomputable def L9(ns:AC)(xs:qI)(a:Int):ES:=AQY (λq=>AQV)++a6A a
noncomputable def a8m(ns:AC)(xs:qI)(s:Int):AC:=BND (D7 (L9 ns xs (-s))) (D7 (L9 ns kN s))
def b6V:∀(pre ns:AC) (xs:qI),A04->DD1 pre.length (tmP (pre++ns))=AQY λq=>AQV
 |pre,[],[],_=>rfl
 |pre,eO,IO,h=>by
  have a:=b6V (pre++[n]) ns xs yM;rw[List.append_assoc,List.length_append]at a;have a:DD1 (pre.length+1) (tmP (pre++eO))=_:=a;rw[DX0 List.zip_cons_cons List.filter_cons];by_cases e:BTU
  .rw[B4Q,B4Q,List.map_cons,List.map_cons,a];congr 1;rw[GO tmP (LK (by rw[List.length_append,List.length_cons];show ¬pre.length=_;exact lq 0x4490056c45546))];dsimp only;rw[List.getD_eq_getElem?_getD,AIN,Nat.sub_self];rfl
  .rw[AIC,AIC,a]
def b1o(h:A04)(a:Int):iI=BC4 (xs++[a]):=by
 unfold L9 a0i psW;rw[List.zipIdx_append,List.filter_append,List.map_append,<-b6V [] ns xs h];congr 1;rw[eW a6A List.zipIdx_cons List.zipIdx_nil List.filter_cons];by_cases e:BTT
 .rw[NL,B4Q];show _=[tmP ns (a,0+xs.length)];rw[tmP,iO (by rw[BB h Nat.zero_add _])]
 .rw[IX,AIC];rfl
def c6x(h:A04)(s:Int):a8m ns xs s=a5t ns BYW:=by
 unfold a8m a5t;rw[b1o h,aG b1o List.length_map h,List.map_append,List.map_cons,Int.neg_neg];rfl
noncomputable def O9(ns:AC)(cs:AS):YG:=(ns.zip cs).filterMap λq=>(DB).map λx=>(ED,x)
noncomputable def a0u(w:Str)(ns:AC)(cs:AS):ES:=CVO (O9 ns cs).map w
def a3x(n:Str)(ns:AC)(c:FF)(cs:AS):O9 eO sO=(match c with|iS=>(n,x)::AL7|none=>AL7):=by
 unfold O9;rw[List.zip_cons_cons,List.filterMap_cons];rw[BPT]
def G9:EQJ (((O9 ns cs).map (·.1)).Sublist ns)
 |[],_=>D6W
 |eO,[]=>D6W
 |eO,sO=>by
  rw[a3x];cases c with
  |none=>exact ARO cons n
  |some x=>exact ARO cons_cons n
def a7m{cs:AS}(h:BHZ cs):∀q∈AL7,0<=DB/\DB<=topN:=λq c=>by
 rw[BX a b e List.mem_filterMap.mp c];rw[LU x d D36];exact h x (by rw[<-d];exact(List.of_mem_zip b).2)
def b4f(n m:Str)(x:Int)(c:YG):lk ((n,x)::c) m=if n=m then iS else lk c m:=by
 rw[GO lk List.find?_cons];rw[GD n m]
 .rw[NL,A75];rfl
 .rw[IX,AHS]
def c4l{c:YG}{n:Str}(h:C2E):lk c n=none:=by
 rw[ERX];cases e:DRD with
 |none=>rfl
 |some y=>rw[C6L]
def a8u:∀(ns:AC) (cs:AS),ns.Nodup->AH4 cs.length->ns.map (lk AL7)=cs
 |[],[],_,_=>rfl
 |eO,sO,h,d=>by
  rw[B4O];have b:=a8u ns cs h2 B03;have a:n∉(O9 ns cs).map (·.1):=AVM h1 CTH;rw[AVD a3x];cases c with
  |none=>rw[AD (BD0 (lk _ n) (c4l a)) (mB b)]
  |some x =>
   dsimp only;rw[b4f,EJ];refine mB (Eq.trans (List.map_congr_left λm e=>?_) b);rw[b4f,AII (aG h1 z e)]
def a9z:F2C ((d.caps.map (·.1)++qs.map (·.1))) d.caps.length A3B (AD8 caps (d.caps++qs))
 |[],d,_,_,_=>DG6
 |A8I,d,h,b,a=>by
  rw[F3S a9z (AD8 caps (E8W d.caps)) .cap]
def a4X:F2C ((d.prices.map (·.1)++qs.map (·.1))) d.prices.length AE7 (BZ2 (d.prices++qs))
 |[],d,_,_,_=>DG6
 |A8I,d,h,b,a=>by
  rw[F3S a4X (BZ2 (E8W d.prices)) .price]
structure SysOk(ns:AC)(rows:LLI)(sides:qI)(caps:AS)(prices:qI):Prop where
 nm:QV
 n1:BT2
 n7:lD
 rl:rows.length<=6
 rw:jA rows (DTF ns.length)
 sl:DWF
 sb:DGR
 cl:AH4 caps.length
 cb:BHZ caps
 pl:AH4 prices.length
 pb:FW prices A2Z
noncomputable def prO(p:Int):FF:=AFE (p > 0) p none
noncomputable def a4j(ns:AC)(rows:LLI)(sides:qI)(caps:AS)(prices:qI):ES :=
 (AAC)::(DUP++(a0u A3B ns caps++CZL))
def a9y:∀(rows:LLI) (sides:qI) (d:Dr),C2T->B12->A7J->DWF->BWG (DTF d.names.length)->DGR->C4X->d.rows.length+rows.length<=6->A52 (CWE (a8m d.names)) (CP3 (d.rows++rows) (d.sides++sides))
 |[],[],d,_,_,_,_,_,_,_,_=>D7M List.append_nil .nil
 |r::rows,s::sides,d,f,h1,c,i,g,e,hs,a=>by
  rw[kS h k (g r List.mem_cons_self) l m (e s List.mem_cons_self)];rw[CS9];have:=a9y rows sides (CUY (d.rows++[r]) s) f h1 c (BL i) (C6C g) (C6C e) (CUP hs) (by rw[AFD];show _+1+_<=_;rw[DN 0x64d2d73de4bbb3e5d6 a]);rw[List.append_assoc,List.append_assoc]at this;rw[List.zipWith_cons_cons,c6x h];refine .cons (.sum f h1 c h (BK x j) (bY 0x46579479a250627e5d6) hs) this;rw[BW (List.mem_append.mp j)]
  rw[sG k]
  .rw[SN];rw[BN3]
def c6r{rows:LLI}{sides:qI}{caps:AS}{prices:qI}(h:B4F):∃d,C7M BLQ/\d.names=ns/\d.rows=rows/\d.sides=sides/\d.capsL=caps/\d.pricesL=prices:=by
 refine⟨CXD BZ8 AYE,?_,rfl,rfl,rfl,a8u ns caps h.nm.nd h.cl,?_⟩
 .rw[JZ .cons (.of rfl h.nm h.n1 h.n7)];refine(a9y rows sides {dr0 with names:=ns} h.nm h.n1 h.n7 h.sl h.rw h.sb rfl (by show 0+_<=6;rw[QE h.rl])).app ?_;have a:∀cs:AS,HK (0+CX1):=λcs=>by
   rw[EDZ]
  have f:∀cs:AS,CB2->∀q∈AL7,CXK (ED∈ns):=λcs c q g=>⟨EEB g,a7m c q g⟩;have b:C2J:=λx i=>by
   rw[CD8 b i]
   .rw[CP];exact h.pb _ b
   .rw[CP]
  refine(F3D a9z BZ8 [] (f caps h.cb) caps).app ?_;exact F3D a4X AYE BZ8 (f _ b) _
 .unfold Dr.pricesL;have:=a8u ns (prices.map prO) h.nm.nd (OQ h.pl);show ns.map (λn=>DUZ)=prices;rw[show(ns.map λn=>DUZ)=FQ (ns.map (lk AYE)) (λo=>o.getD 0) by rw[BF7],this,List.map_map];refine Eq.trans (KH List.map_congr_left p b) (List.map_id _);show(prO p).getD 0=p;unfold prO;obtain⟨h1,_⟩:=h.pb p b;split
  .rfl
  .show MX=p;omega
def b3n{α β:Type}{K:qF}{src:NM}{σ caps:L2.St}{Q:VK}{k1 k2:Bool}{a b:qE}(ca:A02)(g:β->V){xs:CL}{ys:A6V}{H:Hp}{w:TT}{te:TE}(t:AD9 α β)(f:B6G V)(A:NS)
  (c:F11 g)
  (n:AJR) (r:∀x y H1 (m:VZ),YS->B3O->LQ->m (t x y) H1->w (C91 g) H1 m) (o:B7R m (YS->B3O->AW (t x y)->LQ->A5F (DNW m)->xP (C91 g) m))
  (hd:BHA (EDA xs.zip ys)) :
  CompW src CKH w te σ Q pH H:=by
 rw[VT B]
 rw[BIU ADP (ys.map g) A67 (zs=EDA E8Q i) (by rw[EML])]
 .rw[B98 k a0c d l a0c];rw[AYJ DL1 DL1 AUP [g d] (g d) n (BIB x' g d)];have u:E8Q AO=(xs.zip ys).take i++[(x',d)]:=by
   rw[List.take_add_one];congr 1;rw[kA List.getElem?_zip_eq_some (z:=(x',d)) ⟨k,l⟩];rfl
  rw[HS AGV]
  .match j,e with
   |0,e=>rw[CP]
   |1,e=>rw[CP]
   |j+2,e=>exact e
  .refine CDZ r s' ?_;rw[u,List.filter_append,List.map_append];cases e:t x' d with
   |true =>
    refine CDZ o e s' λH2 s2=>D72;rw[List.filter_cons,NL];rfl
   |false =>
    rw[HS s'];rw[List.filter_cons,LK (by rw[ZE e])];simp
 .rw[vG zs];rw[AVC List.length_map (BQN (by rw[BFM List.length_zip]))];exact hd H' p s hp
def W8(x:Str):Str.empty++x=x:=Str.ext' (by rw[Str.cps_append];show #[]++x.cps=x.cps;simp)
noncomputable def Wg(x:Str):Prop:=DIM/\A4I x.cps.toList EJQ
def b6R{ws:AC}(h0:B17)(b:ws.length<=400)(h:FW ws AP3):ACW where
 ne:=h0
 wl:=AF
 no:=λx a=>⟨ECY,ECY⟩
 le:=by
  have:=AMP ws λy d=>(h y d).1;rw[A0D (dZ (AMX b) AI)]
def isNm.wg{n:Str}(h:BSK):Wg n:=⟨bM YD,λc a=>by have:=wI c a;omega⟩
def a6j{x:Int}(h1:cD):Wg (C6 x):=⟨by
 have:DEG 13:=BNI (by unfold topN at h1;omega);show DEG 20;omega,λc a=>bM DTG⟩
def wg_lit:A0K "of"/\A0K "sum"/\A0K "cap"/\A0K "price"/\A0K "+"/\A0K "="/\A0K "0":=by
 rw[ETH DIM EJQ AP3 ⟨h1,λc a=>BPC (List.all_eq_true.mp h2 c a)⟩];refine⟨?_,?_,?_,?_,?_,?_,?_⟩<;>exact EGY
def Tm.wg{ns t:AC}{j:Nat}{x:Int}(c:QV)(h:BIK t)(h1:cD):AH2:=by
 rw[CAI h b]
 .have hw:=(c.nm _ D3N).wg;rw[bW tmW]
  .rw[AY (λy a=>AG A4P hw) (BV8 2)]
  .rw[FT BWV BO];rw[lV BBQ rfl]
   .exact a6j h1
   .rw[AD SN hw]
 .rw[AY (λy a=>IU A4P a6j h1) (BV8 2)]
def b3C{a:Int}(f:QV)(b:A04)(e:zS)(d:B4G):dY iI ((AH2)/\IE t):=λt c=>by
 rw[b1o b]at c;obtain⟨j,x,_,g,q⟩:=a7S (BUM b) c;rw[FT (q.wg f ?_) q.ne];rw[BN9]
 .exact(e x z).2
 .rw[AD SN d]
def b3V:∀{ts:ES},AEV AH2->AQQ B2X/\HY M8 ts<=3*ts.length
 |[],_=>⟨λx a=>AFM a,BO⟩
 |[t],h=>⟨(lK).1,by have:=(lK).2;show t.length<=3*1;omega⟩
 |A0C,h=>by
  obtain⟨c,b⟩:=EVU b3V;rw[OU d lK];rw[HS (jI x)]
  .rw[ABJ (A5I (show x∈y0 from a))]
   rw[sG d]
   .rw[BW pM]
    .rw[AD z (dR wg_lit.2.2)]
    rw[sG c]
  .show HP y0<=_;rw[C1I List.length_append];rw[List.length_cons]at b;rw[DJ5 0x69c04f958f4d32f233766dc8cb6267 b e]
def b4t{ts:ES}(h:dY ts AH2):AQQ (D7 ts)/\QH D7 ts (3*ts.length+1)/\(C08->IE (D7 ts)):=by
 unfold D7;rw[GD ts []]
 .rw[NL];rw[BA (λx b=>AG (List.mem_singleton.mp b) (ATC wg_lit).2.2) AJ wT]
 .rw[IX];rw[NG (b3V h)];rw[BA h1 (rP 0x3c103f9b597c28666) (λa=>a9W e a)]
def a9w(ns:AC)(xs:qI)(a:Int):vU L9 ns xs a<=AZA:=by
 unfold L9 a6A;rw[BJ3 List.length_append];have h1:=List.length_filter_le EFL (xs.zip ns);rw[F07]
 split
 .rw[AD List.length_singleton (lq 88495846044719319 h1 h2)]
 .rw[AD List.length_nil (lq 0x3c2c967ac6ccad8d7 h1 h2)]
section
variable {P:qG}{w:World}{K:qF}{mg:BJ}{base:Heap}
inductive spShT(vs:AA)(H:Hp)(Q:VK)(y_3:XK):Prop
 |mk (x:Int) (n:Str) (_:QA BR1 (.str n)) (_:0<x) (_:cD) (_:DIN) (_:A4X (TJ B6J)):JD spShT
def a8d:lJ "many" "name" "many" "name" a0S:={}
def a8q(F:XU "show_term" a0S "many" "name")(T:AV):ES9:=by
 rw[BV a8d i b m]
 rw[QW x n]
 .rw[VN x n rfl h0 h1 hn k];rw[KY a]
  rw[EM7 (AJA G8) c4F EIU]
  .have e:x=1:=DA3 V.int.inj;rw[tmW,NL]at k;exact DK k
  .rw[dL e (x=1) C8L];rw[tmW,IX]at k;have j:=(a6j h1).1;have l:x=EA x.toNat:=by omega
   rw[cA (DP ⟨x.toNat,BPH l,CB7 x.toNat h1,?_⟩)];rw[W8];have c:DGF<=20:=j;rw[GA (~~~b9V a c) _ rfl ?_];rw[EPB d AGG c]
   rw[ER g (ATK AGG n<=41) C3 (c0e hn d)]
   rw[EDD AGG d ⟨n,rfl,~~~b2n hn a,EV7,EV7,?_⟩];exact k
inductive spShTs(K:qF)(vs:AA)(H:Hp)(Q:VK)(y_3:XK):Prop
 |mk (nt np:qE) (k:Bool) (ns:AC) (xs:qI) (a:Int) (_:ENI) (_:A0I) (_:(∀H',BP->CN6 k np)) (_:QV) (_:lD) (_:A04) (_:zS) (_:B4G) (_:AJM DI4):ALX spShTs
def sc_show_terms:DA ["names","numbers","alone","terms"] BNQ a0l:={}
def b5U{t:AC}(h:FW t AP3)(a:CQD 2):A4D t<=42:=by
 have:=AMP t λy b=>(h y b).1;rw[A0D (AMX a)]
noncomputable abbrev c9S(nt:qE)(np:qE)(a:Int)(p:qE)(ns:AC)(xs:qI)(H:Hp)(σ:L2.St)(H':Hp):Prop:=σ=[D47,FB np,DZ a,dJ]/\DFL CYY/\BP
def a6M(F:HL "show_terms" a0l BNQ)(T:AV)(d:ES9):ETI:=by
 rw[BV sc_show_terms W I Z]
 rw[tD nt np k ns xs a]
 .obtain⟨nt,np,k,ns,xs,a,rfl,hn,m,hnm,hn7,hl,l,ha,kk⟩:=h;rw[KY R]
  rw[CD (A0Q (yW 3 sc_show_terms.nd (N:=["many","name"]) (src:=[none,none]) (APR zL)
 (wB CV3 CV3)) (PP (a2w (D4 a1m 0 A6))) (KR d Z.mono jC)
 (A1 (DRW 2
 (C7S 3 (B6T OV))
 B4)
 (GS (a6b (a1m BKC A6) (A6G jT) B1))))]
  rw[EYL (b3C hnm hl l ha) J g g];refine AQC k true np nt (EJR m) (KS hn);rw[EX (SJ b3n [] V.int V.str (xs:=xs) (ys:=ns) (λx _=>CF1 x) (λx n=>AAD B6J) (AU 0x293bb70cc9ff404307458766 hn7 hl) (BEC (m H' s) SqT.of hn) rfl (λx y H1 U _ _ s1 q=>CKM q) (λx y H1 U C G g s1 q=>VA _ rfl x y rfl (of_decide_eq_true g) (l x C).2 ((hnm.nm y G).wg).1 bR)) H1 p s1 O];rw[EM];have X:(AQY λq=>AAD AQV)=A9P CI9 V.str:=by simp only[List.map_map];rfl
  rw[X];rw[B4L AWT O];have e2:KB H1 p AWT p AWT:=A0;have f2:RE:=s1.free O;rw[A0O (aU p AWT) e2];rw[E7L (c9S nt np a p ns xs H)]
  case fin =>
   rintro σ H3 ⟨rfl,L,S⟩;rw[F4G p (XS L)]
   .have e:=yI;have j:IE iI:=λz=>by rw[z]at e;rw[EV e AI]
    have u:AIL DKH 42:=λy D=>by rw[IV t g D];exact b5U (J t g).1 (J t g).2
    have M:pX wplus DKH DI4:=by
     rw[a7t λt g=>(tm t g).2,D7,BC j]
    have v:DZW:=by
     obtain⟨w1,w2,_⟩:=b4t J;have:=AMP ADR λy D=>(w1 y D).1;rw[A0D (dZ (AMX (EK3 hl w2)) AI)]
    refine⟨rfl,_,rfl,wplus,p,_,42,rfl,rfl,D3Z,u,?_,AG M (b2x R v),?_⟩
    .rw[ATZ (A2S (wplus.length=3))]
    .rw[AD M DQA]
   .have j:iI=[]:=by
     cases Y:iI with
     |nil=>rfl
     |cons t r=>rw[Y]at e;exact absurd (decide_eq_true AJ) e
    have:=DQA;rw[j,D7,EJ]at this;rw[UI]
  refine B64
  .have e:0<a:=yI;have m:a=EA a.toNat:=by omega
   refine⟨_,rfl,VC e2,_,rfl,a.toNat,BPH m,CB7 a.toNat ha,p,_,_,rfl,rfl,e2,?_,?_⟩
   .have:=List.length_filter_le EFL (xs.zip ns);rw[F07]
    simp only[List.length_map];exact lq 0x2d1833c6c6e84b32d154dc2b03a8822f0ef168769 hn7 hl R this h2
   .refine VF (cO ?_ (DS b o l))
    .rw[EFR A0 L9 a6A NL]
    .rw[AD (aO l f2) (XF l)]
  .rw[dL e (0<a) AJ9];refine VF (cO ?_ s2);rw[e2,L9,a6A,IX,List.append_nil]
inductive spShR(K:qF)(vs:AA)(H:Hp)(Q:VK)(y_3:XK):Prop
 |mk (nt np:qE) (ns:AC) (xs:qI) (a:Int) (_:ENI) (_:A0I) (_:HJ np bI) (_:QV) (_:lD) (_:A04) (_:zS) (_ : -topN<=a) (_:B4G) (_:AJM (TJ (BAJ a8m))):ALX spShR
def sc_show_row:DA ["names","row","side","left","right"] BNO a2e:={}
def a2Z{a:Int}(d:QV)(hn7:lD)(b:A04)(i:zS)(h:B4G):DZW/\IE ADR/\AQQ ADR/\QH D7 iI 30:=by
 rw[EYL (b3C d b i h) k e e];rw[BX f g l b4t k];have:=AMP ADR λy j=>(f y j).1;rw[EF (BJJ Nat.le_trans this (AMX (EK3 b g)) AI) (l λt e=>(tm t e).2) f (~~~lq 0xcef898c40917ceaa95bdbe4c3daf4c14d658182a8768 hn7 b tl g)]
def b7u{l r:AC}(a:IE l)(b:IE r):CNE (TJ l)++BSR ++ TJ r=TJ EBJ:=by
 rw[BGD (EBJ=[wd "sum"]++(l++([wd "="]++r))),Z9 AJ AJ,Z9 a AJ,Z9 AJ b];rw[C9A e1 "sum " DI7]
 rw[C9A e2 " = " (bk++(DI8))]
 rw[A6E];show _=DI7++(TJ l++bk++(DI8++TJ r));rw[BQ0]
def b0c(F:HL "show_row" a2e BNO)(T:AV)(b:ETI):ETJ:=by
 rw[BV sc_show_row z k r]
 rw[ART nt np ns xs a]
 .obtain⟨nt,np,ns,xs,a,rfl,hn,hx,hnm,hn7,hl,hb,h1,h2,kk⟩:=h;rw[KY c]
  rw[CD (CQ 3 sc_show_row.nd (E4X (A7N (a0b (jv 2))))
 (CQ 4 sc_show_row.nd (E4X (jaC (DCA BHG
 BWO gP (PP (a0b (jv 0)))) OV))
 (SG c4F (AUR EKP))))]
  have e:=hb.neg;have d : -a<=topN:=D10
  refine⟨_,rfl,_,rfl,_,rfl,_,rfl,nt,np,true,ns,xs,-a,rfl,hn,bA hx,hnm,hn7,hl,hb,d,C5M⟩;rw[DQ (A6L np rfl (KS D6M) ?_)];rw[EX (xX S5 nG xs (λx=>CIY) A67 qW (bA D6M) rfl (A0J H2 L t j s2)) H2 p2 s2 g]
  .rw[xQ j t t];exact C43 bR
  rw[EEN l BLL g];rw[wH m (KB H2 p2 (DD BLL) p2 (UC (FQ kN))) A0 List.map_map]
  generalize AJT BLL=I at l m;rw[VQ ⟨_,rfl,nt,p2,false,ns,kN,a,rfl,AHI l,AIW m,hnm,hn7,D8L,e,h2,BK J G⟩];obtain⟨u,C,_⟩:=a2Z (a := -a) hnm hn7 hl hb d;obtain⟨y,D,_⟩:=BI a2Z xs kN a a hnm hn7 D8L e h2;have B:=b7u C D;rw[E51 g1 (HP C9T) 1004 "sum " 4 0x6df3158588d1027fceac80e5 u]
  rw[E51 n (uT C9T BSR) 1007 " = " 3 0x6f08c721a9682a4cc26b80e5 g1]
  rw[ER p (HP (C9T++BSR ++ vH bk D7 (L9 ns kN a))<=2007) C3 (lq 0x153beef6ae3b53fa343b242163a1080e6 y n)]
  rw[A79];rw[W8];rw[GA (wC (BZ 4)) _ rfl (EL ⟨_,rfl,~~~b2x c u,yQ 0x14be6a7d0c3d34ee3803aae0ede g1,_,rfl,yQ 0x14be6b1bbadf91c11d43aae0ede n,_,rfl,EL (IQ rfl (~~~b2x c y) E58 E58 ?_)⟩)];rw[AD B (kk _ (l.trans G))]
def b0i(w:Str):EQJ ((A1Z (mM ns.zip cs) (DB).isSome λq=>AAD [w,ED,BVP (DB).getD])=A9P E65 V.str)
 |[],_=>E5Q
 |eO,[]=>E5Q
 |eO,sO=>by
  have a:=b0i w ns cs;unfold a0u at a⊢;rw[List.zip_cons_cons,List.filter_cons,a3x];cases c with
  |none=>exact a
  |some x =>
   rw[CO (pV (AW (n,iS).snd.isSome)),List.map_cons,a];rfl
inductive spShN(K:qF)(vs:AA)(H:Hp)(Q:VK)(y_3:XK):Prop
 |mk (w:Str) (nt np:qE) (k:Bool) (ns:AC) (cs:AS) (_:vs=[DB4,AS3,AM np]) (_:A0I) (_:(∀H',BP->uF k H' np cs.map ovI)) (_:w.length<=20) (_:lD) (_:(DX n ns DIN)) (_:CB2) (_:∀p H',DFL E65->RE->BP->vY):ALX spShN
def a4m:DA AXX AXX T4:={}
def a4s(F:HL "show_numbers" T4 AXX)(T:AV):ELM:=by
 rw[BV a4m D j J]
 rw[tD w nt np k ns cs]
 .obtain⟨w1,nt,np,k,ns,cs,rfl,hn,hx,hw,hn7,hnl,hb,kk⟩:=h;rw[KY a]
  rw[GF (C9Z "name" "number" "word" ZW B1P
 (wB CWU CWU) (PP (a2w (D4 b4j 1 J7))) (PP (c4F (D4 R7 2 (AUR EIU)))))]
  refine AQC true k nt np (KS hn) (EJR hx);rw[EX (SJ b3n [ACK w1] V.str ovI (xs:=ns) (ys:=cs) (EH o o.isSome) (λn o=>AAD [w1,n,BVP o.getD]) (BJC hn7) (λH' s=>⟨FU (FX hn),hx H' s⟩) rfl (λx y H1 C _ _ s1 q=>?_) (λx y H1 C c d I s1 q=>?_)) H1 p s1 l]
  .refine eC;cases y with
   |none=>exact q
   |some z=>exact q
  .rw[MK z (Option.isSome_iff_exists.mp I)];obtain⟨L,B⟩:=hb z d;have g:z=EA z.toNat:=by omega
   rw[AE G (a6j B).1 b (hnl x c)];have v:=bR;rw[EPB m w1 hw]
   rw[ER r (HP xY<=41) C3 (c0e b m)]
   have t:AU0 xY<=42:=by rw[C3,AF0];rw[DN 0x3b3b384131476e8e5 r]
   have u:ATK xY BL8<=62:=by rw[C3];show _+HY C6 z<=_;rw[DL 0x3b1b9d93b0080a8bb898226 G t]
   rw[cA (EL (UU DSF ?_))];rw[W8];rw[GA DSF _ rfl ?_];rw[EDD w1 m ⟨_,rfl,~~~b9V a b,AST (HP xY) b2p r,_,rfl,show AU0 xY<=_ by rw[DL 0x6c602bfe710c15887aae0ede a t],_,rfl,DP ⟨z.toNat,?_,CB7 z.toNat B,EV6,EV6,?_⟩⟩]
   .show V.int z=_;rw[<-g]
   .have e:pX bk [w1,x,BVP (some z).getD] (xY++bk++BL8):=by
     show w1++bk++(x++bk++C6 z)=_;simp only[Z4];rfl
    rw[e]at v;exact v
  .rw[AD b0i (kk p _ A0 (s1.free l) (s1.upd l))]
inductive spShS(vs:AA)(H:Hp)(Q:VK)(y_3:XK):Prop
 |mk (v:V) (ns:AC) (rows:LLI) (sides:qI) (caps:AS) (prices:qI) (_:QB v) (_:CD0) (_:B4F) (_:AJM (CVA ptW)):JD spShS
def sc_show_system:UZ ["system","names","lines"] "system" X4:={}
def a7b{rows:LLI}{sides:qI}{caps:AS}{prices:qI}(h:B4F):DX ws BLQ ACW/\D5N<=30:=by
 rw[EVR k (by
  rw[EDZ])]
 have b:∀(j:Str) (cs:AS),Wg j->CB2->C51 (a0u j ns cs):=λj cs hw y ws d=>by
  rw[IV q l d];refine b6R AJ (aI (3<=400)) λx c=>?_;rw[uW c];rcases c with rfl|rfl|rfl
  .exact hw
  .exact(h.nm.nm _ (EEB l)).wg
  .exact a6j (a7m y q l).2
 have g:C2J:=λx c=>by
  rw[CD8 g c]
  .rw[CP];exact h.pb _ g
  .rw[CP]
 rw[HS (AHN ws)]
 .rw[lV (List.mem_cons.mp d) rfl]
  .rw[EFF AJ (by rw[List.length_cons];have:=h.n7;rw[QN 85331137448418149])]
   .exact wg_lit.1
   .exact(h.nm.nm x z).wg
  .rw[C3I]
   .rw[AF1 D5A];rw[List.getElem?_zipWith]at hi;cases e1:rows[i]? with
    |none=>rw[AX e1 hi hi]
    |some r =>
     cases e2:sides[i]? with
     |none=>rw[EP7]
     |some sd =>
      rw[EP7];rw[kS m n (XJ h.rw r e1) A t (XJ h.sb sd e2)];have f:=n.neg;obtain⟨_,_,o,s⟩:=a2Z (a := -sd) h.nm h.n7 m n D10;obtain⟨_,_,u,v⟩:=BI a2Z xs (CFI r.map) a sd h.nm h.n7 (OQ m) f t;rw[EFF (by unfold a8m;simp) (by rw[eW a8m List.length_cons List.length_append List.length_cons];rw[DL 0x22e45c8fd03ea84f4a6a31aaf4e6 s v])]
      .exact wg_lit.2.1
      .rw[C3I]
       rw[sG o]
       .rw[BZY]
        .exact BFD wg_lit
        rw[sG u]
   .rw[C3I]
    .exact b _ _ (dR wg_lit) h.cb ws z
    .exact b _ _ (aE wg_lit) g ws z
 .unfold a4j a0u;rw[List.length_cons,List.length_append,List.length_append,List.length_map,List.length_map,List.length_zipWith];rw[AE h1 (k caps) h2 (DXX k)];have w:=h.rl;rw[EHW];exact lq 0x5f443b5fad4abdb744a15792240111db3a768 h1 h2 w
def c3V(h:D6S):KO "of " ++ TJ ns=TJ AAC:=by
 rw[A2S (AAC=[wd "of"]++ns),Z9 AJ h];rw[C9A e1 "of " (AUQ "of")]
 rw[e1];rfl
def a5C(F:SO "show_system" X4 "system")(T:AV)(g:ETJ)(d:ELM):ENA:=by
 rw[BV sc_show_system b0 a8 hr]
 rw[tD v ns rows sides caps prices]
 .obtain⟨v,ns,rows,sides,caps,prices,rfl,hS,hO,kk⟩:=h;rw[DJL]
  obtain⟨a,n,r,sd,c,pr,us,rfl,I,hn,O,hI,R,a0,L⟩:=hS.ex;have h0:D6S:=λz=>by rw[MR hO.n1 z];rw[EV this AI]
  have hn7:=hO.n7;have b3:A4D ns<=147:=by
   have:=AMP ns λy l=>COY;rw[A0D (AMX hn7)]
  rw[CD (B6Q 1 sc_show_system.nd A90
 (kI 2 sc_show_system.nd E4 (gO K5 B1 (c1r K B1 MU))
 (ARE (gL a0a 2 (WO (C9Z "row" "side" "names" uI (xG A90 A90)
 (wB CXG CXG)) (KR g hr.mono (EG 2 jC))))
 (ETP (A7N A90)
 (ETP (WN (WO (oF "price" (E1 K A90)
 (eD "price")) (a6b (AJA a1m) EO J7)))
 (GS (A6G OV)))))))]
  rw[VQ (C9S a _ (FU I))];rw[DO ⟨rfl,_,rfl,bk,n,ns,20,rfl,rfl,FU hn,C6N,XM AF0,AF,_,_,rfl,rfl,wC (3+_<=_),C3Y,vT hp⟩ (c3V h0)];rw[EM];have fp:RE:=hp;rw[CBD A2G hp p A2G p A2G];rw[A8T (RD p A2G) e1];refine⟨_,rfl,VC e1,_,rfl,a,_,1,_,rfl,rfl,D4H,rfl,_,rfl,a,_,2,_,rfl,rfl,D4H,rfl,true,true,r,sd,rfl,(KS (JU O)),(KS BTC),?_⟩;have a4:=hO.rl;rw[JZ (BI V3 K K k1 true (k2:=true) (a:=r) (b:=sd) (xs:=us) (zs:=cN sides.map) (by rw[PZ GE]) (RJ zs (AP2 H'/\zs=A9P (HM (ATD CS7 rows sides take) i) V.str)) ⟨Same.refl H1,AJ⟩
   (ARX zs ⟨zZ (JU O),zZ BTC,by rw[E8I];exact uL⟩)) ?_]
  .rintro i x z zs H' q hx l ⟨s',rfl⟩ hq;obtain⟨U,t,a7⟩:=hI.2 i x hx;rw[mD sv S a0c l];have s2:AP2 (MV H' q [x,DI sv]):=s'.upd hq;have W:=s1.trans s2;rw[GV b Z a7];rw[kS r1 r2 (XJ hO.rw U t) b1 b2 (XJ hO.sb sv S)];refine⟨q,_,rfl,FU A0,rfl,_,_,rfl,_,[],rfl,rfl,AGV,?_⟩
   .match j,e with
    |0,e=>rw[CP]
    |1,e=>rw[CP]
    |j+2,e=>exact e
   .refine⟨_,rfl,_,rfl,_,rfl,n,b,ns,U,sv,rfl,AHI W,AH W Z,hO.nm,hn7,r1,r2,b1,b2,λH3 u=>HR (s2.trans u)⟩;rw[EFR List.take_add_one List.getElem?_zipWith t S]
  rintro zs H' ⟨s',rfl⟩ q hq;rw[AFG (BQN (by rw[List.length_zipWith,GE];omega))];generalize G:DUP=k;have m:k.length<=6:=by rw[<-G,List.length_zipWith];rw[EHW];rw[DN 0x111f82cfedcce25a6 a4]
  rw[HW s2 s'.upd AWS hq];rw[TL e2 H' q AWS q AWS];have C:=AJ8;have qp:q≠p:=A5 (kG e1) hq |>.symm;rw[A6U (upd H' q AWS) s2 e2 C];rw[EVR hk (by
   rw[AG1 CTI];rw[UN 85026750973216614 hn7])]
  refine t7 p q C e2 (by show 1+_<=_;rw[ATZ List.length_map]) ?_;have up:∀{Hx:Hp}{o:HO},LF Hx->LF (upd Hx p o):=λsx b o Z=>AG (aO Z fp) (AH sx Z)
  have u:LF (iW p B68):=up (s1.trans s2);rw[XZ Y H2 p B68 p B68];generalize iW p B68=H3 at u Y;refine⟨_,rfl,VC Y,_,rfl,_,rfl,a,_,3,_,rfl,rfl,nB u I,rfl,A3B,n,c,true,ns,caps,rfl,AHI u,bA (AH u a0),AI,hn7,C6N,hO.cb,DW p4 H4 e4 f4 s4⟩;have J:=hk caps;have b4:p≠p4:=A5 Y f4;refine t7 p p4 (AHH Y) e4 (by rw[EG2];exact lq 0x4109f6d67e8d99c3f358b3e48d0dc6a2e4f hz m J) ?_;have X:LF E3Y:=up (u.trans s4);rw[XZ e5 H4 p AV7 p AV7];generalize E3Y=H5 at X e5;refine⟨_,rfl,VC e5,_,rfl,_,rfl,a,_,4,_,rfl,rfl,nB X I,rfl,pr,rfl,KS DQH,?_⟩;rw[EX (xX S5 (cN prices.map) prices (λx=>CH9) (by rw[AYU];rw[QE hO.pl]) qW (bA DQH) rfl (A0J H6 Q6 hv a6 s6)) H6 p6 s6 M]
  .rw[xQ a6 hv hv];have q0:=bR;refine B64
   .rw[prO,BEG of_decide_eq_true]at q0;exact DK q0
   .rw[prO,AII AJ9]at q0;exact q0
  have s7:=X.trans (s6.upd (o:=DD AUT) M);rw[wH e7 (KB H6 p6 (DD AUT) p6 (cL (HM prices.map prO) ovI)) A0 List.map_map]
  have D:=AFO (s6.upd (o:=DD AUT) M) e5;generalize EZ H6 p6 AUT=H7 at s7 e7 D;have a3:C2J:=wQ (by
   rw[CD8 hp hx]
   .rw[CP];exact hO.pb _ hp
   .rw[CP])
  refine⟨AE7,n,p6,false,ns,CNQ,rfl,AHI s7,AIW e7,AI,hn7,C6N,a3,DW p8 H8 e8 f8 s8⟩;have a1:=DXX hk;refine t7 p p8 (BQI D) e8 (by rw[EG2];exact lq 0x74c1d4e39ead8a829463bff5e493bf54d0dc6a2e50 hz m J a1) ?_;have s9:LF (EZ H8 p DWK):=up (s7.trans s8);rw[hX hw a5 a7b hO];have a9:=b3T hw (~~~b9A a5);have a2:DWK=FQ (lnW (CPV prices)) V.str:=by
   unfold lnW a4j;rw[G];simp only[List.map_cons,List.map_append,List.append_assoc,List.singleton_append,List.cons_append,List.nil_append]
  rw[a2]at s9⊢;refine⟨rfl,_,rfl,lf,p,DU8,10000,rfl,rfl,mJ,BK y l,?_,by show HY ptW _<=_;omega,kk _ s9⟩
  .rw[IV ws hws l];exact(hw ws hws).le
  .rw[BVA (HP DU8) D5N,A2S (lf.length=1)];omega
#where
#where
section
variable {j m:Nat}{x:Str}
def a0Y(c m:Nat):CNG a2m m=BV5 c:=by
 unfold a2m;show gQ m [c] flatten.toArray.toList=_;rw[List.toList_toArray];induction m with
 |zero=>rfl
 |succ m a=>rw[C3N a]
def c6y{c:Nat}(h1:97<=c)(h2:c<=122)(d:ATO)(e:m<=8):isNm (a2m GY m):=by
 have a:IS a2m GY m=m:=by
  show(a2m GY m).cps.size=m;rw[ACH a0Y List.length_replicate]
 rw[FY (~~~c0A d a) (AU 0x465794ac2afdbb5dd26 e a) AKO];rw[a0Y]at b;rw[(List.mem_replicate.mp b).2];rw[AY h1 h2]
def c2Z{c d k:Nat}(h:a2m GY m=a2m (tP d) k)(a:ATO):c=d:=by
 have e:List.replicate m c=BJQ d:=by rw[<-a0Y,<-a0Y,h]
 have:c∈BJQ d:=AFB e List.mem_replicate.mpr (IC (OJ b8Z))
 exact DE5 this
def c6z{c:Nat}{p q:Nat}(hp:p∈x.cps.toList)(a:q∈x.cps.toList)(h:p≠q):DG1:=λz=>by
 rw[<-z,a0Y]at hp a;exact h (mG (DE5 hp) (List.mem_replicate.mp a).2.symm)
noncomputable def six:AC:=[wd "sum",A3B,AE7,wd "of",wd "least",wd "step"]
def c6u:BSB six:=by
 rw[ETH (D64/\x.length<=8) C8F BGN ⟨h1.1,h1.2,λc b=>BPC (List.all_eq_true.mp h2 c b)⟩];rw[BM9 six];rw[uW a];rcases a with rfl|rfl|rfl|rfl|rfl|rfl<;>exact EGY
def c2L(c m:Nat):CW2∉six:=by
 have key:∀x:Str,(∃p q,IP x.cps.toList 0 p/\IP x.cps.toList 1 q/\p≠q)->DG1:=λx ⟨p,q,h1,h2,a⟩=>c6z (List.mem_of_getElem? h1) (List.mem_of_getElem? h2) a;unfold six;rw[AYC];refine⟨A98 115 117,A98 99 97,A98 112 114,A98 111 102,A98 108 101,A98 115 116⟩<;>with_unfolding_all rfl
def c6v:six.Nodup:=AI
structure NmI(L R:AC):Prop where
 nd:L.Nodup
 nm:BSB L
 ap:FW L (x∉R)
 rd:R.Nodup
 rm:BSB R
def a2n{α:Type}{L:CL}{x y:α}(h:y∈DZJ):y∈L∨y=x:=by
 rw[BW (List.mem_or_eq_of_mem_set h)]
 rw[HF z]
 rw[HG z]
def b5J{L:AC}(h:L.Nodup)(a:x∉L):(L.set j x).Nodup:=by
 induction L generalizing j with
 |nil=>exact h
 |cons y r b =>
  rw[B4O];cases j with
  |zero=>exact List.nodup_cons.mpr ⟨C0G a,h2⟩
  |succ j =>
   rw[D1Y ⟨AZX,b h2 λz=>a ASA⟩];rw[BW (a2n z)]
   .exact h1 z
   .exact a (A70 z)
def b8H{R:AC}{k:Nat}(h:R.Nodup)(a:E2Y):x∉R.eraseIdx k:=by
 induction R generalizing k with
 |nil=>cases a
 |cons y r b =>
  rw[B4O];cases k with
  |zero=>cases a;exact h1
  |succ k =>
   rw[List.eraseIdx_cons_succ];intro z;rw[BW pM]
   .rw[z]at a;exact h1 (List.mem_of_getElem? a)
   .exact b h2 a z
def NmI.step{L R:AC}{k:Nat}(h:C7F)(b:E2Y):NmI DZJ (R.eraseIdx k):=by
 have c:x∈R:=D3N;refine⟨b5J h.nd λz=>h.ap x z c,BWV,BWV,h.rd.sublist (List.eraseIdx_sublist ..),λy a=>h.rm y (CAL a)⟩
 .rw[BW (a2n a)]
  .exact h.nm y z
  .rw[AD z (h.rm x c)]
 .rw[BW (a2n a)]
  .exact λq=>h.ap y z (CAL q)
  .rw[AD z (b8H h.rd b)]
def b2U{α β:Type}(f:DKR):∀(R:CL) (j:Nat),(R.map f).eraseIdx j=HM R.eraseIdx j f
 |[],_=>rfl
 |HI,0=>rfl
 |A78,NK=>DWL List.eraseIdx_cons_succ List.eraseIdx_cons_succ List.map_cons (b2U f r j)
noncomputable def nmF(f s g:Int)(k:Nat):Str:=a2m (tP (97+C00)) (1+BK5 k g)
def b8J{f s g:Int}(p:0<=f/\f<26)(hs:s∈B52)(q:0<=g/\g<8)(l:m<=7):NmI (B2U (nmF f s g)) six:=by
 have h:∀k:Nat,97<=97+C00/\97+C00<=122:=λk=>by
  have:=Int.emod_lt_of_pos BHD DDR;have:=Int.emod_nonneg BHD CNO;omega
 have o:∀k:Nat,1+BK5 k g<=8:=λk=>by
  have:=Int.emod_lt_of_pos (k*3+g) DDQ;omega
 refine⟨?_,AKO,AKO,c6v,c6u⟩
 .rw[C53];refine List.Pairwise.imp_of_mem (EVJ c (a:i<j)) (List.pairwise_lt_range (n:=m));rw[List.mem_range]at hi c;have:=c2Z e AF;rw[TB (C33 BXW) (C33 BXX)];have key:∀s∈B52,∀d∈D0M 7,d≠0->A2Y (s*BG d)≠0:=by decide
  have e2:A2Y BXW=A2Y BXX:=(Int.toNat_of_nonneg h1).symm.trans (A2T congrArg Int.ofNat (Nat.add_left_cancel this) (Int.toNat_of_nonneg h2));refine key s hs ASF (DKQ 0x4707ffd6769f4df350ca7c767 l c) (bY 0x111feb6a56eaf1696) ?_;rw[BB (show s*EA ASF=(BXX)-(BXW) by rw[F2 (Int.ofNat_sub (Nat.le_of_lt a)) Int.mul_sub lq 0x30d0deb03b61ad8e]) Int.emod_eq_emod_iff_emod_sub_eq_zero.mp e2.symm]
 .rw[eQ k yK];exact c6y (h k).1 (h k).2 AF (o k)
 .rw[eQ k yK];exact BS c2L
def c7r:∀i:Nat,i<26->CB lts.cps.toList (97+i):=by
 rw[DUG [97,98,99,100,101,102,103,104,105,106,107,108,109,110,111,112,113,114,115,116,117,118,119,120,121,122]]
 rw[ZE e]
def two_at(x y:Int)(c:Bool):∃m:Int,EH5 [AS6,BQ y] ATG/\(m=x∨m=y):=by
 cases c
 .rw[QQ x NA]
 .rw[QQ y BQO]
section
variable {P:qG}{w:World}{K:qF}{mg:BJ}{base:Heap}
inductive spNms(vs:AA)(H:Hp)(Q:VK)(y_3:XK):Prop
 |mk (a b:qE) (_:A7K) (_:QX) (_:∀t ns H',DRT->QV->BT2->lD->SQ->OZ->AO8 t):JD spNms
def sc__law_names:D9X ["_law_pot_here","_law_letters","_law_many","_law_first","_law_step","_law_longer","_law_names_here","_law_words","_law_k"] a0q:={}
noncomputable abbrev c9R(a:qE)(m:Nat)(fi:Int)(st:Int)(gi:Int)(p9:qE)(p11:qE)(b:qE)(H:Hp)(σ:L2.St)(H':Hp):Prop:=F4L (E2S/\C7F/\L.length=m/\SQ/\OZ)
noncomputable abbrev c9Q(a:qE)(m:Nat)(fi:Int)(st:Int)(gi:Int)(p9:qE)(p11:qE)(b:qE)(H:Hp)(i:Nat)(σ:L2.St)(H':Hp):Prop:=F4L (E2S/\aP p11 (JN R.map)/\C7F/\L.length=m/\R.length+i=6/\SQ/\OZ)
def b8w(F:DA5 "_law_names" a0q)(T:AV)(c:AN5)(u:B9G):EN8:=by
 rw[BV sc__law_names e4 d7 J]
 rw[QW a b]
 .rw[EVV]
  rw[CD (B6Q 1 sc__law_names.nd B1
 (CQ 2 sc__law_names.nd (O3 A6 (ARN (DG (DUC (EI9 ALE)))))
 (A1 (b2L (Q5 (UO ALE (AK9 u J.mono a3z (EU2 (UO A6 A6 XA))) (DG ALE))) (K2 K 3 (B3 (C7Y 3) (B3 (C7Y 4) (B3 (C7Y 5) F3)))))
 (A0Q (yW 6 sc__law_names.nd (N:=CZI) (src:=[none,uI,AQ 3,AQ 4,AQ 5]) (E1L OV)
 (UL CZI)) gP (c7Q (D4 c5V 1 (BW2 (D4 O3 2 (D4 a2X 3 EO)))) (O3 A6 (a2Y (O3 (AJA a2X) (jv 4)) A6)))
 (kI 7 sc__law_names.nd E4 (EM2 (UO B1 B1 YC))
 (A1 (AKZ G8 ALE
 (A3 (pE (B7H (c7O rfl T.b_min (EG 2 (gO O3 A6 ALE)))) 8 sc__law_names.nd
 (A3 (b2L (ADL a6a 7 (ARN (DG (A1L (ZA 7))))) (D4 c7N 6 (ARN OV))))))
 B4)
 (AIA BRI)))))))]
  refine zQ (bQ 2 b2a) p1 b1;have q1:VM p1:=J1 hP b1;rw[CBD AUW b1 p1 AUW p1 AUW];have P1:=hP.same s1;have o1:BTF DHC:=s1.off;generalize DHC=H1 at s1 e1 P1 o1;refine r9 4 P1 (λr2 H2 _ _ P2 f2=>rT);rw[EQM b0 d3 4 7 r2 ⟨_,rfl,p1,_,_,_,rfl,rfl,B02 f2 q1 e1,b0,a,b,mi,rfl,P2,AF,jO (AFJ (mi<=7)),ERT c6 c7⟩];rw[VQ (BNF ?_)];have o3:=IJ o1.trans f2 f3;rw[LV m hm (YK m (1+r3=QL)) (vL 1 r3) AF];rw[AHE v (ATO/\m<=7)]
  rw[hm];clear f2 f3 P1 P2 s1 e1 c6 c7 hm b0 d3;rw[IN (r9 26 P3 (DT g H4 c0 c3 P4 f4)) (zQ (bQ 6 b9b) p5 a0)];have q5:VM p5:=J1 P4 a0;rw[A62 s5 H4 AYI a0];rw[XZ e5 H4 p5 AYI p5 AYI];rw[AE P5 (P4.same s5) o5 (IJ o3.trans f4 s5.off)];generalize EZ H4 p5 AYI=H5 at e5 P5 o5;refine⟨a,b,p5,_,rfl,P5,e5,q5,AI,AI,DW sv H6 b4 P6 f6⟩;obtain⟨st,b3,rfl⟩:∃st:Int,st∈B52/\eB sv st:=by
   rw[BH4 x hx (show sv∈cN (CKO:qI).map from b4)];rw[BA x hx e.symm]
  refine r9 8 P6 (DT l H7 c4 c5 P7 f7);have o7:=IJ o5.trans f6 f7;rw[GN (bQ 3 b2d) p8 b2];rw[lB s8 H7 AYB b2];rw[gD e8 H7 p8 AYB p8 AYB];rw[AE P8 (P7.same s8) o8 (o7.trans s8.off)];generalize MV H7 p8 AYB=H8 at e8 P8 o8;clear s8 b2 o7 f7 P7 o5 f6 P6 s5 a0 e5 P5 o3 f4 P4 P3 b4;refine⟨p8,_,rfl,FU e8,rfl,_,_,rfl,_,_,rfl,_,[],rfl,rfl,?_⟩;rw[DQ (EPH m)];have d5:0<=st/\st<=11:=(AI:∀s∈B52,0<=s/\s<=11) st b3;rw[D11];rw[EX (a5v (caps:=[CME,DZ g,CLD,AVW]) (λk=>EUT) (BJC v.2) rfl (C89 H9 Q9 s9)) H9 C s9 I]
  .rw[AE m1 (Int.emod_lt_of_pos ARV DDR) m0 (C33 ARV)];rw[AE n1 (Int.emod_lt_of_pos E61 DDQ) n0 (CKT E61 (CJV 8))];have c9:UY atI lts.cps.toList DCM (97+B4N):=by
    rw[QS (N9 (c7r B4N AF)) (AL2 B4N DCM)]
   rw[IN ⟨_,rfl,_,rfl,_,rfl,_,rfl,_,_,rfl,rfl,B86,_,_,rfl,rfl,_,_,rfl,rfl,BBM (MX<26),lts,_,_,rfl,rfl,A8P 26 0x69b830c3eade6e0edd,c9,?_⟩ ⟨_,rfl,_,_,rfl,rfl,B86,_,rfl,_,_,rfl,rfl,_,_,rfl,rfl,BBM (MX<8),_,_,rfl,rfl,tP (97+B4N),EDU,rfl,?_,BV8 10,AF,q⟩];show eB (DI (1+(RO*3+l) % 8)) (EA EDU);congr 1;omega
  have hI:=b8J ⟨c0,c3⟩ b3 ⟨c4,c5⟩ v.2;have c8:(B2U λk=>EUT)=HM B2U CBK V.str:=by rw[BF7]
  rw[c8];rw[pZ Z (HY B2U CBK) m]
  generalize (List.range m).map CBK=L0 at hI Z;rw[EM];have P9:=P8.same s9;have q9:VM C:=J1 P9 I;have f9:EC C:=a5H (o8.trans s9.off) P9 I;rw[HW a3 s9.upd AVS I];rw[TL G H9 C AVS C AVS];rw[AE y (P8.same a3) M (o8.trans a3.off)];generalize upd H9 C AVS=X at G y M;rw[GN (bQ 6 b9b) d r];have D:VM d:=J1 y r;have b9:EC d:=a5H M y r;rw[MO S X AVT r];have W:C≠d:=A5 G r;have a8:KB X d AVT d AVT:=A0;rw[AE z (AH S G) a4 (y.same S)];have a1:=M.trans S.off;rw[pV ([XC "sum",XC "cap",XC "price",XC "of",D8W,XC "step"]=six.map V.str)];rw[EM];generalize upd X d AVT=e0 at a8 z a4 a1;clear S a3 y M s9 P9 I P8 o8 e8 G r;rw[E7L (F2Q c9R)]
  case fin =>
   rintro σ H' ⟨o8,L,R,rfl,e,hN,U,P',o'⟩;refine IQ rfl C _ rfl (tX D34 t ht);exact k t L _ A0 ⟨hN.nd,hN.nm⟩ (~~~c0A v.1 U) (AU 0x4657949b54c2ca58766 v.2 U) (P'.same (BRY ht)) (o'.trans (BRY ht).off)
  refine r9 2 a4 (λe9 e2 _ _ a5 B=>A3X rfl _ nS)
  .refine CYL 3 a5 (DT O e3 d8 d9 b6 Y);rw[AE d6 (D84 B Y) b7 (aC Y q9 B q9 z)];have b8:=aC Y D B D a8;obtain⟨n,hn,d4⟩:YK n ((F02)=FE/\n<=3):=⟨ZO F02,by split<;>omega,by split<;>omega⟩;rw[D6B ⟨_,_,rfl,rfl,_,_,rfl,n,X3 hn,AF,AF,?_⟩];rw[CBI (n:=n) (F2Q c9Q) ⟨_,L0,six,rfl,b7,b8,hI,Z,rfl,b6,d6⟩]
   .rw[F4D o8 L R hN U hR];rw[EM];have hm:EA R.length<A01:=jO (show HK (BG R.length) by rw[DN 0x33b819d9ca234831dc284996 hR]);refine F3V c2 d c2 P' (AJ0 0x1e895693d5305e3343a70223b7067 d4 hi hR) (DT r1 H1 e7 a2 P1 f1);rw[BJ4 a2];rw[LV j rfl (YK j (r1=j)) r1.toNat AF];have hj:j<R.length:= ~~~b2r a2
    have d2:=AK f1 D c2;have d0:UY seqIndex? rJ (A5W R.map) j:=by
     rw[EUZ]
    refine F43 d R[j] d2 d0;rw[AE d1 (AK f1 q9 c1) P2 (a4G (o:=AEZ) P1 D)];have o2:=BI b1Q p d o AEZ (o'.trans f1) b9;rw[ER a6 (KB H1 d AEZ C CRB) (A4 W) d1]
    have a7:KB H1 d AEZ d (APY R.eraseIdx j):=by rw[A0,b2U]
    generalize aU d AEZ=H2 at P2 o2 a6 a7;refine⟨_,rfl,_,rfl,_,rfl,a,b,m,rfl,P2,BH 0x89ad3f90066d v.1,jO (show QL<=7 by exact c0D v.2),ERT f0 b5⟩;rw[LV i2 rfl (YK j (r3=j)) r3.toNat AF];have e6:i2<L.length:= AU 0x46fb2449bf7b0ab5957 U b5
    have a9:UY ixN (A5W L.map) (BG i2) i2:=by
     rw[EVT (AU 0xd9612dd1e40fd00fb5957 U b5)]
    rw[IN ⟨C,_,_,i2,rfl,rfl,AK f3 q9 a6,a9,?_⟩ ⟨_,L.set i2 R[j],R.eraseIdx j,rfl,BU6 List.map_set,IH W.symm (AK f3 D a7),BQ9 hN.step hj,D27 U,IG List.length_eraseIdx (CO hj) (lq 0x111dcda07c2f3348150cd3e55e746204173e77f0bc997 hR a2),a4G P3 q9,b1Q (o2.trans f3) f9⟩]
   .rintro σ H' ⟨o8,L,R,rfl,c1,c2,hN,U,hR,P',o'⟩;exact VF ⟨_,L,R,rfl,c1,hN,U,P',o'⟩
  .exact VF ⟨_,L0,six,rfl,AK B q9 z,hI,Z,a5,a1.trans B⟩
#where
def a7Q{α:Type}{f:A02}{Pr:OX α}:∀{ys:AA},DX y ys (∃x,y=f x/\Pr x)->∃zs:CL,ys=zs.map f/\BPG zs.length/\kR zs (Pr z)
 |[],_=>(OI [] rfl (λz a=>AFM a))
 |NU,h=>by
  rw[GV x d DGD];obtain⟨zs,rfl,e,a⟩:=a7Q (ys:=ys) λu c=>h u BS9;rw[EF (x::zs) rfl AJ (λz b=>by rw[WR AHY q];exact d;exact a z q)]
section
variable {P:qG}{w:World}{K:qF}{mg:BJ}{base:Heap}
def a6p{src:NM}{σ caps:L2.St}{Q:VK}{H:Hp}{a b t:qE}{xs:AA}{te:TE}(R:OX V)(m:NS)(d:cG)(k:QX)(l:RA t xs)
  (f:F2D)
  (hd:F3F):DFP Itt:=by
 rw[VT o]
 refine YH O6 t xs (~~~Y7 m o) END ETV (EDK (FU (AK BPM (J6 k l) l))) ?_ ?_
 .rw[F4O n]
  .exact h2 y z
  .rw[AD SN n]
 rw[F5N]
def c1X{src:NM}{σ caps:L2.St}{Q:VK}{H:Hp}{a b t:qE}{xs:AA}{te:TE}(R:OX V)(l:NS)(d:cG)(k:QX)(n:uC t)(m:VM t)
  (f:F2D)
  (hd:F3F):DFP Itl:=by
 rw[VT q]
 refine YH a0f t xs (~~~Y7 l q) END ETV (EDK (B02 BPM m n)) ?_ ?_
 .rw[F4O o]
  .exact h2 y z
  .rw[AD SN o]
 rw[F5N]
def SysAt.pot{H H':Hp}{a b:qE}{v:V}{ns:AC}{rows:LLI}{sides:qI}{caps:AS}{prices:qI}(h:CD0)(d:QX)(o:OZ):CDX:=by
 obtain⟨c,n,r,t,k,p,m,e,e1,e2,f,l,g,i,j⟩:=h.ex;exact⟨c,n,r,t,k,p,m,e,AJL e1 e1,AJL e2 e2,AJL f f,Its.pot l d o,AJL g g,AJL i i,AK o (J6 d j) j⟩
def a8Q{ys:AA}{lo hi:Int}(h:RB ys (∃x,eB y x/\(CB4))):∃xs:qI,ys=xs.map V.int/\A2H ys.length/\kJ CB4:=a7Q h
inductive spSml(vs:AA)(H:Hp)(Q:VK)(y_3:XK):Prop
 |mk (a b:qE) (_:A7K) (_:QX) (_:∀v ns rows sides caps prices H',CDX->B4F->BWG DZX->SQ->OZ->A2B):JD spSml
def sc__law_small:D9X ["_law_pot_here","_law_names_here","_law_rows","_law_k","_law_sides","_law_caps","_law_prices"] a0p:={}
noncomputable abbrev c9P(a:qE)(t:qE)(pr:qE)(ns:AC)(b:qE)(H:Hp)(i:Nat)(σ:L2.St)(H':Hp):Prop:=∃o3 us rows,σ=[dD,BRR,FB pr,o3,none,none,none]/\yX pr us/\mL us rows/\rows.length=i/\BWG (AVP ns.length DZX)/\DRT/\SQ/\OZ
def b8t(F:DA5 "_law_small" a0p)(T:AV)(c:AN5)(l:B9G)(C:EN8):ENB:=by
 rw[BV sc__law_small i5 i2 B]
 rw[QW a b]
 .rw[EVV]
  rw[CD (CQ 1 sc__law_small.nd (oP C B.mono a5M WL)
 (DSY sc__law_small.nd
 (A1 (pE (B7H (J8 K (E4 (xG (KR l B.mono (EG 0 (EU2 XA))) E4N)) (EI9 E4N))) 3 sc__law_small.nd
 (C7S 2 (E43 (C9M
 C3Z))))
 (CQ 4 sc__law_small.nd (E43 (CMJ "_law_row" (ZF E9 2)
 (CMI "_law_row")))
 (CQ 5 sc__law_small.nd (E42 (C9M
 C3Z) J7 J7 BMQ)
 (CQ 6 sc__law_small.nd (E42 (C9M
 C3Z) A6 BMQ (CJ9 (WN (gO c5U A6 A6))))
 (SG Q5 (WN (jaC (gY OV) (EG 4 (AZQ BRI)))))))))))]
  refine⟨_,rfl,a,b,rfl,hP,λt ns H1 ht g9 h1 h7 P1 o1=>?_⟩;rw[EM];rw[lC pr a7];have fr:EC pr:=a5H o1 P1 a7;have qr:VM pr:=J1 P1 a7;rw[B54 UP a7];rw[mS e2 H1 pr UP pr []];generalize EZ H1 pr []=H2 at s2 e2⊢;rw[AE P2 (P1.same s2) o2 (o1.trans s2.off)];have b7:=XF ht;clear s2 a7 o1 P1 ht;rw[DQ (zQ (A8P 4 0x69714aa7b8086e0edd) p3 b5)];rw[A62 s3 H2 [BBR,BCH,BCH,DI 2] b5];refine⟨a,b,p3,_,rfl,P2.same s3,A0,J1 P2 b5,aI (0<4),BKJ 4,DW r4 H4 b6 P4 f4⟩;obtain⟨x4,rfl,f1,f2⟩:∃x,eB r4 x/\WH/\x<=2:=by
   rw[uW b6];rcases b6 with e|e|e|e<;>exact(GT e AI AI)
  rw[AE o4 (IJ o2.trans s3.off f4) c8 (A72 f4 (xF e2))];have b8:=AK f4 (J6 (P2.same s3) DF8) DF8;clear s3 f4 b5 b6 P2 o2 b7 e2;refine r9 7 P4 (λr5 H5 f3 g0 P5 f5=>tR (bQ 2 b2a) S L);have q6:VM S:=J1 P5 L;rw[A62 s6 H5 AXV L];rw[XZ e6 H5 S AXV S AXV];generalize EZ H5 S AXV=H6 at s6 e6⊢;refine r9 8 (P5.same s6) (λr7 H7 _ _ P7 f7=>rT);rw[AE a5 (IJ f5.trans s6.off f7) o7 (o4.trans a5)];rw[AE c9 (A72 a5 c8) d7 (xH a5 P4 b8 b8)];rw[EQM d3 g7 x4 r5 r7 (B8D S _ _ (B02 f7 q6 e6) d3 mi AF AF ?_)];rw[LV m rfl (YK g (mi=g)) mi.toNat AF];rw[AHE b4 (m<=6)]
  rw[D11];clear o4 f5 s6 f7 a5 P4 P5 c8 b8 e6 f3 g0 d3 g7 f1 f2;have d9:pr≠t:=VP c9 d7;rw[CBI (n:=m) (c9P a t pr ns b H) ⟨_,[],[],rfl,c9,.nil,rfl,λr B=>AFM B,d7,P7,o7⟩]
  .rw[F4D o3 us rows c3 c4 c5];rw[DQ (EE4 (VC c1) t (KS c5))];refine C9V (C9O CWT) P' c5 (EYA 7 0x4a24c03b69da77236 0x2a3eaa4bfa9baf16) F1J;rw[EVE xs h9 h8 h9 XV];rw[F3T bI XV bI bI XV bI];rw[AE f8 (f6.trans s8.off) W (A72 f8 c1)];have O:=Its.pot c2 P' f8;rw[IN (B79 pr us W (IG O.1 c3 (lq 0xcf6601d9b0c9ef07146ae0edf hz b4 hi))) ⟨_,us++[V.ref p8],rows++[xs],rfl,A0,(O.snoc (EW p8 e8)).put W,BUM c3,BK r B,IH d9.symm ETO,a4G (P6.same s8) qr,b1Q (o'.trans f8) fr⟩];rw[BW (List.mem_append.mp B)]
   .exact c4 r z
   .rw[SN];rw[AY AF h8]
  .rintro σ H' ⟨o3,us,rows,rfl,c1,c2,c3,c4,c5,P',o'⟩;have d1:∀{xs:qI}{lo hi:Int},-4<=lo->hi<=4->B1X CB4->zS:=λh1 h2 h x hx=>by have:=D9A;unfold topN;omega
   rw[AGJ pr c1];refine SJ c1X AP0 (λu=>C9O (-4<=x/\x<=4)) (wK c2.1 0x293bb70cc9ff4043074531a6 b4 c3) rfl P' c1 qr (EYA 9 0x4a2697aa0e7a53236 0x2a5c218b172f7116) F1J;rw[EVE j h5 h4 h5 BJW];rw[F3T AVZ BJW AVZ AVZ BJW AVZ];rw[AE f8 (f6.trans s8.off) P8 (P6.same s8)];rw[AE o8 (o'.trans f8) W (A72 f8 c1)];rw[AE O (Its.pot c2 P' f8) X ETO];clear s7 s8 f8 f6 L a6 P6 c1 c2 c5 P' o' D;rw[DQ (AGA t X)];refine C9V (∃o:FF,u=ovI o/\∀x,some x=o->A2Z) P8 X (DW v H9 N P9 q) λH9 p9 ys g6 D P9 f9 d6=>?_
   .refine EQE 4 P9 EVQ;rw[F36 c0 [V.non,V.non,AS6] a1.same a1 (λr U B a2 b3=>q r U ?_ a2 (rG b2.trans G.off b3))]
    rw[EDS]
    rw[EDS]
    .rw[BA iS e (λy z=>by cases z;unfold topN;omega)]
   rw[DR caps rfl g4 g3 a7Q D];rw[BN2 g6 g4 e0 H9 BML d6];rw[oD p9 I p];rw[HW G e0.upd AXQ p];rw[TL a4 (upd H9 p9 BML) I AXQ I AXQ];generalize ATM H9 p9 BML I AXQ=i4 at G a4⊢;rw[AE R (f9.trans G.off) M (P9.same G)];rw[AE d8 (o8.trans R) g1 (A72 R W)];rw[AE g2 (Its.pot O P8 R) g5 (xH R P8 X X)];rw[AE g8 (xH R P8 e8 e8) h6 O.1];clear e0 G R f9 d6 p P9 W O X P8 o8 e8 D;rw[DQ (AGA t g5)];refine C9V (C9O A2Z) M g5 (DW v a0 N a3 q) λa0 b9 ys d2 D a3 d0 a9=>?_
   .refine EQE 6 a3 ⟨_,rfl,_,_,rfl,rfl,ECD,a,b,_,rfl,a1,AI,FV,λy U y1 y2 a2 b3=>EVQ⟩;have y2:y<1000000000000:=y2;rw[F36 U [BBR,AS6,DI y] a2.same a2 (λr e5 B e7 f0=>q r e5 ?_ e7 (((b2.trans b3).trans G.off).trans f0))]
    .exact GT e AI AI
    rw[EE3 0xf183a3edc63a3ee515b6e4931e94e16 x2]
    rw[EE3 0x1c83cf3463cd651ff7d57a09fd6a7931745a66437b32bda2a16 y2]
   rw[DR d rfl h3 h0 a8Q D];rw[BN2 d2 h3 e3 a0 BJX a9];rw[oD b9 Z b0];rw[HW a8 e3.upd AW0 b0];rw[TL c7 (upd a0 b9 BJX) Z AW0 Z AW0];generalize ATM a0 b9 BJX Z AW0=b1 at a8 c7⊢;rw[AE J (d0.trans a8.off) e9 (a3.same a8)];rw[AE i1 (d8.trans J) j1 (A72 J g1)];rw[AE j2 (Its.pot g2 M J) j5 (xH J M g5 g5)];rw[AE j8 (xH J M g8 g8) i0 (xH J M a4 a4)];clear e3 a8 J d0 a9 b0 a3 g1 g2 g5 g8 M d8 a4 D;rw[DQ (A6L pr us rfl (A51 j1 Y d4))];rw[lB e1 b1 us d4];rw[gD c6 b1 Y us Y us];generalize MV b1 Y us=U at e1 c6⊢;refine A6L _ rfl E44 (BK i3 d5);rw[AE e4 (GR U (o:=JM [II,AM Y,AM p8,BGH,AM Z]) d5) ss (e1.trans e4)];refine k _ ns rows j caps d _ ⟨i3,t,Y,p8,I,Z,us,rfl,A0,AZF j5,AH e4 c6,j2.same ss,AZF j8,AZF i0,AZF c7⟩ ⟨g9,h1,h7,AU 0x4657948a7e87d9531a6 b4 c3,λr B=>⟨(c4 r B).1,E9N ECZ⟩,?_,E9N h4,AF,wQ (g3 _ hx x rfl),AF,h0⟩ (λr B=>ECZ) (e9.same ss) (i1.trans ss.off);rw[DL 0x10e349568b2565d631a457 hl h6]
#where
#where
section
variable {F W a rss:LLI}{H H':Hp}{P:qG}{base:Heap}{cs:AS}{k:Nat}{mg:BJ}{w:World}
noncomputable def Lst(rss:LLI)(v:qI):Bool:=!(rss.any λu=>! CJ (u=v) && BFQ)
structure Srt(rss srt:LLI):Prop where
 ri:DAA
 nd:srt.Nodup
 mem:EEL
def Srt.eq{b:LLI}(h:E0S)(g:C3S):a=b:=EEG h.nd g.nd E9G
def a7o(h:∀r,wW↔BVU)(v:qI):Lst rss v=ARQ:=by
 unfold Lst;congr 1;rw[Bool.eq_iff_iff,List.any_eq_true,List.any_eq_true];rw[AY (EFM (XT h u b)) (EFM (kA h u b))]
def b4K:∀{u v:qI},u.length=v.length->AW BFQ->u≠v->jM v u
 |[],[],_,_,ne=>B2I ne
 |[],HI,h,_,_=>VW
 |HI,[],h,_,_=>VW
 |x::u,y::v,h,a,ne=>by
  unfold Bel at a;rw[List.zipWith_cons_cons,List.all_cons,Bool.and_eq_true]at a;have h1:x<=y:=BPC QK;rw[GD x y]
  .rw[CK];have b:=BI b4K u u v v yM a.2 λz=>D25 ne;simp[HT.lexLt,b]
  .have:¬y<x:= BRO 6243241540210
   rw[dL e' (y=x) DVO];simp[HT.lexLt,this,e']
def b3R{α:Type}{m:OX CL}(l:CL)(nil:m [])(snoc:GC l CL v α (m l) (m DA4)):m l:=by
 have:∀r:CL,m r.reverse:=λr=>by
  induction r with
  |nil=>exact nil
  |cons x r a=>rw[AD List.reverse_cons (snoc _ x a)]
 have:=this l.reverse;rwa[List.reverse_reverse]at this
noncomputable def LO(l:LLI):LLI:=l.foldl (λqP v=>if qP.any BL9 then qP else A26 qP) []
def a9g(l:LLI)(v:qI):LO DA4=if ERF then AIZ else A26 AIZ:=by
 rw[oH LO List.foldl_append]
def c2m(v:qI):AW (Bel v v):=XN a1N rfl (Under.refl v)
def b6J{a b c:qI}(h1:B4Z)(h2:b.length=c.length)(g1:CQQ Bel)(d:CQS Bel):CQR Bel :=
 (a1N (h1.trans h2)).mpr (rG (QO a1N h1) g1 (QO a1N h2 d))
def b4N{n:Nat}:∀(l:LLI),DX r l ACR->WT AIZ (x∈l)/\∀u∈l,∃x∈AIZ,AW (Bel x u):=by
 intro l;induction l using b3R with
 |nil=>intro _;rw[AY CRX QJ]
 |snoc l v h =>
  intro f;obtain⟨c,d⟩:=h λr g=>f r (XQ g);rw[a9g];cases e:ERF with
  |true =>
   rw[EJ];rw[GN (λx b=>XQ (c x b)) u a];rw[BW A4O]
   .exact d u z
   .rw[BB SN List.any_eq_true.mp e]
  |false =>
   rw[A7O];rw[GN AKO u a]
   .rw[BW AVO]
    .exact XQ (c x z)
    .exact BVB
   .rw[BW A4O]
    .rw[OP x h1 h2 (d u z) x BW4 h2]
    .rw[SN];rw[BA v CSA (c2m v)]
def b6K{n:Nat}(a:LLI)(d:BWI a)(k:G2 a)(nd:a.Nodup):∀(l rest:LLI),a=l++rest->AIZ=l.filter BH6:=by
 intro l;induction l using b3R with
 |nil=>rw[A0M]
 |snoc l v s =>
  intro rest e;have e':a=l++(v::rest):=by rw[e,List.append_assoc];rfl
  have j:v∈a:=by rw[LS e']
  have b:BWI l:=λr m=>d r (DQK m);obtain⟨h,o⟩:=b4N l b;rw[a9g,List.filter_append,<-s _ e'];have key:(LO l).any BL9=! ARQ:=by
   rw[BJ2];rw[eW Lst Bool.not_not List.any_eq_true List.any_eq_true];constructor
   .rw[EGH];rw[LT u (DQK DJQ)];have f:u≠v:=λz=>by
     rw[e']at nd;exact v9 (List.nodup_append.mp nd) u DJQ v List.mem_cons_self z
    rw[hb,decide_eq_false f];rfl
   .rw[EGH];rw[Bool.and_eq_true,Bool.not_eq_true',decide_eq_false_iff_not]at hb;have c:u∈l:=by
     rw[e']at hu;rw[BW (A5I hu)]
     rw[NQ]
     .rw[XW pM]
      rw[FJ q hb.1]
      .exfalso;have g:jM u v:=by
        rw[e']at k;have:=(List.pairwise_append.mp k).2.1;exact BSN List.pairwise_cons.mp u q
       have h2:=b4K (KA (d u (AG e' BVB)) (d v j)) hb.2 hb.1;exact hb.1 (N4 u v g h2)
    rw[OP x h1 h2 (o u c) x h1 (b6J (KA (b x (h x h1)) (b u c)) (KA (b u c) (d v j)) h2 hb.2)]
  rw[key];cases i:ARQ with
  |true=>rw[YF,List.filter_cons_of_pos (p:=BH6) i];rfl
  |false=>rw[A58,List.filter_cons_of_neg (p:=BH6) (D0X i)];simp
section
variable {K:qF}
inductive IspAboveL(vs:AA)(H:Hp)(Q:VK)(E:XK):Prop
 |mk (l:qE) (y:V) (fs:AA) (fss:LLI) (ys:qI) (_:QA HQ y) (_:DMR) (_:DM9) (_:gB) (_:DX f fss D4V) (_:A56 DUB):GK IspAboveL
noncomputable def a9H:Sp:=HH IspAboveL
def sc_above_any:DA ["some","one","other"] (tZ "some") a0W:={}
def a6Q(F:A4T "above_any" a0W "some")(T:AV)(b:C8U):EKX:=by
 rw[BV sc_above_any n j c]
 rw[ART l y fs fss ys]
 .obtain⟨l,y,fs,fss,ys,rfl,hl,hI,hy,hL,k⟩:=h;rw[CD (A1 (B3M 2 sc_above_any.nd
 (A3 (E59 (kL c.mono (EG 2 MU))
 fK
 B4)))
 fK)]
  rw[EZJ [yP,BJF,o] (ETM i) (QT σ (by obtain⟨_,_,s',_⟩:=h;rw[A5P DDD]))]
  .rw[F32];rw[DR r c d g hI.mem hx];have m:ETM AO=AL1:=by
    rw[EMK d]
   rw[DQ ⟨_,rfl,_,rfl,x,y,r,ys,rfl,g.same s',hy.same s',hL r c,BYX⟩];cases e:AL1 with
   |false =>
    rw[e]at m;exact B5 (UU AW8 m)
   |true =>
    rw[EU8 (show PV DUB from iZ List.any_eq_true.mpr r c e)]
  rw[F4T]
inductive IspLeastOf(vs:AA)(H:Hp)(Q:VK)(E:XK):Prop
 |mk (p:qE) (us:AA) (rss:LLI) (n:Nat) (_:lE) (_:ABE p) (_:PJ) (_:kZ) (_:fO) (_:YQ) (_:BYF) (_:∀q zs srt H',BP->Srt rss srt->BEK->ABS (D8S DBE)->oR):GK IspLeastOf
noncomputable def a7e:Sp:=HH IspLeastOf
def sc_least_of:UZ ["some","found","one"] "some" a2h:={}
def b0g(F:SO "least_of" a2h "some")(T:AV)(c:EKX):EN9:=by
 rw[BV sc_least_of a6 a5 m]
 rw[bK p us rss n]
 .obtain⟨p,us,rss,n,rfl,hp,hI,hl,hn1,hn2,hR,k⟩:=h;have hu:=m.u60;rw[YR hz]
  rw[CD (kI 1 sc_least_of.nd E4 jaN
 (A1 (pE (E9 K (c1v P w rfl T.b_sorted (DG (A50 (c4w K P w hu) T.b_set)))) 2 sc_least_of.nd
 (A3 (B72 (oP c m.mono a3z B1P)
 (E5Y OV)
 B4)))
 (AIA MU)))]
  rw[lC g M];rw[oT UP M];rw[mS e1 H g UP g []];rw[A8T (RD g []) e1];rw[DQ (VA true p us rss rfl (FU AIK) (hI.same s1) hl (DT a xs ha L j V))];rw[AE s2 (s1.upd (o:=x9) ha) B (GR H1 (o:=x9) ha)];have e2:BQB H1 x9 x9:=A0;rw[A6U (aU a x9) s2 B e2];have a2:NS:=by
   have:=B1Q ((xs.map (·.1))) rss L r m (XT j r m);rw[List.length_map,<-GE]at this;rw[oK b9K hl]
  refine⟨a,xs,rfl,e2,λx J=>(V x J).same B,λx J=>AG (hR EN (QO j EN (List.mem_map.mpr (NJ x J)))) hn1,a2,λl zs b y d N a1=>?_⟩;have S:C3S:=⟨a1,N.symm.nodup L,λr=>nK N.mem_iff (j r)⟩;rw[AI6 s3 UW y];rw[mS U H2 l UW l zs];have C:upd H2 l UW g=BU .lst []:=S3 DE0 y;have d:=ALQ d.same H2 UW y;have a4:l≠g:=oS DE0 y;generalize iW l zs=H3 at s3 U C d;have I:BWI b:=λr m=>hR r (DRS m);have a3:HK zs.length:=by
   have:=B1Q b rss S.nd r m (DS2 m);rw[d.1];rw[<-GE]at this;rw[oK b9K hl]
  have X:EC g:=M;rw[C0X l U];refine YH O4 l zs (RJ σ (Ex2 λo2 fs=>An5 (σ=DXM o2) (Off [g] H3 H') (yX g fs) (mL fs AGY) (fs.length<=i))) ⟨none,[],rfl,xI,C,.nil,BO⟩ (QT σ (by obtain⟨_,_,_,o',_⟩:=h;rw[A5P (TH o' a4 U)])) ?_ ?_
  .rintro i x σ H' J ⟨o2,fs,rfl,off,D,hIf,hfl⟩;rw[DR r m Z a0 d.mem J];have Y:BRC:=NE J;have O:IT H' x r:=by
    rw[GV xa R a0];rw[QQ xa (TH off (VP R C) R)]
   have W:∀f∈AGY,D4V:=λf D=>by
    have:=(b4N (n:=n) (b.take i) λr m=>AZK I r m).1 f D;rw[AD (AZK I f this) hn2]
   have t:LO (b.take AO)=if EEA then AGY else AGY++[r]:=by
    rw[CM List.take_add_one Z (BS a9g)]
   rw[DQ ⟨_,rfl,_,rfl,g,x,fs,_,r,rfl,D,hIf,O,W,BYX⟩];cases e:EEA with
   |true =>
    rw[e,EJ]at t;rw[QI ⟨_,fs,rfl,off.trans s2.off,XF D,?_,AHK hfl⟩];rw[BB t hIf.same s2]
   |false =>
    rw[e,YF]at t;have G:=XF D;rw[QP (F3L (VC G) g G (~~~lq 0xd4c0c82003e0da3e889e33f0ae923d0 hz a3 hfl Y))];refine⟨_,fs++[x],rfl,B2B off.trans s2.off,A0,?_,BPJ⟩;rw[AD t (Its.put ((hIf.same s2).snoc (O.same s2)) G)]
  .rintro σ H' ⟨o2,fs,rfl,off,D,hIf,_⟩;rw[bO d.1 hIf];refine IQ rfl g fs rfl (C42 D);rw[lB s4 H' fs hq];refine k q fs b _ ((a9O s3 X off).trans s4) S A0 ?_;rw[GL e (b6K (n:=n) b I S.ri S.nd b [] AJ) e hIf];have e2:(D8T (Lst b v))=D8T DBE:=by
    congr 1;funext v;exact a7o S.mem v
   rw[e2]at hIf;exact hIf.same s4
#where
def Wk.inv1{L:LLI}(h:sI)(e:k=1):ES6 B6X (F=BZH) (W=L):=by
 induction h with
 |one ri nd h=>exact GJ ri nd h rfl
 |more h _ _ _ _ _=>rw[QE C0K]
def Wk.inv2{L:LLI}{k':Nat}(h:ZZ F W L k'):∀k,k'=CF->1<=k->∃a c b,ZZ a c b k/\B0P/\ES6 (∃u∈b,CFK a) (F=a++BZH) (W=c++L):=by
 cases h with
 |one ri nd h=>intro k e d;omega
 |more h ne ri nd f =>
  intro k e d;obtain rfl:_=k:=Nat.succ.inj e;exact⟨_,_,_,h,ne,ri,nd,f,rfl,rfl⟩
def Wk.det{rss:LLI}{cs:AS}:∀(k:Nat) {F W L b c a:LLI},sI->ZZ b c a k->F=b/\W=c/\L=a
 |0,_,_,_,_,_,_,h,_=>bM C0K
 |1,F,W,L,b,c,a,h,g=>by
  obtain⟨d,e,f,i,j⟩:=h.inv1 rfl;obtain⟨l,m,n,o,p⟩:=g.inv1 rfl;rw[F2N]
 |k+2,F,W,L,b,c,a,h,g=>by
  obtain⟨r,w,t,a0,_,d,e,f,i,j⟩:=E4G h.inv2;obtain⟨s,x,u,q,_,l,m,n,o,p⟩:=E4G g.inv2;rw[GV rfl rfl (Wk.det CF a0 q)];rw[F2N]
def Wk.back{L:LLI}(h:sI):∀st,1<=st->st<=k->∃a c b G R,ZZ a c b st/\W=c++R/\F=a++G/\SZ G (BG st<v.sum)/\(st<k->B0P):=by
 induction h with
 |@one L ri nd h =>
  intro st h1 h2;have:st=1:= AL0 0x11c517f498d7b6272468e6d
  rw[pJ];rw[F20 (.one ri nd h)]
 |@more F W L L' k h ne ri nd d i =>
  intro st h1 h2;rw[GD st CF]
  .rw[CK];rw[F20 (.more h ne ri nd d)]
  .obtain⟨a,c,b,G,R,g1,g2,g3,g4,g5⟩:=i st h1 (~~~b2z h2 e);refine⟨a,c,b,G++L'.filter BWR,R++L',g1,D7C g2,D7C g3,wM g,wP⟩
   .rw[BN9]
    .exact g4 v z
    .rw[YJ hu hx (XT d v DQO)];have:=(b8F (h.lv.1 u hu) hx).sum;rw[PZ this]
   .rw[BM e2 st k]
    .subst e2;rw[BPX f h g1];rw[JP f ne]
    .exact g5 AF
def Wk.stop{b d c:LLI}{st:Nat}(h:lI)(g:EAB d):st<=k:=by
 rw[BU2 a];obtain⟨i,j,L2,G,R,g1,_,_,_,f⟩:=g.back k C0K (OJ b9I);rw[BPX e h g1];exact f (bY 157932406998) e.symm
def c8D{b c:LLI}{st:Nat}(h:lI)(g:EAB a):AD7 W.length:=by
 obtain⟨f,i,L2,G,R,g1,d,_,_,_⟩:=h.back st DHH (h.stop g);obtain⟨_,e,_⟩:=C0E g1;rw[d,e,List.length_append];exact a1e
def b1f{b:LLI}{st:Nat}(h:lI)(g:ZZ a b [] st):F=a/\W=b:=by
 have e:k=st:=Nat.le_antisymm (g.stop h) (h.stop g);rw[CK];obtain⟨e1,e2,_⟩:=C0E h;rw[AY e1 e2]
def c5A{α:Type}[DFS]:EWW
 |[],b,_,_=>F1
 |fJ,b,e,h=>by
  rw[F0D (c5A a D37 h2 λy d=>EZ3)]
def a7n{a:Int}(h:lI)(f:BG W.length<=a):¬Over rss cs a:=by
 rintro⟨u,A,y,st,g,r⟩;have b:=c8D h g;rcases r with q|⟨ne,d,nd,p,q⟩
 .exact lq 0x62c1df18c6ef38758 f b q
 .have hst:=h.stop g;have c:st<k:=by
   rw[BW (Nat.lt_or_ge st k)]
   rw[NQ]
   .have e:st=k:=Nat.le_antisymm hst z;rw[CK];rw[BPX e g h];rw[EV e ne]
  obtain⟨w,B,L2,G,R,g1,m,_,_,_⟩:=h.back (st+1) A5N c;obtain⟨t,i,x,a0,_,_,_,j,_,l⟩:=g1.inv2 st rfl DHH;rw[GV rfl rfl (C0E a0)];have n:d.length<=L2.length:=c5A d L2 nd λv s=>XN j v (p v s);have o:W.length=i.length+L2.length+R.length:=by rw[m,l,List.length_append,List.length_append]
  exact lq 0x6c7b61b5f81e7a5af75e90333117e1ae375b f q n o
def gdx{a b:qI}(h:B4Z)(e:∀j,j<b.length->ABU a.getD b.getD):a=b:=by
 rw[EIN h h1 h2 e h2];rw[C32 (OG h1) D63 this];rw[UI]
noncomputable def a7R(a b:qI):qI:=List.zipWith (λa b=>a+b) a b
noncomputable def a9p(c:Int)(r:qI):qI:=r.map λz=>c*z
noncomputable def TgA:qI->LLI->qI->qI
 |qP,B38,sO=>CXH (CAP c r)
 |qP,_,_=>qP
def a2E(a b:qI)(h:B4Z):IS a7R a b=b.length:=by unfold a7R;rw[AD List.length_zipWith (lq 0x790e0edda45b5c900756 h)]
def K3(c:Int)(r:qI):IS a9p c r=r.length:=qW
def b3z(a b:qI)(h:B4Z)(j:Nat):(a7R a b).getD j 0=a.getD j 0+b.getD j 0:=by
 unfold a7R;rw[List.getD_eq_getElem?_getD,List.getD_eq_getElem?_getD,List.getD_eq_getElem?_getD,List.getElem?_zipWith];rw[YI BS7]
 .rw[OG c,OG (~~~a8C h c)];rfl
 .rw[AD0 c,List.getElem?_eq_none (~~~b9N h c)];rfl
def b3x(c:Int)(r:qI)(j:Nat):(a9p c r).getD j 0=c*AIP:=by
 rw[eW a9p List.getD_eq_getElem?_getD List.getElem?_map List.getD_eq_getElem?_getD];cases r[j]? with
 |none=>show MX=c*0;rw[VY 5734523507254]
 |some z=>rfl
def b4Q(a r:qI)(h:BF1 r.length):a7R a (a9p 0 r)=a:=by
 refine KH (gdx (by rw[CM (C3B h) K3 h.symm])) j _;rw[F2 (AH b3z (AG K3 h)) b3x lq 0x96e235d25032]
def b4M{n:Nat}:∀(rss:LLI) (cs qP:qI),BYF->BTV->vU TgA qP rss cs=n
 |[],cs,qP,_,h=>by cases cs<;>exact h
 |B38,[],qP,_,h=>h
 |B38,sO,qP,a,h=>by
  have h1:=a r (List.mem_cons_self ..);exact b4M rss cs _ (C6C a) (pU (C3B (b2D h h1)) K3 h1)
def a7C{α:Type}{xs:CL}{i:Nat}{x:α}(h:aT):xs.drop i=x::xs.drop AO:=by
 rw[NG (List.getElem?_eq_some_iff.mp h)];rw[List.drop_eq_getElem_cons h1,h2]
def c8d{xs:qI}{j:Nat}(h:kY):D79∈xs:=by
 rw[F2 List.getD_eq_getElem?_getD (List.getElem?_eq_getElem h) List.getElem_mem h]
def b3h{n:Nat}(j:Nat):∀(a:LLI) (cs qP:qI),BTV->DX t a D76->ESU qP (qP.getD j 0+dot C9B cs)
 |[],cs,qP,_,_=>by cases cs<;>simp[TgA,dot]
 |t::a,[],qP,_,_=>xB TgA dot
 |t::a,sO,qP,b,d=>by
  have h1:=d t List.mem_cons_self;show ESU (CAP c t) _;rw[b3h j a cs _ (pU (AH a2E EAX) K3 h1) (λq e=>d q AIB),AH b3z EAX,b3x,List.map_cons,a3f,Int.mul_comm c];rw[VY 0x30b37140943e4c8e]
def b4C{B:Int}:∀(a c:qI),WT a (x<=B)->DRL->BF1 c.length->DH5<=B*c.sum
 |[],[],_,_,_=>B19
 |fJ,y::c,d,e,h=>by
  rw[a3f,List.sum_cons,Int.mul_add];rw[TB (b4C a c DHV DHW yM) (EOX Int.mul_le_mul_of_nonneg_right)];rw[A8L 0x819f37ab26efaec6aa]
noncomputable abbrev tgl(n:Nat)(qN:LLI)(c:qI):qI:=TgA A6C qN c
noncomputable abbrev fre(m:Nat):AS:=BV5 none
def a0D(m:Nat):HY fre m=m:=List.length_replicate
def b3o(n j:Nat):gQ n MX getD j 0=0:=by
 rw[List.getD_eq_getElem?_getD,List.getElem?_replicate];split<;>rfl
def b3D(h:dY qN D76)(c:qI):vU tgl n qN c=n:=b4M qN c _ h List.length_replicate
section
variable {K:qF}
inductive IspNought(vs:AA)(H:Hp)(Q:VK)(E:XK):Prop
 |mk (n:Int) (_:D7X) (_:fO) (_:YQ) (_:A0F (ACI n.toNat 0)):GK IspNought
noncomputable def a9D:Sp:=HH IspNought
def b5g:C7H a5j:={}
def b5D(F:BW7 "nought" a5j):E7Q:=by
 rw[BV b5g c a g]
 rw[AMW n]
 .rw[F1Z c7R XA]
  rw[F4E [BQ 0]]
  rw[ESZ]
  rw[ERQ c1P (EW q e)]
inductive IspZip(g:A0B)(vs:AA)(H:Hp)(Q:VK)(E:XK):Prop
 |mk (x:_) (y:_) (xs:_) (ys:_) (_:C3O) (_:B6U) (_:gB) (_:NS) (_:AQB (IT H' v (List.zipWith g xs ys))):AO1 IspZip g
noncomputable def c5p(g:A0B):Sp:=BC6 IspZip g
def c2T:DZP b1B:={}
def c3R(F:HL "plus" b1B ATV)(T:AV):E99:=by
 rw[BV c2T e d m]
 rw[B95]
 .rw[F5B c];rw[GF (bP (C90
 B7E) (AJB O3))]
  rw[EW9 (BXK (x+y)) c g];rw[C34 a7N (x+y)];rw[C9W g]
inductive IspTimes(vs:AA)(H:Hp)(Q:VK)(E:XK):Prop
 |mk (m:Int) (x:V) (xs:qI) (_:QA AHO x) (_:B6U) (_:NS) (_:0<=m) (_:m<dQ) (_:A0F (xs.map λz=>m*z)):GK IspTimes
noncomputable def b3J:Sp:=HH IspTimes
def b7p:AGP "many" "many" a8g:={}
def b8p(F:A4T "times" a8g "many")(T:AV):EKE:=by
 rw[BV b7p d c j]
 rw[CAH m x xs]
 .obtain⟨m,_,xs,rfl,⟨a,rfl,ha⟩,b,m0,m1,k⟩:=h;rw[GF (bP (aK "a" "many" ZW BHG
 (UL ["a","many"])) (DF9 EO))]
  refine AGA a ha;rw[EX (a9u (caps:=[ATG]) (λz=>DI (m*z)) b DAL rfl (λx H1 g _ _ q=>EWC B86)) H1 p s e];rw[B7L (ARF (DI (m*x))) (FQ (ARF (m*x)))];rw[BIS b (iJ s.upd e b)]
inductive IspTog(vs:AA)(H:Hp)(Q:VK)(E:XK):Prop
 |mk (t c:qE) (us:AA) (rss:LLI) (cs:qI) (n:Nat) (_:wY II XE n) (_:B3D) (_:PJ) (_:AEA c cs.map) (_:fO) (_:YQ) (_:BYF) (_:(DX c cs (0<=c/\c<dQ))) (_:AQB (IT H' v (TgA A6C rss cs))):GK IspTog
noncomputable def c5q:Sp:=HH IspTog
def sc_together:DA ["told","counts","width","whole","one","many"] BNY a2c:={}
def a9Z(F:HL "together" a2c BNY)(T:AV)(d:E7Q)(g:EKE)(k:E99):EN2:=by
 rw[BV sc_together O M y]
 rw[tD t c us rss cs n]
 .obtain⟨t,c,us,rss,cs,n,rfl,ht,hI,hc,hn1,hn,hR,hC,kk⟩:=h;rw[CD (CQ 3 sc_together.nd (KR d y.mono OV)
 (A1 (B8W CHZ 4 sc_together.nd 5 sc_together.nd
 (A3 (DRW 5
 (BS2 3 sc_together.nd (KR k y.mono (EG 3 (DG (KR g y.mono (AZQ AHZ))))))
 B4)))
 (ASI 3)))]
  rw[CCU (~~~b2m hn1) (~~~b9n hn) S B B];rw[DQ (AT4 t c (JU ht) BTD)];refine c4T (k1:=true) (k2:=true) (xs:=us) (zs:=cN cs.map) (RJ σ (Ex4 λv J L qP=>An5 (σ=[BRR,FB c,DZ n,RX,J,L]) BP (APM qP) BTV (TgA qP (rss.drop i) (cs.drop i)=DV1)))
   ⟨S,none,none,_,rfl,s1,B,List.length_replicate,rfl⟩ (ARX σ (by rw[BQ6 s'];exact GH (BVY ht) SqT.of (kG hc))) ?_ ?_
  .rintro i x z σ H' q hx hz' ⟨v,J,L,qP,rfl,s',hv',hal,hT⟩ hq;rw[mD j u R8 hz'];obtain⟨r,y,D,ra,rfl,hra⟩:=hI.mem hx;rw[AE l (hR r y) m (XJ hC j u)];rw[a7C D,a7C u]at hT;refine A3W q E2V A0 y9 [aW] aW [];rw[AE C (s'.upd (o:=COB) hq) p (ALQ hv'.same H' COB hq)];generalize MV H' q E2V=X at C p;rw[DQ B64]
   .rw[IN ⟨_,rfl,_,rfl,_,rfl,j,y9,r,rfl,EW ra (AH C hra),~~~b2y hn l,m.1,m.2,BT U Y N G⟩ ⟨v,U,qP,_,rfl,p.same N,G,DYJ hal,BT W Z R I⟩];exact⟨W,_,_,a7R qP (a9p j r),rfl,IJ C.trans N R,I,IG (C3B (b2D hal l)) K3 l,hT⟩
   .have e0:j=0:=by
     have:¬0<j:=λz=>AJ9;rw[UN 0x366b995ee82d053a521dc3236 m.1]
    subst e0;change TgA (CAP 0 r) _ _=_ at hT;rw[b4Q qP r (~~~b2D hal l)]at hT;exact⟨v,_,_,qP,rfl,C,p,hal,hT⟩
  .rintro σ H' ⟨v,J,L,qP,rfl,s',hv',hal,hT⟩;have e:qP=DV1:=by
    rw[<-hT,List.length_map,GE];by_cases h:rss.length<=cs.length
    rw[EFZ BRG cs.drop rss.length]
    rw[EFZ (WW Nat.min_eq_right b9I h) rss.drop cs.length]
   rw[CK];exact DK (AK kk s' hv')
#where
noncomputable def Tk(H H':Hp):Prop:=∀c xs,YZ c HO.tup xs->cZ c xs
def Tk.trans{a:Hp}(h:AML)(g:Tk H' a):Tk H a:=λc xs e=>g c xs (h c xs e)
def Tk.same(s:BP):AML:=λc xs e=>s c _ e
def Tk.put{c:qE}{xs:AA}{o:HO}(e:uC c):Tk H BKQ:=λd ys q=>CSX e
def Tk.it(h:AML){v:V}{r:qI}(g:B4B):APM r:=jR a e q g a e (AH h q)
def Tk.its(h:AML){vs:AA}(g:TM):AMI:=⟨YA,OM v (jR r e1 e2 (g.2 i v e) r e1 (h.it e2))⟩
section
variable {K:qF}
def c7Y(a:LLI):HY IK a=a.length:=qW
def b4h(v:qI):EJE v.map v.map:=DAV
def mem_IK{v:qI}:v.map BN5∈IK a↔v∈a:=by
 rw[GO IK List.mem_map];constructor
 .rw[AE1 u hu];rw[JP (a8R e) hu]
 .intro h;rw[BA v h rfl]
structure NarC(qN:LLI)(row:qI)(most:Nat)(cts fss:LLI):Prop where
 ri:G2 cts
 wk:∃F W k,cts.Perm F/\Wk BOV DVZ F W [] k/\BZQ
 ex:∃mss srt,mss.Nodup/\(A55 mss (∃c∈cts,AMT=v))/\Srt mss srt/\fss=D8S (Lst mss v)
def NarC.one{n d f b:LLI}{l:qI}{i c:Nat}(h:NarC n l i d f)(g:NarC n l c a b):f=b:=by
 obtain⟨F,W,k,p,u,_⟩:=h.wk;obtain⟨z,A,k',p',w,_⟩:=g.wk;rw[MK rfl (b1f u w)];have e:d=a:=EEG (p.symm.nodup u.nd.2) (p'.symm.nodup u.nd.2) (p.mem_iff.trans p'.mem_iff.symm);rw[CK];obtain⟨s,t,_,y,S,rfl⟩:=h.ex;obtain⟨j,m,_,q,o,rfl⟩:=g.ex;have x:∀r,r∈s↔r∈j:=λv=>BIL y q;have es:t=m:=iZ S.eq o.ri o.nd (λr=>IJ o.mem r (aD x r));subst es;congr 1;funext v;exact a7o x v
def b1g{d:LLI}{a:Nat}(e:d.Perm F)(f:lI)(b:W.length<=a):d.length<=a/\A4I d (c.length=cs.length/\DRL/\c.sum<=BG a+1):=by
 obtain⟨o,h,j,l,p,q,m,r⟩:=f.lv;rw[GN (AG e.length_eq (a3C b l)) c g];obtain⟨i,s,n,lv⟩:=h c (j c (e.mem_iff.mp g)).1;rw[BA lv.len lv.nn (AG lv.sum (lq 0x19cb1b22f9133c8b4c1d8 b m n))]
inductive IspNarrow(D:qE)(vs:AA)(H:Hp)(Q:VK)(E:XK):Prop
 |mk (t r:qE) (zs:AA) (qN:LLI) (row:qI) (most:Nat) (mi:Int) (_:wY II (AM r) mi) (_:B5M) (_:C21) (_:AGL) (_:AEA r row.map) (_:1<=row.length) (_:dN row.length) (_:dN zs.length) (_:A37 most) (_:(SZ qN (ADD row.length (Sm v)))) (_:Sm (qN.map (dot row))) (_:(∀q f g fs fss cts H',BP->ABR [mQ,AZC]->cZ f fs->mL fs fss->EOP cts fss->oR)) (_:B7F EVW):B2E IspNarrow
noncomputable def a9E(D:qE):Sp:=B3T IspNarrow
def sc_narrowed:DA ["told","row","most","totals","first","counts","found"] BNX a2g:={}
def b0f{j:qE}(F':HL "narrowed" a2g BNX)(T:AV)(n:B8Z)(G:B7Y)(m:EN2)(l:EN9)(p:AN6 j):EM8 j:=by
 rw[HZ F'.okE sc_narrowed f6 f3 X]
 rw[A97 t r zs qN row most mi]
 .obtain⟨t,r,zs,qN,row,most,_,rfl,rfl,ht,hI,hrw,r1,r2,hzl,hmo,hT,hS,kq,ke⟩:=h;have hu:=X.u60;rw[ZG hz 30000]
  rw[CD (CQ 3 sc_narrowed.nd (bP (C4C "row"
 (A7I "row")) (KR n X.mono zL))
 (B6Q 4 sc_narrowed.nd b4o
 (C62 (pE (E1 K (C5I (C23 p X.mono b1X (jaC (Q5 jT) (jaC (KR G X.mono (DG AG5)) OV))))) 5 sc_narrowed.nd
 (ADG (c4H hu AZT (AK9 m X.mono b1Y (AZQ D2R)) A74)))
 (CQ 6 sc_narrowed.nd (vN l X.mono 176430604 (DG (b5X rfl T.b_tuple AHZ)))
 (SG Q5 (EG 6 (DG (bP (aK "one" "first" (AQ 4) (ZF E1 6)
 (A7I "first")) (U8 hu ZX (jv 0))))))))))]
  refine DO1;rw[EX (SJ a4E [FB r] (λv=>E9B) (AC2 hzl) CSH hI rfl (λv u H1 Q1 e0 L s1 q=>?_)) H1 p1 s1 d5]
  .exact B61 (AM r) v row u (BU1 r hrw) L BY6 (hT u e0).2 CY2
  rw[B7L (qN.map λv=>E9B) BCD];rw[oD p1 pt d8];rw[HW s2 (s1.upd (o:=CLH) d5).upd AW2 d8];rw[TL e2 E2W pt AW2 pt AW2];rw[A0O (upd E2W pt AW2) e2]
  rw[A6T]
  intro d hd
  rw[A6T]
  have d0:EC d:=s2.free hd;rw[AE a3 (GR H2 (o:=ACU) hd) s3 (s2.trans a3)];rw[EXM e3 H2];have e2:=A6Z a3;generalize PM H2 d .dT []=H3 at s3 a3 e3 e2;refine zQ (bQ 1 b9i) p4 d6;rw[AE M (GR H3 (o:=JM AGB) d6) s4 (s3.trans M)];rw[gD e4 H3 p4 AGB p4 AGB];rw[AE e2 (A6Z M) a6 (AH M e3)];generalize MV H3 p4 AGB=H4 at s4 M e4 e2 a6;refine VA t _ rfl (aQ (AHH ht)) _ rfl vP (~~~b9q hzl) (BT ca H5 s5 a9);rw[Int.toNat_natCast,GE]at a9;rw[XX b1 DA1 GE hzl]
  have Y:SyAt H5 p4 ca BOV (fre qN.length):=⟨⟨AGB,DDZ,Its.nil.snoc (EW pt (pW e2)),AJ⟩,a9,F1,AG a0D b1,λr' d9=>by
   rw[D0K d9,a0D,List.length_map];rw[AY rfl hS]⟩
  have b2:BHB qN.length<=901*101:=Nat.mul_le_mul (BH 0x21a87d99aaa98ec914ace5 hmo) (BH 0x3bd60a2b2d8ab6865 b1);refine⟨_,rfl,p4,ca,_,DVZ,most,_,rfl,rfl,Y,A71 a0D 0x3f81ec72a139f200fb0c20ee9ff6dc96ce5 b2,λq t0 pp ys I ws Fl W k H6 s6 hq b6 J b5 e1 f9 f7 hW U=>?_,λH6 s6 ho=>ke H6 (IJ s4.trans s5 s6) ho⟩;rw[AE c0 (s5.trans s6) f5 (s4.trans c0)];have c5:=AH c0 a6;obtain⟨D,b0⟩:=b1g b5 hW U;have a8:DMY qN:=λv L=>jZ hT L;refine⟨q,_,0,_,rfl,rfl,B0G,rfl,t0,rfl,KS b6,?_⟩;refine YH b4z t0 ys ((λi σ H'=>Ex3 λ(o5:qD V) (qL:qA (qA Key×V)) (g:LLI)=>An9 (σ=[some (.ref t),some (.ref r),some (.int most),some (.ref pt),some (.ref d),o5,none]) (Same H H') (Tk H6 H') (H' d=some (.dT qL)) (qL.map (·.1)=IK g) (g.Nodup) (g.length<=i) ((∀v,v∈g↔∃c∈I.take i,tgl row.length qN c=v)) (∀v∈g,∃y,F9 qL (v.map Sum.inl)=some y)))
   ⟨none,[],[],rfl,f5,CAQ,c5,rfl,List.nodup_nil,BO,AJ,xE⟩ (QT σ (by rw[BQ6 tk];exact SqT.of (AH tk b6))) ?_ ?_
  .rintro i x σ H7 hx ⟨o5,qL,g,rfl,s7,tk7,ed7,hk,hnd,hml7,hmem,hfir⟩;rw[DR c c7 c8 c9 J.mem hx];rw[BX xa rfl a1 id c9];have d2:D39:=D8G;have f2:=J.1;obtain⟨_,R,f8⟩:=b0 c c7;rw[wH b7 (I.take AO=I.take i++[c]) List.take_add_one c8]
   have d3:qL.length=g.length:=by rw[<-c7Y g,<-hk,List.length_map]
   rw[A6T]
   refine⟨_,rfl,d,rfl,DP (A1P qL ed7),_,rfl,_,rfl,_,rfl,r,_,rfl,aQ (AH s7 hrw),t,xa,zs,qN,c,row.length,VL List.length_map,AH s7 ht,hI.same s7,AH tk7 a1,r1,BY6,a8,DH2,BT v8 H8 s8 e7⟩
   .rw[TB (R y hy) (b8I R y hy)];omega
   rw[GV va f0 e7];rw[AE B (BQI ed7) c1 (s7.trans s8)];have a5:=tk7.trans (Tk.same s8);refine VA qL (BG9 (tgl row.length qN c).map) va B rfl (AG b4h f0) (~~~lq 0xcf2aa4e53eb32d648c39dfdb823ba01c99ffb99123937e0dbccaceb hmo hz D hml7 d2 f2 d3) (BK v' e5) (MN hn)
   .have hin:AMT∈g:=mem_IK.mp (by rw[nM hk b3y e5]);refine⟨_,qL,g,rfl,c1,a5,B,hk,hnd,AHK hml7,MN v,hfir⟩;rw[hmem v,b7];constructor
    .rintro⟨c',h1,h2⟩;rw[BA c' BW4 h2]
    .rw[EQ1]
     .rw[BA c' z rfl]
     .rw[SN];exact XT hmem _ hin
   .have hni:AMT∉g:=λz=>a9q hn (IU hk mem_IK.mpr z);refine⟨_,_,g++[AMT],rfl,ID o (AG (aO e d0) (QD c1)),AG0 (IH (I0 DY9 B RQ) DY9),A0,by rw[a5x _ hn,List.map_append,hk];rw[BX1 IK],a8v hnd hni,by rw[AFD];show AIS;exact a8I hml7,MN v,wM L⟩
    rotate_left
    .rw[jX b6T ev v AMT]
     .rw[iO (by rw[ev])];rw[RW rfl]
     .have L:B1V:=by
       rw[BW (A5I L)]
       rw[NQ]
       .exact AFN List.mem_singleton.mp z ev
      rw[AD (BC (AVM ev a8R)) (hfir v L)]
    rw[List.mem_append,hmem v,b7,List.mem_singleton];constructor
    .rintro(⟨c',h1,h2⟩|rfl)
     .rw[BA c' BW4 h2]
     .rw[BA c AJ rfl]
    .rw[EQ1]
     rw[HF (NJ c' z)]
     .rw[BB SN .inr rfl]
  .rintro σ H7 ⟨o5,qL,g,rfl,s7,tk7,ed7,hk,hnd,hml7,hmem,hfir⟩;rw[bO J.1 hmem];rw[J.1]at hml7;have d4:DMY g:=λv L=>by
    rw[eQ c (XT hmem v L)];exact b3D a8 c
   refine⟨_,rfl,d,qL,g,rfl,ed7,hk,BT p8 ms d7 C⟩;rw[lB O H7 ms d7];rw[gD e8 H7 p8 ms p8 ms];rw[AE s8 (s7.trans O) C (C.same O)];have B:=AH O ed7;generalize MV H7 p8 ms=H8 at s8 O e8 C B;refine⟨p8,ms,g,row.length,rfl,e8,C,AG C.1 (lq 0x245826cd7cf81cd0e718f500ace7 hmo D hml7),r1,BY6,d4,λp9 fs a4 H9 c2 S e9 a0=>?_⟩;rw[AE s9 (s8.trans c2) c6 (AH c2 B)]
   rw[A6T]
   have a7:EOP I (a4.filter λv=>Lst g v):=⟨e1,⟨Fl,W,k,b5,hW,U⟩,g,a4,hnd,hmem,S,rfl⟩;have d1:fs.length<=most:=by
    rw[AD a0.1 (BJJ Nat.le_trans bF (B1Q a4 g S.nd r X (DS2 X)) (~~~a3C D hml7))]
   refine A6L p9 rfl (KS e9) ?_;refine YH O6 p9 fs (TC 0x6f8ed66abc7f4cee4ae7e0dbccace7 hmo hz d1) (RJ zs (AZS H9/\zs.length<=i)) ⟨A24,BO⟩ (QT zs ⟨zZ e9,FD⟩) ?_ ?_
   .rintro i x zs' H10 hx ⟨s10,hzl'⟩;obtain⟨v,e6,g0,xa,rfl,a1⟩:=a0.mem hx;have f1:B1V:=XT S.mem v (A48 e6);obtain⟨y,hy⟩:=hfir v f1;rw[BUN];refine CWG d y ?_ s10 BPJ;rw[QS (DGet.t (k:=BG9 v.map) (AH s10 c6) (b:=xa) (AG b4h (AH s10 a1))) hy]
   .rintro zs' H10 ⟨s10,hzl'⟩ p10 hp10;rw[oD p10 F b3];rw[AE Z ((GR H10 (o:=DD zs') hp10).upd (o:=JM zs') b3) b8 (s10.trans Z)];rw[gD c4 EHN F zs' F zs'];generalize MV EHN F zs'=c3 at b8 Z c4;rw[GN (A8P 2 0x696ad8a526e076a0ad) f4 b4];rw[AE b9 (GR c3 (o:=APX p9 (AM F)) b4) a2 (b8.trans b9)];exact GX (kq f4 p9 F fs) (s9.trans a2) A0 (AH a2 e9) (a0.same a2) a7
#where
#where
section
variable {L:rF}{a rss:LLI}{n:Nat}
noncomputable def Rs3(m:Nat)(rss:LLI):Prop:=jA rss (AVP m (kR r (-3<=z/\z<=3)))
def c9g{v:qI}(h:∀j,j<v.length->DZE):B3C:=λx b=>by
 rw[LU j a (List.mem_iff_getElem.mp b)];have:=h j a;rwa[List.getD_eq_getElem?_getD,AE5]at this
def b2X:∀(a c:qI),WT a WH->WT c WH->0<=DH5
 |[],_,_,_=>B19
 |HI,[],_,_=>B19
 |fJ,y::c,d,e=>by
  rw[a3f];have:=b2X a c DHV DHW;rw[QE (EOX Int.mul_nonneg)]
def c6m(h:E3F (jU t)){c:qI}(d:jU c):jU CAZ:=c9g λj f=>by
 rw[EL6 _ λt b=>(h t b).1,b3o,Int.zero_add];refine AK b2X (BK x e) d;rw[LU t b (List.mem_map.mp e)];exact c9h (h t b).2 j
def c2r{xs:AA}{v:V}(h:AHL D3D v):DT5 (-1):=by
 have a:D5D:=by
  have:=DLQ;rw[QN 0x1e504058902a98e2e5]
 unfold atI ixN;rw[YF,CO (bY 0x1888c52460c5c5d),Option.bind_some,AQR (vL AS5 AFP) D3D];exact h
def a6q{R B:Int}(hR:0<=R)(c:0<=B):∀(r v:qI),DX z r (-R<=z/\z<=R)->(DX y v CY3) -> -(ECA)<=E03/\E03<=ECA
 |[],v,_,_=>by
  have:=Int.mul_nonneg (Int.mul_nonneg hR c) (Int.natCast_nonneg v.length);simp only[dot,List.zipWith_nil_left,List.sum_nil];omega
 |z::r,[],_,_=>B19
 |z::r,y::v,d,e=>by
  rw[AE h1 (a6q hR c r v (λq a=>d q jK) (λq a=>e q jK)) f (d z List.mem_cons_self)];have b:=e y List.mem_cons_self;have h:z*y<=R*y:=DXR f.2;have g : -R*y<=z*y:=DXR jQ;have i:R*y<=R*B:=Int.mul_le_mul_of_nonneg_left b.2 hR;rw[Int.neg_mul]at g;rw[a3f,List.length_cons,Int.natCast_succ,Int.mul_add,Int.mul_one];omega
def c7q{c:qI}{B M:Int}(h:E3F (AFX t B))(g:0<=B)(i:c.length=a.length)(d:jU c)(hs:c.sum<=M):RB CAZ (y<=B*M):=λy m=>by
 rw[CGC j k m];have e:=EL6 A6C λt f=>(h t f).1;rw[List.getD_eq_getElem?_getD,List.getElem?_eq_getElem k,b3o,Int.zero_add]at e;have e:(CAZ)[j]=dot C9B c:=e;rw[e];have h1:=b4C (B:=B) C9B c (λx l=>by
  rw[IV t f l];by_cases b:j<t.length
  .exact((h t f).2 _ (c8d b)).2
  .rw[CM List.getD_eq_getElem?_getD (AD0 b) g]) d (CHL i)
 have h2:=Int.mul_le_mul_of_nonneg_left hs g;rw[A8L 0xe7ecd3ec51a8e]
noncomputable def BdS(n:Nat)(B:Int)(qN:LLI):Prop:=DA1/\NF qN (ADD n E0Y)
def NarC.bd{b g i:LLI}{a:qI}{f:Nat}{B:Int}(h:NarC b a f g i)(q:BdS n B b)(G:0<=B)(z:a.length=n)(C:f<=40):BdS n (B*41) i:=by
 obtain⟨F,W,k,w,H,m⟩:=h.wk;obtain⟨A,o,I,d,S,rfl⟩:=h.ex;obtain⟨l,u⟩:=b1g w H m;subst z;have j:dY b (t.length=a.length):=λt p=>(DB t p).1;rw[GN ?_ v J]
 .have h1:=Tab.nodup_le o (g.map (tgl a.length b)) S.nd λr z=>by
   rw[bC s e (QO d r (DRS z))];rw[D1Q (A3L c s)]
  rw[List.length_map]at h1;rw[D5S (λv=>Lst A v) o];exact lq 0x147db29b7dfed421dd0052b0ce8 C l h1 this
 .rw[LU c s (QO d v (QO S.mem v (A48 J)))];obtain⟨h1,h2,E⟩:=u c s;rw[a0D]at h1;rw[AY (b3D j c) (λy D=>⟨c6m (λt p=>⟨j t p,λx K=>((DB t p).2 x K).1⟩) h2 y D,c7q DB G h1 h2 (AU 0x4de8e88eda723920f946917 C E) y D⟩)]
structure Chn(n most:Nat)(rss:LLI)(L:rF):Prop where
 len:L.length=rss.length+1
 hd:∃t,IP L 0 t/\G2 t/\ETG
 nx:GC i Nat row qI DC1 (∃a b cts,DJE/\IP L AO b/\NarC a row most cts b)
def Chn.at{n d:Nat}{rss c:LLI}{L l:rF}(h:Chn n d rss L)(g:Chn n d c l)(hp:GC i Nat k qI (CB c k) (nY k)):r6 l.length (L[i]?=l[i]?)
 |0,_=>by
  obtain⟨t,e,u,pm⟩:=h.hd;obtain⟨t',e',p,j⟩:=g.hd;rw[e,e',U0 u p (pm.symm.nodup (a3P _)) (j.symm.nodup (a3P _)) λv=>pm.mem_iff.trans j.mem_iff.symm]
 |AO,hi=>by
  have f:i<c.length:=by rw[PD g.len 0x465797692280e281737 hi]
  obtain⟨a,b,s,e1,e2,N⟩:=h.nx i _ (A89 hp i f);obtain⟨w,b',q,m,o,r⟩:=A89 g.nx i f;have:=Chn.at h g hp i (eM a2q);rw[WX e1 m this this];rw[e2,o,N.one r]
def Chn.one{a:Nat}{b:rF}(h:Chn n a rss L)(g:Chn n a rss b):L=b:=by
 rw[A4Z i];rw[UX hi b.length]
 .exact h.at g CAQ i hi
 .rw[AZJ (by rw[h.len,<-g.len];exact O2 hi),BHL]
inductive OvB(n most:Nat)(rss:LLI):Prop
 |mk (i row L qN:_) (_:DC1) (_:DU2) (_:DJF) (_:EVW):DOW
def Chn.not{c:Nat}(h:DUH rss):¬BNA c:=by
 rintro⟨i,l,u,t,s,g,m,q⟩;rw[AE hi (NE m) e (h.at g (λj r f=>by
  rw[List.getElem?_take]at f;split at f
  .exact f
  .cases f) i hi)]
 obtain⟨a,b,o,e1,e2,N⟩:=h.nx i l s;rw[e1,m]at e;rw[CP];obtain⟨F,W,k,_,p,d⟩:=N.wk;exact a7n p (v7 b9s) q
def Chn.snoc{c i:Nat}{b g:LLI}{m:qI}(h:DUH CRC)(p:nY m)(v:DJE)(N:NarC a m c g b):Chn n c (rss.take AO) C1T:=by
 have l:=NE p;have o:L.length=AO:=by rw[E1O h.len l]
 have ap:∀{j x},GU L x->BL6 C1T:=λ{j x} e=>wJ (BPA A8K)
 rw[FY (by rw[CV7 List.length_take];rw[DL 0x360b25121b420721e3c7190a988fd7ab9797 l o]) ?_ (DS j r d)]
 .obtain⟨t,e,h1,h2⟩:=h.hd;rw[EF t (ap e) h1 h2]
 .rw[List.getElem?_take]at d;by_cases f:j<i
  .rw[CO (~~~a5O f)]at d;obtain⟨u,b',k,e1,e2,s⟩:=h.nx j r (IG List.getElem?_take (CO f) d);rw[GZ u b' k (ap e1) (ap e2) s]
  .have hj':j<AO:=by
    by_cases q:j<AO
    .exact q
    .rw[AX AI4 d d]
   have e:j=i:= AU 0xa277b67476d5780835296 f hj'
   rw[CK];rw[WX (CO hj') p d d];rw[GZ a b g (ap v) (by rw[<-o,AIN,Nat.sub_self];rfl) N]
noncomputable def Sgs(H:Hp)(ss:AA)(L:rF):Prop:=ss.length=L.length/\GC i Nat x V (OD ss) (∃(a:qE) (zs:AA) (qN:LLI),IW/\A21 zs/\AGL/\DJF)
def Sgs.tk{H H':Hp}{ss:AA}(h:DT4)(k:AML):C9F:=AP1 (OM x (CCD a zs qN (uH x) ⟨a,zs,qN,e1,A6Z k,k.its e3,e4⟩))
def Sgs.snoc{H:Hp}{ss zs:AA}{a:qE}{b:LLI}(h:DT4)(e:A21 zs)(hI:LL zs b):Sgs H (ss++[CC]) C1T:=by
 rw[FT DTX (oA x d)];rw[List.getElem?_append]at d⊢;rw[<-DE];split at d
 .next c=>rw[AD rS (FD i x d)]
 .next c =>
  rw[BC c];have:i-ss.length=0:=by
   rw[C5H (NE d)]
  rw[this]at d⊢;cases d;exact⟨a,zs,b,rfl,e,hI,rfl⟩
noncomputable def BdL(n i:Nat)(L:rF):Prop:=∀j t,GU L t->BdS n (41 ^ j) t
def c9y:∀{i:Nat},i<=6->RV<=41 ^ i/\(BG 41) ^ i<=4750104241:=AI
def b6g(n:Nat)(c:zI){t:LLI}(a:ETG):BdS n 1 t:=by
 rw[GN ?_ v d]
 .rw[a.length_eq];have:HP (V6 (fre n))<=HY fre n:=B6W;rw[WD a0D];rw[UN 0x3ba27a1ff65ea0766 c]
 .rw[IV j hj (List.mem_filter.mp (a.mem_iff.mp d)).1];rw[a0D];rw[FT (S1 n j) (λy b=>HR (a9s n j y b))];unfold S4 at b;rw[C3V yK]
section
variable {P:qG}{w:World}{K:qF}{mg:BJ}{base:Heap}
inductive IspByRows(D:qE)(vs:AA)(H:Hp)(Q:VK)(E:XK):Prop
 |mk (ra:qE) (us:AA) (rss:LLI) (n most:Nat) (wi mi:Int) (_:wY y9 BR2 mi) (_:wi=n) (_:B5M) (_:BX9) (_:PJ) (_:ALK) (_:fO) (_:zI) (_:most<=40) (_:DRB) (_:(∀q ss L H',BP->ABR ss->C9F->CUW rss->DX t L DA2->oR)) (_:B7F DOW):B2E IspByRows
noncomputable def a4Z(D:qE):Sp:=B3T IspByRows
def sc_by_rows:DA ["rows","width","most","stages","row"] (A2X "width") a3t:={}
def b1P{d:qE}(F':HL "by_rows" a3t (A2X "width"))(T:AV)(D:B7Y)(k:CBJ)(m:EM8 d):CCW d:=by
 rw[HZ F'.okE sc_by_rows b7 b5 hr]
 rw[A97 ra us rss n most wi mi]
 .obtain⟨ra,us,rss,n,most,_,_,rfl,rfl,rfl,hra,hI,hul,n1,n2,hmo,hR,kq,ke⟩:=h;rw[BYM];rw[ZG hz 30000]
  rw[CD (kI 3 sc_by_rows.nd E4 (DG (AKL k 177044476 (DG (AKL D 177043692 MU))))
 (C62 (pE AQN 4 sc_by_rows.nd
 (C7S 3 (C5I (C23 m hr.mono b8U (jaC (EIM wO) (EG 4 OV))))))
 (AIA jT)))]
  rw[CCU vP (BH 0x4d5c44b53a3ccfb65 n2) ca Z Z];refine⟨ca,fre n,rfl,Z,F1,IU a0D b2j n2,λp2 zs S H2 s2 e2 a5 a1 a9=>?_⟩;have a2:=s1.trans s2;rw[GN (bQ 1 b9i) l hl];have a7:A46:=a2.free hl;rw[AE R (GR H2 (o:=DD A53) hl) s3 (a2.trans R)];rw[XZ e3 H2 l A53 l A53];have S0:Sgs DN8 A53 [S]:=BI Sgs.snoc ss [] L [] (EQ (iF z tK)) (A6Z R) (a5.same R);generalize DN8=H3 at s3 e3 S0
  rw[A6T]
  refine hZ ra (KS (xF hra));refine YH b4z ra us (RJ σ (Ex3 λ(o4:fG) (ss:AA) (L:rF)=>An6 (σ=[FB ra,DZ n,DZ most,yP,o4]) BP (yX l ss) C9F DU2 (BdL n i L)))
   ⟨none,A53,[S],rfl,s3,e3,S0,cO (OI S a9 a1) (λi r z=>tK),λj t e=>by
    match j,e with
    |0,e=>rw[CP];exact b6g n n2 a1
    |NK,e=>exact AFF⟩ (QT σ (by obtain⟨_,_,_,_,s',_⟩:=h;exact SqT.of (kG hra))) ?_ ?_
  .rintro i x σ H4 hx ⟨o4,ss,L,rfl,s4,e4,hS4,hC,hB⟩;obtain⟨C,a8,J,xa,rfl,b3⟩:=hI.mem hx;have I:i<rss.length:=NE J;have Y:L.length=AO:=by rw[E1O hC.len I]
   have M:ss.length=AO:=OT hS4 Y;rw[C59 y O y (IP ss D3F y) (BH 0xb9bf08f0bfa022b336d6 M)];rw[ER b4 (CB ss y) (cB i D3F 0x1863c0a822fb06b50b73b8be5f2d6 M) O]
   obtain⟨ya,ws,u,rfl,a3,X,G⟩:=hS4.2 i y b4
   rw[A6T]
   rw[AE B (hR C a8) W GE];rw[hX b1 b2 c9y (show i<=6 by exact lq 0x34180881082fffbba31891a7 hul I W)];have p:=hB i u G;have b0:Sm (u.map (dot C)):=λz hz=>by
    rw[IV v U hz];rw[GL h (a6q AI (AA9 (MX<=4750104241)) C v B.2 λy O=>⟨(CCK).1,Int.le_trans (CCK).2 b2⟩) E4I h];omega
   rw[IN (UU (VC e4) ?_) ⟨_,rfl,_,rfl,l,_,_,_,rfl,rfl,EU e4,c2r O,_,rfl,_,rfl,ya,xa,ws,u,C,most,_,rfl,rfl,a3,X,AHH b3,AG B.1 n1,XM B.1,AG X.1 CV,BH 0x6421a1d3a9172f4ce5 hmo,λv U=>⟨KA E4I B.1,λy O=>bM CCK⟩,b0,λq f g fs a4 b8 H5 F hq hf a6 N=>?_,λH5 F ho=>ke H5 BXE ⟨i,C,L,u,J,hC,G,ho⟩⟩];refine⟨q,_,0,_,rfl,rfl,B0G,rfl,?_⟩;have e5:=AH F e4;refine B79 l _ e5 (~~~lq 0x5a385c151da058e2040b139fd6a28f8ff3354cfda9 hul hz I M W);have b6:Tk H5 (EZ H5 l DQW):=Tk.put e5;refine⟨_,DQW,L++[a4],rfl,ID o (A5K (aO e a7) (QD ((BXE)))),A0,((hS4.tk (Tk.same F)).snoc hf a6).tk b6,hC.snoc J G N,A2J j t⟩;rw[List.getElem?_append]at e;split at e
   .exact hB j t e
   .next c =>
    have a0:j-L.length=0:=by
     rw[C5H A8K]
    rw[FH a0];rw[CM (show j=AO by exact lq 0x4e13c057a4ec303ea17eaf83a9c4dc12a32bf10ed7 Y c a0) Int.pow_succ (N.bd p AF B.1 hmo)]
  .rintro σ H4 ⟨o4,ss,L,rfl,s4,e4,hS4,hC,hB⟩;refine IQ rfl l _ rfl (C42 e4);rw[lB F H4 ss hq];rw[bO GE hC];exact kq q ss L _ BXE A0 (hS4.tk (Tk.same F)) hC λt ht=>by
    rw[lG j hj ht];exact(hB j t hj).1
#where
#where
section
variable {a rss:LLI}{cs:AS}{m:Nat}
noncomputable def Tdc(rss:LLI)(cs:AS)(m:Nat)(qN:LLI):Prop:=∃F W k,lI/\ARZ m/\BXD/\xS
def Tdc.one{e b:LLI}{m':Nat}(h:ADX e)(h':Tdc rss cs m' b):e=b:=by
 rw[VN F W k g o c f];obtain⟨l,n,k',i,j,a,d⟩:=h';rw[MK rfl (b1f g i)];exact U0 f d (c.symm.nodup g.nd.2) (a.symm.nodup g.nd.2) λv=>c.mem_iff.trans a.mem_iff.symm
def Tdc.not(h:BZN):¬ATX (PN m):=by
 obtain⟨F,W,k,c,b,_⟩:=h;exact a7n c (~~~b9s b)
def Tdc.mono{m':Nat}(h:BZN)(c:m<=m'):Tdc rss cs m' a:=by
 obtain⟨F,W,k,d,b,q⟩:=h;rw[GZ F W k d (~~~a3C c b) q]
noncomputable def Lim(rss:LLI)(cs:AS)(m:Nat):Prop:=∀F W k,lI->ARZ m->A37 W.length
def Lim.few(h:BUW):C27:=A9D q (D7G q)
def Tdc.lim{m':Nat}(h:BZN)(d:BUW):DK0:=λf g k' b _=>by
 obtain⟨F,W,k,e,c,_⟩:=h;rw[AYY (b1f e b)];rw[DL 0x66b7701d3f49d3d87000ace6 d c]
noncomputable def Fw(n:Nat)(qN:LLI):Prop:=A37 qN.length/\NF qN (ADD n (AFX v 901))
def Tdc.fw{d:LLI}(h:ADX d)(j:C27):Fw cs.length d:=by
 obtain⟨F,W,k,g,i,e,_⟩:=h;rw[NG (b1g e g (j F W k g i))];rw[GN h1 v l];obtain⟨a,b,c⟩:=h2 v l;rw[AY a (λx f=>⟨b x f,by rw[PD (b8I b x f) 0x2cb36a012f44d38cac16b33ae932 c]⟩)]
noncomputable def sdS(rss:LLI)(ss:qI):LLI:=BE3 (λr s=>DS8) rss ss
def c2Q{ss:qI}(h:C4Y):IS sdS rss ss=rss.length:=by rw[eW sdS List.length_zipWith h Nat.min_self]
def c2P{ss:qI}{x:qI}(h:x∈eF):∃r s,wW/\s∈ss/\x=DS8:=by
 rw[C8P];unfold sdS at hi⊢;rw[List.length_zipWith]at hi;rw[List.getElem_zipWith];exact bD _ (E26 b4b) (E26 b2F) rfl
noncomputable def sdC(n:Nat):AS:=BCJ none++[uI]
def V8(n:Nat):HY sdC n=CS:=IF sdC
def c4o{v:qI}{n:Nat}(h:DEY):∃u t,v=u++[t]/\u.length=n:=by
 rw[GA (v.take n) (v.getD n 0) ?_ (DLK 0x5cd708d33031bb8db2d6)];rw[A4Z j];rw[List.getElem?_append,List.length_take,BIW (bZ 909891649188566)];split
 .rw[List.getElem?_take,iO (by assumption)]
 .rw[GD j n]
  .rw[CK];rw[Nat.sub_self,List.getD_eq_getElem?_getD,OG (bZ 909905142117078)];rfl
  .rw[NY List.getElem?_eq_none,AZJ (by simp;omega)]
def c2d(ys:qI)(h:0<ys.length):E93 BGT=ys.dropLast.map V.int:=by
 rw[E69 BLA BLA (by
  rw[AYU];rw[ESO (BG ys.length) ys.length])]
 rw[e,HT.sIx_none,List.drop_zero,Nat.sub_zero,<-List.map_take,List.dropLast_eq_take]
section
variable {P:qG}{w:World}{K:qF}{mg:BJ}{base:Heap}
def c9x{caps:L2.St}{u v:V}:Sub CIA (BQT::WI RX):=(EQ (λj x e=>by
 match j,e with
 |0,e=>rw[CP]
 |1,e=>rw[CP]
 |j+2,e=>exact e))
inductive IspSided(vs:AA)(H:Hp)(Q:VK)(E:XK):Prop
 |mk (ra sa:qE) (us:AA) (rss:LLI) (ss:qI) (_:QA y9 D1V) (_:BX9) (_:PJ) (_:kZ) (_:BYG) (_:C4Y) (_:DSV) (_:B9S eF):GK IspSided
noncomputable def b3L:Sp:=HH IspSided
def b7q:lJ "rows" "sides" "rows" "sides" a8i:={}
def b8u(F:XU "sided" a8i "rows" "sides")(T:AV):ESA:=by
 rw[BV b7q u t I]
 rw[AMO ra sa x0]
 .obtain⟨ra,sa,us,rss,ss,rfl,hra,hI,hul,hrl,hsl,hsa,kk⟩:=h;rw[YR n]
  rw[GF (bP (BIA "row" "side"
 (wB CV4 CV4)) (D4 a4M 0 (Q5 (DG (a0b (jv 1))))))]
  refine AT4 ra sa hra hsa;refine BI V3 xs us zs (cN ss.map) (DYK n) (fA (B1Z EP9)) (AAW Its.nil) (ARX ys ⟨zZ hra,zZ hsa,by rw[YD];unfold sdS;rw[F2 List.length_zipWith List.length_take lq 0x346f103b6b388e88ed7]⟩) ?_ ?_
  .rintro i x z ys H1 p hx hz' ⟨s1,hy⟩ hp;obtain⟨r,k,a,g,rfl,m⟩:=hI.mem hx;rw[mD sz l R8 hz'];rw[AE b (hrl r k) s2 (GR H1 (o:=APX g BGL) hp)];refine A3W p E2U A0 AZC [BQ sz] BGL [];generalize AG3 p E2U=H2 at s2;rw[HS c9x];refine A6L _ rfl (BYV n) (A42 B);rw[HW d s2.upd (JM [BQ (-sz)]) j];refine t7 g B (AFO D75 m) A0 (by rw[AYU];show AIS;rw[DL 0xbd9ec586179b634a30ae923ce n b]) (BT C G D v);have c:=d.trans D;rw[HS (s1.trans c)];have e:sdS (rss.take AO) (ss.take AO)=EP9++[r++[-sz]]:=by
    have h1:=DLP;unfold sdS;rw[List.take_add_one,List.take_add_one,a,l,List.zipWith_append (by rw[List.length_take,List.length_take];rw[DN 0x376d637b38a4fa5af07f10ecf9ad2d7b22236f8957 hsl])];rfl
   rw[e];exact(hy.same c).snoc (EW C (BKD v))
  .rintro ys H1 ⟨s1,hy⟩ p hp;rw[List.length_map,GE,hsl,Nat.min_self,List.take_length,<-hsl,List.take_length]at hy;rw[B4L dH hp];rw[F0C p y d hp y D75 (hy.same d)]
inductive IspSidedCaps(vs:AA)(H:Hp)(Q:VK)(E:XK):Prop
 |mk (n:Nat) (wi:Int) (_:QB BR2) (_:wi=n) (_:fO) (_:dN n) (_:AAJ q (aP q (gH (HM sdC n) cV)) oR):GK IspSidedCaps
noncomputable def a4a:Sp:=HH IspSidedCaps
def a6F:C7H a0k:={}
def a6L(F:BW7 "sided_caps" a0k)(T:AV)(a:B7Y):EK7:=by
 rw[BV a6F g c j]
 rw[QW n wi]
 .obtain⟨n,_,rfl,rfl,h1,h2,kk⟩:=h;rw[YR d]
  rw[GF (a4M (BXT j.mono) (Q5 XA))];rw[CCU vP (~~~b9q h2) p e1 e1];rw[GN (BYV d) p2 b];rw[lB s2 H1 [BQ 1] b];refine t7 p p2 AJ8 A0 (by rw[AFG List.length_replicate];show AIS;rw[DL 0x3e1f870b5a281cfcc60e866 h2 d]) (BT k e l i);exact kk k e (CO3 l) (by rw[i];rw[BX1 sdC])
noncomputable def a3e(t:Int)(qN:LLI):LLI:=FQ (qN.filter λv=>CJ (v.getLast?=some t)) List.dropLast
inductive IspEnding(vs:AA)(H:Hp)(Q:VK)(E:XK):Prop
 |mk (p:qE) (us:AA) (qN:LLI) (n:Nat) (t:Int) (_:w5 (BQ t)) (_:ABE p) (_:BYS) (_:kZ) (_:YQ) (_:(SZ qN DEY)) (_:B9S (a3e t qN)):GK IspEnding
noncomputable def a9F:Sp:=HH IspEnding
def b5i:lJ "some" "last" "some" "last" a5m:={}
def b5G(F:XU "ending" a5m "some" "last")(T:AV):ESB:=by
 rw[BV b5i y m G]
 rw[ART p us qN n t]
 .obtain⟨p,us,qN,n,t,rfl,hp,hI,hul,hn,hl,kk⟩:=h;rw[YR C]
  rw[GF (gY (gO (C4C "last"
 (A7I "last")) (PP (a2w (G8 (C9 K EO (a0b A6)) (jv 1)))) (PP (C3E J3 C8M))))]
  refine hZ p (KS hp);refine O6 (xs:=us) (DYK C) (RJ ys (BP/\B1Z EJM/\ATQ)) ⟨mP,Its.nil,BO⟩ (QT ys ⟨zZ hp,wI⟩) ?_ ?_
  .rintro i x ys H1 hx ⟨s1,hy,hyl⟩;obtain⟨r,g,j,v,rfl,l⟩:=hI.mem hx;have k:=hl r g;obtain⟨u,z,rfl,I⟩:=c4o (n:=n) k;have a:=JU l;have c:BZS CVJ (-1)=DZ z:=c2r (by rw[List.length_map,List.length_append,List.map_append,SE List.getElem?_append_right];simp);have e:a3e t (qN.take AO)=EJM++(AR5 (z=t) [u]):=by
    unfold a3e;rw[List.take_add_one,j,List.filter_append,List.map_append];congr 1;rw[GD z t]
    .rw[NL];simp[e]
    .rw[IX];simp[e]
   rw[e];rw[BUN];refine⟨_,rfl,_,rfl,v,_,_,_,rfl,rfl,D2U,c,_,rfl,rfl,_,rfl,nS⟩
   .rw[SF e' z t e]
    rw[CO e'];refine⟨_,rfl,_,rfl,_,rfl,v,_,rfl,D2U,?_,AHN D⟩
    .rw[show CU7 DCW DCW=u.length by
      rw[DGW];rw[ESO (EA BQE) BQE]]
     rw[DGW];show ¬(_/\u.length=BQE);omega
    rw[c2d _ AJ,List.dropLast_concat];rw[MO b H1 (UB u.map) d];rw[BA D3S ((hy.same b).snoc (EW D A0)) BPJ]
   .rw[MA e' (¬z=t) e]
    rw[BPO D4E];rw[BA s1 hy (AHK hyl)]
  .rintro ys H1 ⟨s1,hy,_⟩ p1 hp1;rw[bO GE hy];rw[F0C p1 B b hp1 B D3S (hy.same b)]
inductive IspBeyond(D:qE)(vs:AA)(H:Hp)(Q:VK)(E:XK):Prop
 |mk (ra sa:qE) (us:AA) (rss:LLI) (n most:Nat) (ss:qI) (wi mi:Int) (_:vs=[y9,D1V,BR2,BQ mi]) (_:wi=n) (_:B5M) (_:BX9) (_:PJ) (_:ALK) (_:DRB) (_:fO) (_:zI) (_:most<=2000) (_:C4Y) (_:Bds ss) (_:DSV) (_:EGR Lim) (_:(∀(q t b pp:qE) (zs ys:AA) (qN:LLI) (H':Hp),BP->ABR [II,F0,AVF]->E24->ABS ECI->cZ b ys->B1Z E33->EF6 qN->oR)) (_:B7F (EGR Over)):B2E IspBeyond
noncomputable def a5a(D:qE):Sp:=B3T IspBeyond
def sc_beyond:DA ["rows","sides","width","most","walk"] BIR a5n:={}
def b5H{a:qE}(F':HL "beyond" a5n BIR)(T:AV)(e:ESA)(b:EK7)(c:ESB)(d:AN6 a):CBX a:=by
 rw[HZ F'.okE sc_beyond a2 a0 G]
 .obtain⟨ra,sa,us,rss,n,most,x0,wi,mi,rfl,_⟩:=h;rfl
 .obtain⟨ra,sa,us,rss,n,most,ss,_,_,rfl,rfl,rfl,hRe,hRI,hRl,hR,n1,n8,hmo,hsl,hsb,hsa,hLm,kq,ke⟩:=h;rw[YR hz]
  rw[CD (CQ 4 sc_beyond.nd (C23 d G.mono b1X (UO (KR e G.mono jC) (B2W G.mono b1Y OV) jT))
 (SG Q5 (UO DRP DRP BX5)))]
  rw[IN ⟨_,rfl,_,rfl,ra,sa,us,rss,ss,rfl,hRe,hRI,~~~b2b hRl,λr l=>IU (BQW l) a1d n8,hsl,hsa,DT q1 z1 H1 s1 e1 y⟩ ⟨_,rfl,n,_,rfl,rfl,n1,~~~b2j n8,BT c2 H2 s2 e2⟩];have J:=s1.trans s2;have Y:SyAt H2 q1 c2 eF (sdC n):=⟨⟨z1,AJ8,y.same s2,by rw[bN,c2Q hsl,<-hRI.1];exact b2b hRl⟩,e2,IU V8 lq 769280509789,A71 V8 87696555759999845 n8,λr l=>by
   obtain⟨x,sz,hx,X,rfl⟩:=c2P l;rw[GN (CMS (DH3).1 V8) z hz];rw[XW (A5I hz)]
   .have:=(DH3).2 z q;omega
   .rw[B24];have:=hsb sz X;rw[oJ topN];omega⟩
  have F:BHB CS<=2001*9:=Nat.mul_le_mul (~~~b9w hmo) (BH 0x2144658f78039b65 n8);refine⟨_,rfl,q1,c2,eF,CRI,most,_,rfl,rfl,Y,A71 V8 0x14bcb5b27dc9c72f5732f6416e09876a5 F,λq t pp zs j ws Fl W k H3 s3 U ht g S V a4 a3 hW D=>?_,λH3 s3 O=>ke H3 (J.trans s3) O⟩;have a1:=J.trans s3;have B:EF6 j:=⟨Fl,W,k,hW,D,S,V⟩;have u:=B.fw hLm;rw[V8]at u;obtain⟨I,C⟩:=u;rw[DQ ⟨_,rfl,q,_,0,II,rfl,rfl,FU U,rfl,t,zs,j,n,1,rfl,ht,g,EI5,DLI,EP0,DT b4 z4 H4 p e4 M⟩];rw[IN ⟨_,rfl,q,_,0,II,rfl,rfl,nB p U,rfl,t,zs,j,n,0,rfl,AH p ht,g.same p,EI5,DLI,EP0,DT b5 z5 H5 s5 e5 N⟩ ⟨_,rfl,q,_,1,AVF,rfl,rfl,nB ((p.trans s5)) U,rfl,A8P 3 0x226d156eeb7523cd,BK p6 R⟩];rw[AE m (GR H5 (o:=JM [AM b4,AM b5,AVF]) R) L (s5.trans m)];have a5:=p.trans L;exact kq p6 b4 b5 pp z4 z5 j _ (D84 p L) A0 (AH L e4) (M.same L) (AH m e5) (N.same m) B
def a3d{n:Nat}{t:Int}(h:Fw CS a):Fw n (a3e t a):=by
 unfold a3e;rw[GN (OQ (dZ bF DE)) v c];rw[IV u b c];rw[NG (FD u DH1)];rw[AY (QF List.length_dropLast h1) (λx d=>h2 x ((List.dropLast_sublist u).subset d))]
#where
noncomputable def c9u(xs:qI):Prop:=kJ (BAM 1000000000000)
noncomputable def N2(ps:qI)(rss:LLI):LLI:=ASM EHR
def b1F{ps:qI}:IS N2 ps rss=rss.length:=AYQ N2 List.length_map
noncomputable def BsP(rows:LLI):OX C5P
 |none=>CRN
 |AZO=>(DWG)∈rows/\∀r'∈rows,jM r' DWG
def BsP.one{rows:LLI}:∀{a b:C5P},BsP rows a->BsP rows b->a=b
 |none,none,_,_=>rfl
 |none,AZO,h,g=>BPI (D1A h) g (nomatch YA)
 |AZO,none,h,g=>by rw[D1A g]at h;exact nomatch DE
 |AQ (n,t),AQ (m,u),h,g=>by
  have e:=N4 DAT (m::u) (g.2 _ DE) (FD _ YA);rw[ALH]
  rw[A6E]
noncomputable def c9U(H:Hp)(v:V)(rows:LLI):Prop:=(BsP rows none/\v=.non)∨B9N t q (B2C/\DMD/\DJS/\E2H rows)
section
variable {P:qG}{w:World}{K:qF}{mg:BJ}{base:Heap}
inductive spCheapest(vs:AA)(H:Hp)(Q:VK)(y_3:XK):Prop
 |mk (t:qE) (pv:V) (us:AA) (rss:LLI) (ps:qI) (_:QA II pv) (_:B3D) (_:PJ) (_:BXF) (_:ZQ pv ps) (_:dN ps.length) (_:AQ7 (c9u r)) (_:AQB (c9U H' v (N2 ps rss))):JD spCheapest
def a9N:lJ "told" "prices" "told" "prices" a2i:={}
def b0h(F:XU "cheapest" a2i "told" "prices")(T:AV)(b:EKY):CCS:=by
 rw[BV a9N D u B]
 rw[AMO t pv ps]
 .obtain⟨t,_,us,rss,ps,rfl,ht,hI,hl,⟨pa,rfl,hp⟩,hpl,hR,k⟩:=h;have I:=B.u60;rw[YR g]
  rw[CD (SG (c4v K I rfl T.b_min) (WO (C4C "prices"
 (A7I "prices")) (Q5 (jaC (B2W B.mono a3z zL) WL))))]
  refine hZ t (KS ht);refine O6 (xs:=us) (AU 0x6cb974c83285dedc36ecace6 hl g) (fA (PrI K H' ys EJL)) (AAW E09) (λi ys H' hi h=>AR6 (zZ ht) YD b1F uL) ?_ ?_
  .rintro i x ys H1 hx ⟨s1,hy⟩;rw[DR r c m p hI.mem hx];rw[GV C d p];have j:=hR r c;rw[BUN];rw[IN (B61 _ _ ps r (EW pa AIK) (BU1 C d) (AC2 hpl) ((EJV j)) A6I) (zQ (DRM g) L l)];rw[AI6 y (JM [.int (dot ps r),OK]) l];rw[HS D5J];have e:N2 ps (rss.take AO)=EJL++[EHR]:=by
    unfold N2;rw[BM5 m]
   rw[e];exact DQ8 y A0 (AFO D5J d)
  .rintro ys H1 ⟨s1,hy⟩ p1 hp1;rw[bO GE hy];rw[B54 dH hp1];refine aB p1 ys _ mJ D6Y A9U (DT v r J c ex G)
   .exact AK k jV (EL (IC e))
   .obtain⟨n,t',q,a,e1,e2,e3,e4⟩:=ex;exact AK k jV (DP ⟨n,t',q,a,e2,e3,e4,(show BsP _ (AQ (n,t'))from⟨e1 ▸ c,e1 ▸ G⟩)⟩)
def c2V:AGP "prices" "prices" b1D:={}
def c3U(F:A4T "cost" b1D "prices")(T:AV)(a:B8Z):EKY:=by
 rw[AM4 c2V]
 rw[B95]
 .obtain⟨x,y,xs,ys,rfl,hx,hy,hl,hs,k⟩:=h;rw[GF (vO d.mono jC)];exact B61 x y xs ys hx hy hl hs k
#where
#where
universe K50
namespace L2
open PySem PySem.Spec PyProof.Rows
noncomputable def c6k(C:qE)(m:Str)(sp:Sp)(ta:TE)(t:TA):TX:=BIQ (cR ta x (∃a dx fs,IW/\C3M/\C3D/\VJ t vs (sp CSF H2 (λv H3=>D.rt v H3) λc _ H'=>∃C',LH c C'/\R σ C' H')))
def c4r{X:Cx}{C:qE}{m:Str}{k:Nat}{ps:AC}{sp:Sp}{o e:Expr}{es:BN}{ta:TE}{t:TA}{qO qM pos:Pos}{pl:A00}(O:CZY MethOkE)(c:t5)(hr:QU)(he:B10)(Z:ET)(i:t9:=by rw[AM9])
  (y:CI:=by rfl) (w:L1:=by rfl)
  (ht:QY (A2M m)=(do
   let ov <-eval o X.env
   standAt qO.atName
   let (f,first) <-holding [ov] (getMethod ov m pl)
   callWith qM f first (backTo qM (starEach (e::es) X.env)) (backToKw qM (keywordEach [] X.env))):=by rfl) :
  JX X [CXJ (A2M m)] (c6k C m sp ta t):=by
 refine⟨F2X⟩;obtain⟨f,fd,G,hb,F⟩:=O.ex;rw[cW wpAny_execs_cons wpAny_Return_some];refine PySem.W.methodCall_KW (pl:=pl) (pT (UH he.h) (DS u s1 A) i) ht;rw[D0A E rx N A];rw[CCT rx E N G];rw[EZ6 G.kp (pT (AY7 Z.h qM E q) (DS j s2 A) i) y w];rw[A5M vs b r J A];rw[HS b.kIn];have K:ML (D2W::vs) DWI:=DN3;rw[BIJ hl (HP DWI) K.length J]
 rw[B6R d (hb s2 DKW b.kIn DG5) d (F.run X.A X.stack s2 H2 (JY DKW) _ _ _ _ hr b.env0 d K J) g];cases r with
 |error e =>
  rw[B9W P Q S T U W Y n g];cases Y;exact⟨σ,H2,s2,p,C,H',B,a0,h1,b,h2,P,Q,S,T,U,W,n⟩
 |ok fl =>
  cases fl with
  |ret u =>
   obtain⟨v,L,M,rv,q3⟩:=b.after g;rw[GZ v σ L M rv q3]
  |next=>rw[HU g]
  |brk=>rw[HU g]
  |cont=>rw[HU g]
section
variable {M:Model}{A:Around}{E:qH}
def a6m{nm q s K:Str}{C N D x:qE}{bs bm n b:AN}{hdct i:Bool}{sn u:AC}{sub l:AN}{ab m:Bool}{col j:vI}{dd o:IM}{k0 k1 k2 k3 k5 F G H I J:U3}{qR a:String}
  {h:Heap}{g:wN}{d:Drawn}{t:Nat}{os:OsState}{e:qE}{w:Obj}{Q:fM}
  (y:E4S) (v:kF D (AQF s K D x n b i u l m j o F G H I J a)) (z:kF e w) (k:LH w.cls C)
  (c:A4F b.contains) (r:EOY) (B:Q false BNK):EF8 (AM D):=by
 have p:A4F (AGU (Value.ref D) b):=by rw[DWN c]
 rw[E50]
 repeat (first | rw[DO9 z k]|rw[DXI v] | rw[DOA v p] | rw[DOA y r]|wp_step)
 exact B
#where
structure ClsN(K:qF)(D C:qE):Prop where
 d:ECT
 ex:F5Y EOY
noncomputable def c8L(D C:qE)(tx:TX)(ts tu:TS):TS:=E3O (λσ1 c H'=>(c=D/\CCM ts c)∨(c=C/\CCM tu c))
def c4u{X:Cx}{K:qF}{body:IY}{tx:TX}{ts tu:TS}{G J:Str}{np y nq A pos:Pos}{b0 b1:Stmt}{g i:IY}{D C:qE}(hN:ClsN K D C)(hx:ECM)
  (hg:OC Gl) (hm:A65 G D) (V:JQ J) (W:A65 J C)
  (Z:B8G JB b0 g ts) (a1:B8G JB b1 i tu) (hK:AT:=by rfl) (t:C2W:=by rfl) (U:B6H:=by rfl) (hd:A9V G:=by decide) (S:A9V J:=by decide) :
  JS X (CCY [C8I (AQ (.Name G np)) b0 g y,C8I (AQ (.Name J nq)) b1 i A]) (c8L D C tx ts tu):=by
 subst hK;refine⟨lQ N h ?_⟩;refine wpAny_Try_except (EWA hx.h N)
 .cases f with
  |next=>rw[AZB q]
  |brk=>exact q
  |cont=>exact q
  |ret v=>exact q
 .obtain⟨σ1,H1,s1,p,c,H',B,a0,rfl,I1,hos,hbare,hU,hok,hp,fl,cov,k⟩:=q;rw[AE P DAE w fl];rw[t]at w;refine ER9 t U w λh4 o a2=>?_;refine NW wpAny_landsW o h5 d j;rw[<-t]at d;have j:=a2.trans j;have l:E4J h5:=DKN P cov d.1 j;obtain⟨oe,r,n⟩:=d.there;obtain⟨b3,q',a6,a9,a8,T,b4,a5,a7,a3,b2,j0,j1,j2,j3,j5,M,F,x,_⟩:=hN.d.ex;obtain⟨nm,qq,NN,bs,bm,a4,sn,sub,ab,col,dd,k0,k1,k2,k3,k5,qR,E,R,Y⟩:=hN.ex;rcases k with⟨rfl,k⟩|⟨rfl,k⟩
  .rw[F4U hg hm hd DLF x Z];cases f with
   |next=>rw[A93]
   |brk=>rw[A93]
   |cont=>rw[A93]
   |ret v=>rw[CEK b b.unheld]
  .rw[CXC hg hm hd];refine a6m DLG DLF r n x Y ?_;rw[F4U V W S DLG R a1];cases f with
   |next=>rw[A93]
   |brk=>rw[A93]
   |cont=>rw[A93]
   |ret v=>rw[CEK b b.unheld]
universe L2
namespace K50
open PySem PySem.Spec PyProof.Rows L2
section
variable {H:Hp}{Q:VK}{a:LLI}{n:Nat}{x:Str}
section
variable {P:qG}{w:World}{K:qF}{mg:BJ}{base:Heap}
def a2O{x:Int}(a:C9L)(q:Q C6B H):rStrI [BQ x] H Q:=by
 rw[LV n rfl (YK n (x=n)) x.toNat AF];rw[EF n rfl (D9P (AFJ (n<AEM))) q]
def c8J{i:Nat}{σ:L2.St}{a:qE}{xs:qI}(hσ:DG7)(e:D8M)(d:B26)(f:B3Y)(k:EA8):sS (tBM K "str" BUI (tC (XC " "))) (a2H (a7a [none] (c4P K (tVar i)) (B0 0) S6 (tCB rStrI (CAK 0))) X0):=by
 rw[YR h]
 rw[ER c (QH xs.map V.int 8) List.length_map f]
 refine⟨rfl,_,hσ,a,rfl,eX (SqT.of e),?_⟩;rw[EX (xX S5 nG xs (λx=>A1F C6 x) (AU 0xb8e24a012d7972923ce h c) qW (bA e) rfl (A0J H1 m g b s1)) H1 p s1 j]
 .rw[xQ b g g];exact DK (a2O (A7Q d b) bR)
 .have hB:AIL ARJ 60:=λy l=>E6J l (d x b)
  have h2:=a7P d f;refine⟨bk,p,ARJ,60,rfl,rfl,BOK,hB,?_,by show DJJ<=_;rw[DL 0x236351960173c0f2e923ce h h2],k _ (s1.upd j)⟩;rw[ATZ AF0]
inductive spShowV(vs:AA)(H:Hp)(Q:VK)(y_3:XK):Prop
 |mk (v:V) (xs:qI) (_:QB v) (_:ZQ v xs) (_:B26) (_:B3Y) (_:EA8):JD spShowV
def a5c:UZ ["one"] "one" X2:={}
def a5B(F:SO "show_vector" X2 "one")(T:AV):C8A:=by
 rw[AM4 a5c]
 rw[QW v xs]
 .rw[F4W (B35 "number"
 BWO)]
  rw[EZB]
def atc{x:V}{xs:AA}:UY atI IO 0 x:=B91
inductive spFill(vs:AA)(H:Hp)(Q:VK)(y_3:XK):Prop
 |mk (x y:Str) (_:QA QR BSO) (_:A4X (DWR (x=wd ""))):JD spFill
def b5h:lJ "text" "empty" "text" "empty" a5l:={}
def b5F(F:XU "filled" a5l "text" "empty")(T:AV):ESC:=by
 rw[BV b5h b a c]
 rw[QW x y]
 .rw[SK x y rfl k];rw[EM7 (BVH G8) jv 0]
  .rw[CO (DA3 V.str.inj)]at k;exact DK k
  .rw[AII C8L]at k;exact DK k
noncomputable abbrev semi:Str:=KO "; "
def a2U:EDE (CMC 488) semi 490
 |[],_=>F1
 |SW,h=>by
  rw[EQ3 490]
 |rQ,h=>by
  rw[AE h1 A54 a (E46 (a2U (ys:=iD)))];rw[a0A,C3,C3,CB0];rw[D1J a];rw[DL 0x24632b6fb253e28127f504f90df83576d51268e7 h1 a]
noncomputable def vts(qN:LLI):Str:=D12 (qN=[]) (E4H qN.map)
def Fw.sz(h:B5S)(c:zI):NF a (Sz v/\v.length<=8):=λv d=>by
 rw[NG (FD v d)];rw[AY (λx b=>DIX DLU DLU) (yQ 0x465794ac2afdbb58766 h1)]
def Fw.len(h:B5S)(b:zI):AIL (a.map vt) 488:=λy d=>by
 rw[IV v c d];rw[NG (h.sz b v c)];exact a7P h1 h2
def a4D(h:B5S)(b:zI):QH vts a 441000:=by
 rw[bW vts]
 .decide
 .rw[AG1 (a2U (h.len b))];rw[QE DE]
def b0J(n:Nat):1<=BZX:=by
 rw[QS (List.length_pos_iff.mpr (a3c n)) Array.length_toList]
def c6h{xs:qI}(h:1<=xs.length):1<=DJJ:=by
 match xs,h with
 |SW,_=>exact b0J _
 |rQ,_ =>
  show 1<=A4D (nP::C6 y::r.map C6);rw[a0A,C3,C3];have:=b0J x.toNat;show 1<=DGF+_+_;rw[QN 0x11029f82af063cb4b1166f]
def c1q{r:AC}(h:D64):BKA A78≠wd "":=λz=>by
 rw[AQ1 Str.length z];cases r with
 |nil =>
  change x.length=0 at this;omega
 |cons y r =>
  rw[a0A,C3,C3]at this;change _+_+_=0 at this;rw[UN 0x23c284c4ac74bfe4b493e6f h]
inductive spSVs(vs:AA)(H:Hp)(Q:VK)(y_3:XK):Prop
 |mk (t:qE) (us:AA) (qN:LLI) (n:Nat) (_:QB II) (_:B3D) (_:BYS) (_:Fw n qN) (_:fO) (_:zI) (_:BKB vts qN):JD spSVs
def a4l:UZ ["some"] "some" T3:={}
def a4r(F:SO "show_vectors" T3 "some")(T:AV)(b:ESC)(a:C8A):EAZ:=by
 rw[BV a4l j d g]
 rw[bK t us qN n]
 .rw[F5H B]
  rw[ER u BXF GE AH7]
  rw[GF (kL g.mono (jaC (A6G (WO (B35 "one"
 (eD "one")) (BXT g.mono))) YC))]
  refine⟨rfl,_,rfl,t,rfl,KS ht,?_⟩;rw[EX (EYJ y x) H1 p s1 m]
  rw[EZT x]
  .rw[AE hB (hF.len n7) l (a2U hB)];rw[B1A z AH7 l];refine⟨semi,p,DPT,488,rfl,rfl,BOK,hB,CQE CB0,AF,_,_,rfl,?_⟩;have:=k _ (s1.upd (o:=DD CO9) m);rw[oJ vts];cases qN with
   |nil=>rw[UI]
   |cons v r =>
    rw[WD xM];have e:¬E4H (FQ (v::r))=wd "":=c1q (c6h (AG (jZ hF.2 List.mem_cons_self) n1));rw[AD IX this]
noncomputable def Ls4:AC:=[KO "least",KO "beyond",KO "cheapest",KO "rows"]
inductive spIsL(vs:AA)(H:Hp)(Q:VK)(y_3:XK):Prop
 |mk (x:Str) (l:qE) (m:Int) (n:Int) (_:wY QR HQ n) (_:ZR l [DI m]) (_:B1G) (_:AG8) (_:BZJ):JD spIsL
def b1x:DA AXY AXY a3s:={}
def c7s(h:B1G):B57 "way"/\B57 "lay"/\AW (inV (.str x) AW6):=by
 have:RB Ls4 (BFH y "way"/\BFH y "lay"/\AW (inV (.str y) AW6)):=FV
 exact this x h
def b1O{j:Tok}{d:qE}(F:HL "is_line" a3s AXY)(T:AV)(b:uZ "LISTS" d)(c:DWX d)(a:D2 mg "GREATEST_MOST" (WE 2000 j)):EN0:=by
 rw[BV b1x g e o]
 rw[bK x l m n]
 .obtain⟨x,l,m,n,rfl,hl,hx,hm,k⟩:=h;rw[BX h1 h2 i c7s hx];refine⟨_,  (A1 (APS 0
 (GS (a1l eU (jv 2)))
 B4)
 (A1 (APS 0
 (GS (A8J (a1l eU (D4 O3 2 A6)) ECH))
 B4)
 (GS (a4f (c7H K EO (a0B (v:=A4M) rfl b rfl) CG) (A8J (a1l eU A6) ECH))))),?_⟩
  rw[C46 h1];rw[h2];rw[QI (EE4 d (lT c _) FV)];rw[YF,i];rw[cA (E2 (B9J l BW8 (E2 ⟨_,rfl,l,_,_,AHO,rfl,rfl,AOQ,atc,_,_,rfl,rfl,?_⟩)))];show Q (A4A AG8) _;rw[AD DBU (k _ A24)]
def c1Q{α:Type}(x:α)(b:Bool):XL ((ZO C2K)) SW=AR5 vQ SW:=by
 cases b<;>rfl
def b6X{i:Nat}{σ:L2.St}{l:qE}{ts:AC}(hσ:CB σ yP)(n:DGE)(q:DCS)(k:DKI (BC3 (BJ8 SW ts))):tOp rCat ACP (tOp rRep (b4W (a2H C6F X0)) (tCB c6A (a2H (ECQ B48 ACP) X0))) σ H Q:=by
 rw[lA r]
 refine GT hσ C3Y (λp1 e=>GT hσ F1 (jI p2));rw[AE s1 (GR H (o:=DD APQ) e) s2 (s1.upd (o:=UP) a)];have e1:upd CTV p2 UP p1=BU .lst APQ:=S3 A0 a;have m:C6W E7H HQ p2 D44:=CD3 EqV.strs (BRL n);rw[A6U E7H s2 e1 m];have s:∀b:Bool,0<=(C2K)/\(C2K)<=1:=by decide
 rw[eR w (ANN s uN)];rw[DO ⟨1,_,AI,m,A25 _,DP ⟨D44,rfl,p1,_,_,rfl,rfl,e1,AF,AF,wC (1*_<=_),BK d f⟩⟩ c1Q];rw[AI6 h (DD AY9) f];rw[XZ j H2 d AY9 d AY9];generalize iW d AY9=u at h j;refine t7 l d (AH h n) j ?_ (λt g=>k t _ (h.upd g) ?_)
 .rw[AYU];split
  .show AIS;rw[DL 0x246a5b19903e8f276621c88cace6 q r]
  .show _+0<=_;rw[DL 0x6f508191006fdc62fbd521c88cace6 q r]
 .rw[jX A0 c ts []]
  .rw[rS,if_pos (decide_eq_true c),c];rfl
  .rw[yS,LK (by simpa using c),List.append_nil]
inductive spLst(vs:AA)(H:Hp)(Q:VK)(y_3:XK):Prop
 |mk (l:qE) (ts:AC) (_:QA HQ (xA semi)) (_:DGE) (_:DCS) (_:AEV DPU) (_:AJM (D12 uN DMO)):JD spLst
def a5e:lJ "_law_texts" "_law_between" "_law_texts" "_law_between" X9:={}
def b5E(F:XU "_law_listed" X9 "_law_texts" "_law_between")(T:AV):ESD:=by
 rw[BV a5e c b g]
 rw[QW l ts]
 .rw[VN l ts rfl hl hn h8 k];have i:=g.u60;rw[ZG j 500000]
  rw[GF (ADL W5 1 (D4 c9p 0 (BY3 YC (E5D (c7I K i EO BZO)))))];refine BV3 ?_;rw[EX (b6X rfl hl AF) p H' s' e];have a:dY (EJX) DPU:=by
   split
   .intro t ht;rw[ZE (D0K ht)]
   .exact h8
  have d:HP DTM<=900:=by
   split
   .show 1<=900;decide
   .exact hn
  rw[GL k (k H' s') (show MW uN BJO DMO=BKA DTM by split<;>rfl) k];have:=a2U a;exact⟨semi,p,EJX,488,rfl,rfl,D34,a,XM CB0,AF,k⟩
def a5d:UZ ["_law_one"] "_law_one" X8:={}
def b5z(F:SO "_law_vector" X8 "_law_one")(T:AV):C8B:=by
 rw[AM4 a5d]
 rw[QW v xs]
 .rw[F4W (B35 "_law_number"
 (eD "_law_number"))]
  rw[EZB]
def a4o:UZ ["_law_some"] "_law_some" T7:={}
def b1K(F:SO "_law_vectors" T7 "_law_some")(T:AV)(a:ESD)(b:C8B):EB0:=by
 rw[BV a4o g d e]
 rw[bK t us qN n]
 .rw[F5H x]
  rw[ER l BXF GE AH7]
  rw[GF (vO e.mono (jaC (B35 "_law_one"
 (eD "_law_one") gP (PP (kL e.mono WL))) YC))]
  refine DO1;rw[EX (EYJ u m) H1 p s1 j]
  rw[EZT m]
  .refine⟨p,DPT,rfl,BQR List.map_map,OQ AH7,hF.len n7,A6I⟩;have:=k _ ((s1.upd (o:=DD CO9) j).trans s2);rw[oJ vts];cases qN with
   |nil=>rw[UI]
   |cons v r =>
    rw[xM]at this⊢;rw[UI]
#where
#where
section
structure DkAt(C:qE)(H:Hp)(p:qE)(ns:AC)(rss:LLI)(ss:qI)(cs:AS)(ps:qI):Prop where
 ex:∃dx n r s c q us,AU3 (dfl n r s c q)/\BCP n/\BX8/\PJ/\ALK/\CTN s/\AMU/\AEA q ps.map
def DkAt.same{C:qE}{H H':Hp}{p:qE}{ns:AC}{rss:LLI}{ss:qI}{cs:AS}{ps:qI}(h:A0Z)(s:BP):E4O:=by
 obtain⟨dx,n,r,t,c,q,i,e1,e2,a,b,d,e,f,g⟩:=h.ex;exact⟨dx,n,r,t,c,q,i,D56,BSG,FX a,b.same s,d,FX e,BSE,FX g⟩
def c5x(cs:AS):cs.map ovI=cs.map cV:=List.map_congr_left λc _=>by rw[BPT]
structure Sg5(ns:AC)(rss:LLI)(ss:qI)(cs:AS)(ps:qI):Prop where
 k:SysOk ns rss ss cs ps
 r3:Rs3 ns.length rss
inductive Out where
 |ok (t:Str)|tm
noncomputable def Fin(CT:qE)(H:Hp)(Q:VK)(E:XK):OX Out
 |B1N=>AJM t
 |.tm=>A1J (BFU (AM CT))
noncomputable def b1I:Out->Str
 |B1N=>t
 |.tm=>wd "too many"
noncomputable def LsO(rss:LLI)(cs:AS)(m:Nat)(f:C3F)(o:Out):Prop:=(ATX m/\o=.tm)∨∃qN t,DFQ/\f qN t/\o=.ok t
def LsO.one{rss:LLI}{cs:AS}{m:Nat}{f:C3F}{o o':Out}(d:∀a t t',f a t->f a t'->t=t')(h:ESF o)(g:ESF o'):o=o':=by
 rcases h with⟨h,rfl⟩|⟨a,t,h1,h2,rfl⟩<;>rcases g with⟨g,rfl⟩|⟨b,t',g1,c,rfl⟩
 .rfl
 rw[FJ h g1.not]
 rw[FJ g h1.not]
 .have:=h1.one g1;rw[pJ];rw[A1B d h2 c]
def LsO.more{rss:LLI}{cs:AS}{m m':Nat}{f:C3F}{t:Str}(h:EZ9 m)(c:m<=m')(b:BUW):EZ9 m'/\DK0:=by
 rcases h with⟨_,e⟩|⟨a,t',h1,h2,e⟩
 .rw[CP]
 .exact GH (DP ⟨a,t',h1.mono c,h2,e⟩) h1.lim b
noncomputable def rwT(L:rF):Str:=TJ (L.map λt=>BEI)
noncomputable def RwO(n m:Nat)(rss:LLI)(o:Out):Prop:=(BNA m/\o=.tm)∨∃L,Chn n m rss L/\o=C6P
def RwO.one{n m:Nat}{rss:LLI}{o o':Out}(h:EJ5 o)(g:EJ5 o'):o=o':=by
 rcases h with⟨h,rfl⟩|⟨L,h,rfl⟩<;>rcases g with⟨g,rfl⟩|⟨a,g,rfl⟩
 .rfl
 rw[FJ h g.not]
 rw[FJ g h.not]
 .rw[h.one g]
noncomputable def chT:C5P->Str
 |none=>BJO
 |AZO=>DAR++BRP ++ vt DB
noncomputable def fLe(qN:LLI)(t:Str):Prop:=t=vts qN
noncomputable def fBe(qN:LLI)(t:Str):Prop:=t=EH9 1++wd " | " ++ EH9 0
inductive fCh(ps:qI)(qN:LLI)(t:Str):Prop
 |mk (b:_) (_:BsP (N2 ps (a3e 1 qN)) b) (_:t=chT b):fCh ps qN t
noncomputable def Ask(ns:AC)(rss:LLI)(ss:qI)(cs:AS)(ps:qI)(x:Str)(m:Nat)(o:Out):Prop :=
 (B2O/\LsO rss cs m fLe o)∨(B2N/\EEZ)∨(BKS/\F0Z fBe)∨(BKT/\F0Z (fCh ps))
noncomputable def AskP(ns:AC)(rss:LLI)(ss:qI)(cs:AS)(x:Str)(m:Nat):Prop :=
 (B2O/\AG8/\C27)∨(B2N/\m<=40)∨(EZ2 BKS)∨(EZ2 BKT)
def fCh.one{ps:qI}{a:LLI}{t t':Str}(h:fCh ps a t)(g:fCh ps a t'):t=t':=by
 rw[LU b h1 h];rw[LU b' g1 g];rw[h1.one g1]
def BsP.cost{ps:qI}{a:LLI}{n:Int}{t:qI}{k:Nat}(h:E2H (N2 ps a))(f:Fw k a)(g:k<=7)(hp:FW ps A2Z):(0<=n/\n<AEM)/\t∈a:=by
 rw[BH4 r d DE];rw[ALH]
 subst e2;rw[NG (f.2 _ d)];have:=BI a6q R 1000000000000 B 901 AI AI ps r (λz b=>by have:=hp z b;rw[oJ topN];omega) h2;have c:=b2X ps r (λz b=>(hp z b).1) λz b=>(h2 z b).1;have e1:dot ps r=n:=e1;rw[e1]at this c;rw[FT ⟨c,Int.lt_of_le_of_lt BPL ?_⟩ d];rw[JZ Int.lt_of_le_of_lt (Int.mul_le_mul_of_nonneg_left (show BG r.length<=7 by rw[DL 0x7b194dba67630dc98766 g h1]) AI)];rw[ZC]
section
variable {P:qG}{w:World}{K:qF}{mg:BJ}{base:Heap}{C:qE}
inductive spSRw(C CT:qE)(vs:AA)(H:Hp)(Q:VK)(E:XK):Prop
 |mk (p:qE) (ns:AC) (rss:LLI) (ss:qI) (cs:AS) (ps:qI) (m:Nat) (_:w5 (BQ QL)) (_:A0Z) (_:A16) (_:m<=40) (_:F0S EEZ):EZ1 spSRw
def a3o:DA AWA AWA O7:={}
def b0d{u:qE}(I:iG "say_rows" "Desk.say_rows" O7 AWA)(U:cC)(T:AV)(b:CCW u):EV8 u:=by
 rw[HZ I.fnE a3o J o S]
 rw[A97 p ns rss ss cs ps m]
 .obtain⟨p,ns,rss,ss,cs,ps,m,rfl,hD,hG,hm,k⟩:=h;rw[EWD M z D];rw[lA l]
  rw[GF (A6G (WO (oF "stage" (E1 K (a1I b (NY S.mono) rfl (UO RC zO MU)))
 (eD "stage")) EK8))]
  refine⟨rfl,_,rfl,p,C,dx,_,_,rfl,e1,U.cl,U.n2,rfl,_,rfl,p,C,dx,_,_,rfl,e1,U.cl,U.n1,rfl,n,_,rfl,B2F,_,rfl,r,us,rss,ns.length,m,_,_,rfl,AJ3,rfl,M,z,D,hG.k.n1,hG.k.n7,hm,hG.r3,EUN q' g F d,E96 R (IC R)⟩;have k:BKB rwT L:=k C6P (.inr (NJ L F));have e:D7K:=by rw[F.len,<-bB];exact b9x D
  rw[C0W q' G];rw[F0M (wK YA 0x23634fcffd91ba9df17d6e l e) YA G X Y j]
  rw[F55 g X Y.symm.trans (A7Q d hL)]
  .have hB:AIL DVY 60:=λy Z=>by
    rw[ENE W Z (d t W)]
   rw[EQL O hB O];refine EWI hB (k _ (C6M j))
inductive spSCh(C:qE)(vs:AA)(H:Hp)(Q:VK)(y_3:XK):Prop
 |mk (p t:qE) (us:AA) (qN:LLI) (ns:AC) (rss:LLI) (ss:qI) (cs:AS) (ps:qI) (_:w5 II) (_:A0Z) (_:A16) (_:B3D) (_:BYS) (_:Fw ns.length qN) (_:∀b H',BsP (N2 ps qN) b->BP->BE8 chT b):lL spSCh
def sc_Desk_say_cheapest:DA ["self","some","found","price","vector"] (cU "some") K0:={}
def Fw.in12{n:Nat}{a:LLI}(h:B5S):jA a (c9u r):=λr b x c=>by
 rw[QE ((FD r b).2 x c)]
def a4t(I:B2H "say_cheapest" "Desk.say_cheapest" K0 "some")(U:cC)(T:AV)(b:CCS)(a:C8A):EUC:=by
 rw[HZ I.fnJ sc_Desk_say_cheapest J z B]
 rw[EY5 t us qN]
 .obtain⟨p,t,us,qN,ns,rss,ss,cs,ps,rfl,hD,hG,ht,hI,hF,k⟩:=h;obtain⟨dx,n,r,s',c,q,O,e1,e2,R,S,V,W,X,L⟩:=hD.ex;rw[lA d]
  rw[AE y hG.k.n7 l hG.k.pl];rw[CD (CQ 2 sc_Desk_say_cheapest.nd (B2W B.mono a5M (WN uM))
 (A1 (B74 2
 AVV
 B4)
 (CQ 3 sc_Desk_say_cheapest.nd BFE
 (CQ 4 sc_Desk_say_cheapest.nd (vO B.mono B3B)
 (SG c4F EKP)))))]
  rw[EWX ⟨_,rfl,_,rfl,p,C,dx,_,_,rfl,e1,U.cl,U.n5,rfl,t,AHC,us,qN,ps,rfl,ht,hI,AG GE AH7,(EW q L),~~~c0d y l,hF.in12,ADS v e⟩ e e m D j e]
  rw[C9Y none e]
  refine AJY;rw[kS M N (e.cost hF y hG.k.pb) F G (hF.sz y xs N)];refine C9S D AHO B0F;rw[DQ ⟨_,rfl,D,_,1,AM j,rfl,rfl,B0F,rfl,AM j,xs,rfl,EW j f2,F,G,A6I⟩];rw[EM];have g:AS9 m.toNat<=60:=O5 (x:=m) M;have o:=a7P F G;rw[A45 u B3R 2]
  rw[MR (k _ H2 e jV) (show chT (some (m,xs))=Str.empty++E3 m.toNat++BRP ++ vt xs by rw[W8];rfl)];exact DK (DP ⟨m.toNat,X3 (AL2 m.toNat m),D9P (AFJ (m.toNat<AEM)),wK W8 0x6c602133597d1d8311f17d6e d g,BRP,rfl,IG W8 C3 (lq 0x5f443b6ac0807247db8a68cea0e7f11f17d6f d g u),_,rfl,EL (IQ rfl (yR 0x6c6029db6472804735f17d6e o) EZN EZN this)⟩)
#where
#where
section
section
variable {P:qG}{w:World}{K:qF}{mg:BJ}{base:Heap}{C:qE}
inductive spSBy(C CT:qE)(vs:AA)(H:Hp)(Q:VK)(E:XK):Prop
 |mk (p l:qE) (x:Str) (m:Nat) (ns:AC) (rss:LLI) (ss:qI) (cs:AS) (ps:qI) (_:vs=[FZ,QR,HQ]) (_:A0Z) (_:A16) (_:RA l [DI QL]) (_:B65) (_:F0S BOR):EZ1 spSBy
def sc_Desk_say_by:DA ["self","word","numbers","found"] BNN Y6:={}
def b7l{H:Hp}{r c:qE}{us:AA}{ns:AC}{rss:LLI}{ss:qI}{cs:AS}{ps:qI}(hG:A16)(b:BX8)(d:PJ)(e:ALK)(f:AMU):CPS r c :=
 ⟨⟨us,b,d,~~~b2b e⟩,f,F1,by have:=hG.k.cl;rw[QE hG.k.n7],λt a=>⟨A5K hG.k.cl (hG.r3 t a).1,EJV (hG.r3 t a).2⟩⟩
def b5A{V:qE}(FM:iG "say_by" "Desk.say_by" Y6 BNN)(U:cC)(T:AV)(g:W0)(a:EAZ)(v:AN6 V)(j:CBX V)(e:EV8 V)(d:EUC):EV9 V:=by
 rw[HZ FM.fnE sc_Desk_say_by a3 a2 D]
 rw[EY5 l x m]
 .obtain⟨p,l,x,m,ns,rss,ss,cs,ps,rfl,hD,hG,hl,hA,k⟩:=h;rw[ZG hz 900000]
  rw[EWD e3 e4 e5];rw[ET1 Y G N (A1 (sR
 NT
 B4)
 (A1 (sR
 NT
 B4)
 (A1 (sR
 (GS (vO D.mono (DG (C5I (E8Z v 178277708 (C03 B3B))))))
 B4)
 (A1 (sR
 (SG (c4D e g (aL D.mono b1U) EO) B3B)
 B4)
 (CQ 3 sc_Desk_say_by.nd (E8Z j 178278492 (jaC RC (UO RC zO B3B)))
 (A1 (sR
 (C9X DSC DSC)
 B4)
 (SG (a2x d g (A23 D.mono 178275356) EO) BH8)))))))]
  rcases hA with⟨rfl,J,I⟩|⟨rfl,J⟩|⟨rfl,J,I⟩|⟨rfl,J,I⟩
  .rw[IN DCY ⟨_,rfl,p,C,dx,_,_,rfl,e1,U.cl,U.n2,rfl,_,rfl,p,C,dx,_,_,rfl,e1,U.cl,U.n4,rfl,_,rfl,l,_,_,_,rfl,rfl,BRZ,atc,r,c,rss,cs,m,_,rfl,rfl,b7l hG e3 e4 e5 e7,?_,F21 S R X a0 a1 a5 a4 hW O,E96 L C09⟩]
   rw[EXC N (show m+1<=2001 by exact b9w J) G]
   have B:ADX u:=⟨F,W,k',hW,O,a0,a1⟩;have y:=B.fw I;rw[N]at y;refine⟨S,_,0,II,rfl,rfl,BS0,rfl,t,zs,u,ns.length,rfl,X,hI,y,Y,G,A6I⟩;exact k (DAH u) (.inl (AC8 EA9)) H2 jV
  .refine B28 x5;exact⟨_,rfl,p,dx,_,rfl,e1,rfl,_,rfl,l,_,_,_,rfl,rfl,BRZ,atc,p,ns,rss,ss,cs,ps,m,rfl,hD,hG,J,λo L=>k o (VG (EQ L))⟩
  all_goals
   rw[IN (B28 AJY) ⟨_,rfl,p,C,dx,_,_,rfl,e1,U.cl,U.n2,rfl,_,rfl,p,C,dx,_,_,rfl,e1,U.cl,U.n3,rfl,_,rfl,p,C,dx,_,_,rfl,e1,U.cl,U.n1,rfl,n,_,rfl,B2F,_,rfl,l,_,_,_,rfl,rfl,BRZ,atc,r,s',us,rss,ns.length,m,ss,_,_,rfl,AJ3,rfl,e3,e4,e5,hG.r3,Y,G,J,hG.k.sl,hG.k.sb,e6,I,F5C S R X Z B,DS H1 s1 L⟩]
  rotate_left
  .exact BOS .inr (VG C09)
  rotate_left
  .exact BOS .inr (VR C09)
  .have y:=B.fw I;rw[V8]at y;rw[AE z (C9C y) M (E7F y)];rw[DQ x5];refine F5J S BS0 X z Y G;rw[AE l1 (a4D z G) l0 (a4D M G)];rw[A45 l3 AUA 3]
   refine F62 (E7R hz l1 l3) S R Z.same M Y G (C1E CZ8)
   rw[EPX hz l1 l3]
   .exact k rK (.inr (B2T EA9)) H3 C4J
  .have y:=B.fw I;rw[V8]at y;have z:=C9C y;rw[DQ AJY];refine⟨_,rfl,p,dx,_,rfl,D6N,rfl,_,rfl,S,_,0,II,rfl,rfl,BS0,rfl,p,t,zs,_,ns,rss,ss,cs,ps,rfl,hD.same s1,hG,X,hI,z,BT bb H2 hB s2⟩;exact k rK (.inr (VR (CW5 u B bb hB))) H2 jV
#where
#where
section
section
variable {P:qG}{w:World}{K:qF}{mg:BJ}{base:Heap}{C:qE}
def b6f(l:qI):DY (l.map V.int).all J9:=by
 rw[BMY a];rw[AHA AHQ];rfl
def c4O(zs:qI):PR (inV .non (zs.map V.int)):=by
 rw[GO inV List.any_eq_false];intro v a;rw[eQ z AHQ];intro h;cases h
def AskP.ls{ns:AC}{rss:LLI}{ss:qI}{cs:AS}{x:Str}{m:Nat}(h:B65):B1G/\AG8/\D0V 60/\DL6:=by
 have key:RB Ls4 (BC1 60/\32∉y.cps.toList):=by rw[ZC]
 have a:B1G/\m<=2000:=by
  rcases h with⟨rfl,h,_⟩|⟨rfl,h⟩|⟨rfl,h,_⟩|⟨rfl,h,_⟩
  .rw[AY (.head _) h]
  .rw[AY (.tail _ DQC) (bZ 0x66f4c71853938b4ce5)]
  .rw[AY CW9 h]
  .rw[AY DQC h]
 rw[BA QK a.2 (key x QK)]
inductive spSay(C:qE)(vs:AA)(H:Hp)(Q:VK)(y_3:XK):Prop
 |mk (p:qE) (x:Str) (m:Nat) (ns:AC) (rss:LLI) (ss:qI) (cs:AS) (ps:qI) (_:w5 (xA DUD)) (_:A0Z) (_:A16) (_:B65) (_:EL8):lL spSay
def sc_Desk_say:DA ["self","line","words","numbers"] D78 a2l:={}
def c7l{tT:Tok}{CN M:qE}(FM:B2H "say" "Desk.say" a2l "line")(U:cC)(T:AV)(j:W0)(u:DP3)(b:B9I)(g:EN0)(a:EV9 M)(hN:ClsN K CN M)(d:uZ "NoAnswer" CN)(e:DBI M):ATU "say" 12 "line" spSay:=by
 rw[HZ FM.fnJ sc_Desk_say a4 a3 S]
 rw[CEE p]
 .obtain⟨p,x,m,ns,rss,ss,cs,ps,rfl,hD,hG,hA,k⟩:=h;have hu:=S.u60;rw[lA J]
  obtain⟨hL,Y,F,D⟩:=hA.ls;obtain⟨dx,n',r,s',c,q,us,e1,e2,_⟩:=hD.ex;obtain⟨zs,l⟩:∃zs:qI,zs=[QL]:=RH;have B:kR zs (0<=z/\z<=topN):=λz B=>by
   rw[l]at B;rw[List.mem_singleton.mp B];unfold topN;omega
  have I:zs.length<=8:=by rw[l];show 1<=8;decide
  have W:Sz zs:=λz hm=>DIX E10 E10;rw[<-l];have X:=c7x F W I;rw[CD (A1 (B72 (DZO (A7N F1D))
 NT
 B4)
 (CQ 2 sc_Desk_say.nd (gL a5Z 1 YC)
 (A0Q (yW 3 sc_Desk_say.nd (N:=["word"]) (src:=[none]) (E9 K (a2V K rN CJY J3))
 DBG) gP (A8 b (D9M 178889228) rfl (AW9 (BLN u)))
 (A1 (CB9 a0K (c1m K J7 wO CG) Y9 (vN g S.mono 178887660 (jaC (AOT 2) (EG 3 (DG zO))))
 NT
 B4)
 (A3 (c4u hN (c4r a j (D9M 178895500) EO (xG (AOT 2) (gY jT))) rfl d rfl e D4Q D4Q))))))]
  rw[IN F4J ⟨_,rfl,rfl,_,bk,rfl,rfl,AI,AU 0x243a0e225d094b5517332df17d6e J X,BK p1 a0⟩];rw[c1c D]at *;rw[oT AXZ a0];rw[TL f1 H p1 AXZ p1 AXZ];rw[A8T (ZN p1 AXZ) f1];rw[DQ ⟨_,rfl,1,rfl,p1,_,rfl,EU f1,λp2 a1=>OI p2 (nD A0) ?_⟩];rw[AVD a3g];rw[B54 AY0 a1];rw[TL f2 H1 p2 AY0 p2 AY0];rw[A0O (aU p2 AY0) f2];rw[EX (xX a3H ((zs.map C6).map V.str) zs (λz=>DI z) (IG List.length_map List.length_map (lq 0x2363502a39b59e39f17d6e J I)) BHX (AIW f2) rfl (λi v z O Q3 hv G s3 k3=>?_)) O y s3 a2]
  .rw[BPQ List.getElem?_map G hv];cases hv;have L:=XJ B z G;exact oQ z rfl L.1 L.2 k3
  rw[HW n s3.upd AFY a2];rw[TL R O y AFY y AFY];show(EH _ _) _ (upd O y AFY);rw[AHB O y AFY H4 n R];rw[AE n (s2.trans n) g1 (AH n f1)];have n:=s1.trans n;rw[DQ (VA y _ rfl (XS R) rfl (b6f _) _ rfl ?_)];rw[if_neg (c:=CET) AI,c4O];rw[QI ⟨_,rfl,p1,_,_,QR,rfl,rfl,EU g1,atc,_,rfl,_,rfl,p,C,dx,_,_,rfl,ACM n,U.cl,U.n1,rfl,n',_,rfl,aQ (A6Z n),x,y,QL,_,rfl,QF R l,hL,BH 0x2c6767d627efbdf0abb6a5 Y,λH5 s5=>DK (B5 ?_)⟩];have s6:=n.trans s5;refine⟨_,rfl,p,dx,_,rfl,ACM s6,rfl,_,rfl,p1,_,_,QR,rfl,rfl,EU (pW g1),atc,_,rfl,y,_,rfl,C42 (pW R)⟩;rw[HW s7 s6.upd (UB zs.map) hq];refine⟨p,q,x,m,ns,rss,ss,cs,ps,rfl,hD.same s7,hG,QF A0 l,hA,BK o ho⟩;cases o with
  |ok t=>exact λH' s'=>k _ H' ho (s7.trans s')
  |tm=>exact λH' s'=>EW M (DP (EQ (λp' Z=>AK k ho (iJ s7.trans s' Z))))
inductive spKInit(C:qE)(vs:AA)(H:Hp)(Q:VK)(y_3:XK):Prop
 |mk (p dx:qE) (L:ES) (d:Dr) (_:w5 E1X) (_:C0P) (_:rZ) (_:C87) (_:BXG) (_:C7M L) (_:A7J) (_:d.rows.length<=6) (_:∀(H':Hp),A2F DkAt d.names d.rows d.sides d.capsL d.pricesL->C35->ABF):lL spKInit
def sc_Desk___init__:DA (ABA "text" "system") (cU "text") O8:={}
def b8y(M:B2H "__init__" "Desk.__init__" O8 "text")(U:cC)(e:ES2):ATU "__init__" 11 "text" spKInit:=by
 rw[HZ M.fnJ sc_Desk___init__ N B O]
 rw[bK p dx L d]
 .obtain⟨p,dx,L,d,rfl,hp,h0,hw,h9,m,h7,h2,k⟩:=h;rw[lA R]
  rw[CD (CQ 2 sc_Desk___init__.nd (oP e O.mono b1U MU)
 (B49
 (B49
 (B49
 (B49
 (B0S BFE))))))]
  rw[VQ (VA L d rfl h0 hw h9 m h7 (BT v H1 m s1))];obtain⟨a,n,r,t,c,q,S,rfl,e1,e2,D,l,F,G,I⟩:=m.ex;have j:=AIK;have ne:∀{b:qE}{xs:AA},C5K b xs->nC:=λh z=>by rw[z,j]at h;cases h
  have st:∀{H2:Hp}{o:HO},(B7G (tQ H2))->B7G (KB H2 p o b u):=λh b u y g=>IH g (h b u y g)
  have k0:B7G CJ5:=VB h _ h;have na:=ne e1;rw[CKQ e1 j U.n1 AI k1 (CWN n) k0];rw[B99 k1 U.n2 1 k2 (gU BDQ) k1];rw[B99 k2 U.n3 2 k3 (BDU "sides" II BDQ) k2];rw[B99 k3 U.n4 3 J (gU CQ4) k3];rw[B99 J U.n5 4 k5 (BG4 "prices" q CQ4) J];refine k _ ⟨dx,n,r,t,c,q,S,A0,AK k5 e2 (ne e2),AK k5 D (ne D),⟨l.1,λi v h=>let ⟨x,h1,b,h2,h3⟩:=l.2 i v h;⟨x,h1,b,h2,AK k5 h3 (ne h3)⟩⟩,AG l.1 h2,AK k5 F (ne F),RZ c5x (AK k5 G (ne G)),AK k5 I (ne I)⟩ λb o y g=>AK k5 (JU y) g
#where
#where
universe K50
namespace L2
open PySem PySem.Spec PyProof.Rows
noncomputable def b3A(K:qF)(i:Nat)(sp:Sp)(t:TA)(tl th:TO):TX:=CE4 (BN8 tl l (th σ H3 λu H4=>EOS (rSlT K v l u H4) H5 H5))
def b5p{X:Cx}{k:Nat}{ps:AC}{sp:Sp}{x y:Str}{p pos qM pos' ip sp':Pos}{e:Expr}{es:BN}{t:TA}{i:Nat}{lo hi:rL}{tl th:TO}(c:t9)(O:A8N)(hr:QU)(J:JC)
  (hN:X.N.Nodup) (K:sN) (hy:sZ) (ha:YV) (hl:E7C) (hu:E7D) (G:FK:=by decide)
  (he:CI:=by rfl) (M:L1:=by rfl)
  (hs:DHN:=by rfl) (hf:tE:=by rw[TV]) :
  A92 PSx BLP (b3A X.K i sp t tl th):=by
 rw[EQG hb];rw[AN2 J hm G hk (CDR ha n d d.kIn c) he M];rw[C92 L n.length]
 rw[B6R g (hb s1 n d.kIn (AE4 L)) g (CCV (JY n) n vs _ _ hr d.env0 g r q) j];cases r with
 |error e =>
  rw[B9W W Y Z h6 h7 h8 h9 E j];cases h9;exact CA8 d W Y Z h6 h7 h8 E
 |ok fl =>
  cases fl with
  |ret u =>
   rw[A5M v U rv q2 (d.after j)];rw[DY6 (pT (LG hl s' H2 _ U q2) (λo s2 ⟨l,S,V,pl,q3⟩=>pT (LG hu s2 S _ V q3) (DS vu a zz) c) c) Q m w pu N zz];have A:JK m C1B:=EMB w.kept ob;obtain⟨T,id,hT,ht,J⟩:=LG b7i C1B m v u o vu l Q a.heap.objs.size _ A rv D8O pl pu N;have key:pS (subscriptTail AB8 CJH u AZD) (A9Z EP _) C1B:=tail_any (ops:=[AZD,u]) ht hT J CG;refine pT key (DS Q s4 ⟨v',m,w,P,N⟩) c;exact a0P w hN K hy P (λs2 A=>AYM (GT m A N)) hf
  |next=>rw[HU j]
  |brk=>rw[HU j]
  |cont=>rw[HU j]
section
variable {X:Cx}{k:Nat}{ps:AC}{sp:Sp}{x y:Str}{p pos qM pos' ip sp':Pos}{e:Expr}{es:BN}{t:TA}{i:Nat}{lo hi:rL}{tl th:TO}
def c1i(K:qF)(O:A8N)(o:QU)(m:JC)(g:X.N.Nodup)(b:sN)(r:sZ)(h:ET)(n:C7P)(q:C7Q)(f:AT:=by rfl)(d:t9:=by rw[AM9])(a:FK:=by decide)
  (j:CI:=by rfl) (c:L1:=by rfl)
  (hs:DHN:=by rfl) (l:tE:=by rw[TV]) :
  A92 JX BLP (b3A K i sp t tl th):=by
 subst f;exact WY (b5p d O o m g b r h.h n.h q.h a j) c hs l
#where
universe L2
namespace K50
open PySem PySem.Spec PyProof.Rows L2
section
noncomputable def FoV(ns:AC)(rss:LLI)(ss:qI)(cs:AS)(x:Str)(m:Nat)(H:Hp)(v:V):Prop :=
 (C86 B2O (ATX m) (∃t zs qN,uA t/\C21/\AGL/\DFQ)) ∨
 (C86 B2N (OvB ns.length m rss) (∃q zs L,B2C/\RA q zs/\Sgs H zs L/\CW0 Chn L/\dY L DA2)) ∨
 C86 (E1C) (Over eF (sdC ns.length) m) (∃q t b zs ys qN,B2C/\RA q CUG/\C21/\LL zs ECI/\DFF/\LL ys E33/\Tdc eF (sdC ns.length) m qN)
noncomputable def WdM(x:Str)(m:Nat):Prop:=(B2O/\m<=150)∨(B2N/\m<=40)∨(E1C/\m<=150)
section
variable {P:qG}{w:World}{K:qF}{mg:BJ}{base:Heap}
inductive spFo(vs:AA)(H:Hp)(Q:VK)(y_3:XK):Prop
 |mk (v:V) (x:Str) (m:Nat) (ns:AC) (rss:LLI) (ss:qI) (cs:AS) (ps:qI) (_:EK9) (_:B9K) (_:A16) (_:C5N) (_:AAJ u (CGO FoV x m H' u) (UE u)):JD spFo
def sc__law_found:DA ["_law_system","_law_word","_law_most","_law_names_here","_law_rows","_law_sides","_law_caps","_law_prices","_law_found_here"] A5H a0r:={}
def b8z{d:qE}(F':HL "_law_found" a0r A5H)(T:AV)(q:AN6 d)(e:CCW d)(j:CBX d)(g:DBI d)(l:ClsX K d []):EN5:=by
 rw[HZ F'.okJ sc__law_found a2 a1 hr]
 rw[CEE v]
 .rw[F51 S U];rw[F27 N M S.ex];rw[c5x]at e7;rw[ER O ALK M.1 hG.k.rl]
  rw[ET1 n1 n7 X (A1 (D4 b2L 0 (K2 K 5 (B3 (AI7 3) (B3 (AI7 4) (B3 (AI7 5) (B3 (AI7 6) (B3 (AI7 7) F3)))))))
 (CQ 8 sc__law_found.nd J7
 (A1 (c1n K (c5S E5V (c1j K (i:=8) q (BVO 177663052) rfl sc__law_found.nd rfl BQP (EG 4 (EG 6 OV))) (c5S E5V (c7F (i:=8) e CL8 rfl sc__law_found.nd rfl BQP (EG 4 DLL)) (c1i K (i:=8) j (BVO 177663836) rfl sc__law_found.nd rfl BQP (EG 4 (AZQ DLL)) J3 (J2 A6)))) rfl g l (DF ((BS2 8 sc__law_found.nd J7))))
 (ASI 8))))]
  refine⟨_,rfl,a,_,rfl,FU e1,rfl,_,_,rfl,_,_,rfl,_,_,rfl,_,_,rfl,_,_,rfl,rfl,?_⟩;rw[CH6];rw[DXP U y y hx y]
  .rw[IN x5 ⟨_,rfl,_,rfl,_,rfl,r,c,rss,cs,m,_,rfl,rfl,b7l hG N M O e7,?_,F21 I G ht Z a0 a4 a3 U B,C8S⟩]
   rw[EXC X (show m+1<=2001 by rw[DN 0xb4ca45a95cd51746be5 y]) n7]
   .exact⟨I,_,0,II,rfl,rfl,FU G,rfl,_,rfl,AK k s1 (EL (AC8 ⟨t,zs,u,rfl,ht,hI,F,W,k',U,B,Z,a0⟩))⟩
   rw[C3J (EL DEF)]
  .rw[IN D90 ⟨_,rfl,_,rfl,n,_,rfl,B2F,_,rfl,r,us,rss,ns.length,m,_,_,rfl,AJ3,rfl,N,M,O,n1,n7,y,hG.r3,EUN I S hC z,C8S⟩]
   .exact BGQ s1 (B2T (aB I zs L G S hC z))
   rw[C3J (VG DEF)]
  .have hne:B57 "least"/\B57 "rows":=by
    rcases hx with rfl|rfl<;>decide +kernel
   rw[C46 hne.1];rw[hne.2];rw[AIE];refine⟨_,rfl,_,rfl,_,rfl,n,_,rfl,B2F,_,rfl,r,s',us,rss,ns.length,m,ss,_,_,rfl,AJ3,rfl,N,M,O,hG.r3,n1,n7,~~~a2o y,hG.k.sl,hG.k.sb,e6,WW Lim.few a0w y,F5C I G ht R hT,C8S⟩
   .refine⟨2,rfl,I,_,rfl,FU G,aI (¬(HT.sIx 3 0 none=0/\HT.sIx 3 3 (some 2)=3)),BK p3 Y⟩;rw[lB J H1 CUG Y];exact DK (AK k (s1.trans J) (VR (A1T hx ⟨p3,t,b,zs,ys,u,rfl,A0,AH J ht,hI.same J,AH J hb,R.same J,hT⟩)))
   rw[C3J (VR (A1P hx (EQ C)))]
#where
#where
section
section
variable {P:qG}{w:World}{K:qF}{mg:BJ}{base:Heap}
inductive spDu(vs:AA)(H:Hp)(Q:VK)(y_3:XK):Prop
 |mk (v:V) (x:Str) (m:Nat) (ns:AC) (rss:LLI) (ss:qI) (cs:AS) (ps:qI) (_:EK9) (_:B9K) (_:A16) (_:C5N) (_:EL8):JD spDu
def sc__law_due:DA ["_law_system","_law_word","_law_most","_law_found_here","_law_pair"] A5H a2k:={}
def c7o(F:HL "_law_due" a2k A5H)(T:AV)(g:EN5)(d:EB0)(e:C8B)(j:CCS):EN6:=by
 rw[BV sc__law_due a4 a3 D]
 rw[CEE v]
 .rw[F51 hS hW];rw[ZG O 900000]
  rw[AE n1 hG.k.n1 z hG.k.n7];rw[AE Z hG.k.cl a2 hG.k.pl];rw[CD (CQ 3 sc__law_due.nd (AK9 g D.mono b1U B1P)
 (A1 (B74 3
 AVV
 B4)
 (A1 (sR
 (GS (CTO jT))
 B4)
 (A1 (sR
 (GS (A6G (WO (oF "_law_some" (ZF E1 3)
 (eD "_law_some")) EK8)))
 B4)
 (A1 (sR
 (C9X DSW DSW)
 B4)
 (CQ 4 sc__law_due.nd (vN j D.mono 178274572 (xG (ANX 3) A90))
 (A1 (B74 4
 AVV
 B4)
 (C9X (B6T BX5) (vN e D.mono 178273004 BX5)))))))))]
  rw[VQ (F3N x m ss cs ps hS hW (ADS u C))];have hm:BUX:=by rcases hW with⟨_,h⟩|⟨_,h⟩|⟨_,h⟩<;>omega
  rw[DXP C C C I C]
  .rcases C with⟨rfl,ho⟩|⟨t,zs,qN,rfl,G,hI,hT⟩
   rw[C9Y .tm (EL B4U)]
   rw[ES0 Z];refine D90;exact⟨_,rfl,t,zs,qN,ns.length,rfl,G,hI,o,n1,z,AD2 (k (DAH qN) H2 (EL (AC8 EAA)) jV)⟩
  .rcases C with⟨rfl,ho⟩|⟨q',zs,L,rfl,hq,hS,hC,h100⟩
   rw[C9Y .tm (VG B4U)]
   have Y:D7K:=by rw[hC.len];rw[yB hG.k.rl b9x]
   refine DCY;refine⟨rfl,_,rfl,q',rfl,KS hq,?_⟩;rw[F0M (wK hS.1 0x6c60246cf89f247f5d10a2ae O Y) hS.1 hq hv I a0]
   rw[F55 hS hv I.symm.trans (A7Q h100 hL)]
   .have q:AIL DVY 60:=λy hy=>by
     rw[ENE G hy (h100 t G)]
    rw[EQL hj q hj];refine EWI q ?_;exact k C6P _ (B2T (NJ L hC)) (C6M a0)
  .rcases C with⟨rfl,ho⟩|⟨q',t,b,zs,ys,qN,rfl,hq,G,hI,hb,hIb,hT⟩
   .refine BGR (k .tm H1 ?_ s1);rw[WR I rfl]
    rw[HG (VG B4U)]
    rw[HG (VR B4U)]
   rw[ES0 V8];rw[AE l (C9C o) J (E7F o)];rw[WR I rfl]
   .rw[IN (B28 x5) (F5J q' B0G G l n1 z)];rw[AE R (a4D l z) l0 (a4D J z)];rw[A45 S AUA 3]
    refine F62 (E7R O R S) q' hq hIb.same J n1 z E8G
    rw[EPX O R S]
    .exact k rK W (DP (B2T EAA)) C4J
   .refine B28 AJY;rw[F27 e3 e4 hS.ex];rw[EWX ⟨_,rfl,q',_,0,II,rfl,rfl,B0G,rfl,_,rfl,a,_,4,FZ,rfl,rfl,FU D6N,rfl,t,FZ,zs,_,ps,rfl,G,hI,AG GE l.1,(BU1 p e8),~~~c0d z a2,l.in12,BT u H2 s2 q⟩ q q U q1 X q]
    .exact BGR (k rK H2 (EVP none) jV)
    refine AJY;rw[kS M I (q.cost l z hG.k.pb) z1 z2 (l.sz z xs I)];have R:HY C6 U<=60:=O5 (x:=U) M;have l2:=a7P z1 z2;rw[A45 S B3R 2]
    refine C9S q1 (BQ U) B0F;rw[A6Q X0];rw[JZ a2O M];refine⟨_,_,rfl,rfl,by show _+B3R<=_;exact lq 0x123c0f5f6ed895dfc1057e0f8cdd3e229d10a2af O R S,_,rfl,q1,_,1,AM X,rfl,rfl,B0F,rfl,AM X,xs,rfl,EW X f2,z1,z2,E8G⟩
    .rw[C3];show _+B3R+_<=_;exact lq 0xd30a953ae78a7f22936bf16521f296244609f6c2229d10a2b0 O R l2 S
    .exact k rK W (EVP (AQ (U,xs))) C4J
#where
#where
section
variable {x:Str}
def DkAt.pot{C:qE}{H H':Hp}{p a b:qE}{ns:AC}{rss:LLI}{ss:qI}{cs:AS}{ps:qI}(h:A0Z)(hp:VM p)(P:QX)(o:OZ):E4O:=by
 obtain⟨dx,n,r,t,c,q,k,e1,e2,d,i,j,e,f,g⟩:=h.ex;exact⟨dx,n,r,t,c,q,k,AK o hp e1,E30 e2 e2,AK o (J6 P d) d,Its.pot i P o,j,AK o (J6 P e) e,E30 f f,AK o (J6 P g) g⟩
def SysAt.put{H:Hp}{v:V}{ns:AC}{rss:LLI}{ss:qI}{cs:AS}{ps:qI}{l:qE}{xs:AA}{o:HO}(h:B9K)(a:YU):SysAt D9Z v ns rss ss cs ps:=by
 obtain⟨x,n,r,t,c,p,j,e,e1,e2,b,d,f,g,i⟩:=h.ex;have k:∀{y:qE}{zs:AA},RA y zs->upd H l o y=BU .tup zs:=λq=>E4W RQ
 exact⟨x,n,r,t,c,p,j,e,k e1,k e2,k b,d.put a,k f,k g,k i⟩
def DkAt.put{C:qE}{H:Hp}{p:qE}{ns:AC}{rss:LLI}{ss:qI}{cs:AS}{ps:qI}{l:qE}{xs:AA}{o:HO}(h:A0Z)(a:YU):APT (DkAt C D9Z p ns):=by
 obtain⟨dx,n,r,t,c,q,m,e1,e2,b,e,f,g,i,j⟩:=h.ex;have k:∀{y:qE}{u:HO},HJ y u->(u≠AVK)->KB H l o y u:=λq d=>E4W d
 exact⟨dx,n,r,t,c,q,m,k e1 RQ,k e2 RQ,k b RQ,e.put a,f,k g RQ,k i RQ,k j RQ⟩
structure St1(C:qE)(H:Hp)(a b x l:qE)(v:V)(ns:AC)(rss:LLI)(ss:qI)(cs:AS)(ps:qI)(ws:AC):Prop where
 P:QX
 S:B9K
 D:APT (DkAt C H x ns)
 q:VM x
 L:BZW
 ql:VM l
section
variable {C:qE}{H H':Hp}{a b x l:qE}{v:V}{ns:AC}{rss:LLI}{ss:qI}{cs:AS}{ps:qI}{ws:AC}
def St1.same(h:C1C)(s:BP):C1D:=⟨h.P.same s,h.S.same s,h.D.same s,h.q,FX h.L,h.ql⟩
def St1.pot(h:C1C)(P:SQ)(o:OZ):C1D:=⟨P,h.S.pot h.P o,h.D.pot h.q h.P o,h.q,AK o h.ql h.L,h.ql⟩
def St1.pop(h:C1C)(j:Nat):St1 C (ZN l DES) a b x l v ns rss ss cs ps (ws.eraseIdx j):=⟨a4G h.P h.ql,h.S.put h.L,h.D.put h.L,h.q,BU6 b2U,h.ql⟩
#where
def Ask.one{ns:AC}{rss:LLI}{ss:qI}{cs:AS}{ps:qI}{x:Str}{m:Nat}{o o':Out}(h:BOR)(g:EID o'):o=o':=by
 have d:∀{y z:Str},(x=y)->(x=z)->iV (y=z)->False:=λe1 e2 n=>by rw[<-e1,<-e2]at n;simp at n
 rcases h with⟨e,h⟩|⟨e,h⟩|⟨e,h⟩|⟨e,h⟩<;>rcases g with⟨e',g⟩|⟨e',g⟩|⟨e',g⟩|⟨e',g⟩
 rw[DVE]
 rw[YY]
 rw[YY]
 rw[YY]
 rw[YY]
 .exact h.one g
 rw[YY]
 rw[YY]
 rw[YY]
 rw[YY]
 rw[DVE]
 rw[YY]
 rw[YY]
 rw[YY]
 rw[YY]
 rw[CZD (p.one q)]
def WdM.p{ns:AC}{rss:LLI}{ss:qI}{cs:AS}{m:Nat}(h:C5N):B65:=by
 rcases h with⟨rfl,h⟩|⟨rfl,h⟩|⟨rfl|rfl,h⟩
 rw[HF CAY]
 .exact VG B0V
 rw[HG (VG CAY)]
 rw[HG (VR CAY)]
def Ask.more{ns:AC}{rss:LLI}{ss:qI}{cs:AS}{ps:qI}{x:Str}{m:Nat}{t:Str}(h:EID B1N)(a:BUX)(b:x≠wd "rows"):CKN 2000/\BEV ps x 2000 B1N:=by
 rcases h with⟨rfl,h⟩|⟨rfl,h⟩|⟨rfl,h⟩|⟨rfl,h⟩
 rw[CE5 (A1P (BAK AI h2) BSQ)]
 rw[FJ rfl b]
 rw[CE5 (A1T (DP (VG E0N)) (VG BSQ))]
 rw[CE5 (A1T (DP (VR E0N)) (VR BSQ))]
section
variable {P:qG}{w:World}{K:qF}{mg:BJ}{base:Heap}
def two_gr(c:Bool):EH5 [DI 150,BQ 40] (DZ (OO c 40 150)):=by rw[BPT]
def c9z{m:Nat}:x++wd " " ++ C6 QL=DUD:=rfl
def c4k:x++wd " 2000"=ln x [EA 2000]:=by
 show _=x++bk++DAQ;rw[show wd " 2000"=bk++DAQ by rw[ZC],<-Z4]
noncomputable abbrev Iv1(C a0 a b x l:qE)(v:V)(ns:AC)(rss:LLI)(ss:qI)(cs:AS)(ps:qI)(o2:fG)(ws:AC)(σ:L2.St)(H':Hp):Prop:=∃o6 o7 o8 o9 o10,F23 RX BGO yP (C1D/\DX y ws DDA/\ws.length<=8)
noncomputable abbrev Iv0(a0 a b:qE)(i:Nat)(σ:L2.St)(H':Hp):Prop:=∃o2 o3 o4 o5 o6 o7 o8 o9 o10,F23 o3 o4 o5 SQ
def sc_law:D9W ["_law_script","_law_pot_here","_law_turn","_law_system","_law_desk","_law_left","_law_word","_law_great","_law_most","_law_due_here","_law_answer"] a5k:={}
def c7n{Y:qE}{f:qE}{fd:FuncData}(F':Fun K "law" "law" a5k f fd)(T:AV)(G:Cls K Y)(J:ELK)(u:AN5)(M:B9G)(D:ENB)(C:ENA)(Z:TY MakeOk base "Desk" Y 11 (cU "text") (spKInit Y))(B:TY MethOk base Y "say" 12 D78 (spSay Y))(I:EN6) :
  EOR (AC4 base CX0 13 f):=by
 refine F'.okJ sc_law (DW vs H Q E h) (λf3 A f0 s H vs Q E F h=>?_)
 rw[QW a ns]
 .obtain⟨a0,cs,rfl,hS,hl,kk⟩:=h;rw[lA hz]
  have hu:=F.u60;rw[CD (CQ 1 sc_law.nd (A7G J WL)
 (A1 (pE (E1L XA) 2 sc_law.nd
 (CQ 3 sc_law.nd (A7G D MU)
 (CQ 4 sc_law.nd (c1z Z (F.mono (KP 5026445900)) rfl (DG (A7G C jT)))
 (AIG 5 (BY3 (EM2 YC) A6)
 (A3 (b0D (c1l K hu A74 BZO)
 (AIG 6 (ADL a6a 5 (A7G u (A7N (A1L BRH))))
 (AIG 7 (DUC (E5D (BMK a1l)))
 (AIG 8 (vN M F.mono 179503100 (WN (AT2 (EG 7 (xG (A7G u (A7N (D4 O3 7 A6))) (A7G u CJ7))))))
 (AIG 9 (vN I F.mono 179510156 (EG 3 (EG 6 (ZA 8))))
 (kI 10 sc_law.nd (a2x B G D4B AZT) (gO K5 DOD (B6T (ZA 8)))
 (A1 (E3E (A3A (DZO (EG 10 (DG F1D)))) (Y9 (D4 a5Y 10 (jv 9)))
 fK
 B4)
 (A3 (A2D (a2v (BMK a5Y) (a2v (D4 a5Y 9 B1) (a1F (a5Y (a2x B G D4B AZT (DG DOD)) (jv 9)))))
 fK
 B4))))))))))))))
 fK))]
  refine⟨_,rfl,a0,cs,rfl,hS,BH 0x69c5bc7698434e96a5 hl,λa b H1 _ _ P1 _=>?_⟩;rw[DQ ⟨2,rfl,AI,AI,?_⟩];rw[CBI (n:=2) (Iv0 a0 a b) (F4F P1)]
  rotate_left
  .rintro σ H2 ⟨_,_,_,_,_,_,_,_,_,rfl,_⟩;exact kk _
  clear P1;rintro i σ H1 _ ⟨o2,o3,o4,o5,o6,o7,o8,o9,e9,rfl,P1⟩;rw[DQ (oQ a b rfl P1 (λv ns rss q caps p H2 hv ho h3 P2 _=>?_))];rw[EM];have hG:Sg5 ns rss q caps p:=⟨ho,λr F=>⟨(ho.rw r F).1,h3 r F⟩⟩;rw[AE n1 ho.n1 n7 ho.n7];refine⟨_,rfl,v,ns,rss,q,caps,p,rfl,hv,ho,C1E (DW x dx hx c8 d7)⟩;obtain⟨d,hd,d1,d2,d3,d4,d5⟩:=c6r ho;rw[hX hw O a7b ho];rw[oY e0 (upd H3 dx CR0 x) none (A4 d7.symm) hx]
  have s0:Same H3 (upd (PM H3 dx .own x) x (.ins Y dx [])):=iJ (GR H3) c8 e0;refine⟨x,dx,a4j ns rss q caps p,d,rfl,A0,by unfold a4j;exact BS List.cons_ne_nil,hw,~~~b9A O,hd,AG d1 n7,AG d2 ho.rl,λH4 b2 kp=>rT⟩;rw[d1,d2,d3,d4,d5]at b2;have s4:Same H3 H4:=EF1;have qx:VM x:=J1 (P2.same s3) hx;rw[AE s4 (s3.trans s4) hv (hv.same s4)];have P4:=P2.same s4;clear s0 s3 s4 kp e0 hx c8 d7 hd hw O h3 P1 P2;rw[EM];rw[GN (A8P 4 0x69714aa65883b17d6d) p5 d8];rw[MO s5 H4 CLB d8];refine⟨p5,2,_,rfl,rfl,A0,AI,AI,AQE (4*2<=_) 0x2352cd9abfdc1ecbb17d6d hz,DYM⟩;have S0:St1 Y EYD a b x l v ns rss q caps p AT0:=by
   rw[HW s6 s5.upd CMB hl];rw[GZ (P4.same s6) (hv.same s6) (b2.same s6) qx A0 (J1 (P4.same s5) hl)]
  rw[EM];have e8:XL (BG 2).toNat AW6=FQ AT0 V.str:=by rw[ZC]
  rw[pV (([D8W,XC "beyond",XC "cheapest",XC "rows"]:AA)=Ls4.map V.str),e8];generalize EYD=H6 at S0;rw[LT (λm σ H'=>∃ws,m=ws.length/\CE8 AMD ws σ H') ⟨_,AT0,rfl,_,_,_,_,_,rfl,S0,FV,AI⟩];clear S0 hv P4 b2 d8 hl s5;rintro m σ H7 ⟨ws,rfl,o6,o7,o8,o9,e9,rfl,S7,b8,d9⟩;refine zQ F1 e he;rw[MO s8 H7 UP he];have hE:C6W E7G HQ e (ARC ws):=CD3 EqV.strs (EU (BQI S7.L));have S8:=S7.same s8;generalize E7G=H8 at hE S8;clear S7 s8 he;rw[DO (F19 hE) EJ];rw[BM N ws []]
  .rw[BB (bL N) B5 (F4F S8.P)]
  rw[jW N];have N:0<ws.length:=List.length_pos_iff.mpr N;rw[QP (y6 (λσ' H'=>EJZ (CE8 AMD L σ' H')) (λσ' H' (ALN L)=>GJ L.length h1 L h2))];have hm:EA ws.length<A01:=jO (show BQK<=8 by exact b9H d9);refine F3V S8.L l S8.L S8.P (BGV b2l N) (DT r1 H9 f5 e2 P9 f9);rw[BJ4 e2];rw[LV j rfl (YK j (r1=j)) r1.toNat AF];have hj:j<ws.length:= ~~~b2r e2
  have S9:=S8.pot P9 f9;have d6:UY seqIndex? rJ DGG j:=by
   rw[EUZ]
  refine F43 l BV4 S9.L d6;have a1:=S9.pop j;have b7:BV4∈Ls4:=DDC b8 hj;have a7:RB D96 DDA:=λy hy=>b8 y (CAL hy);have W:HY ws.eraseIdx j<ws.length:=by rw[BB (List.length_eraseIdx_of_lt hj) a8K N]
  generalize upd H9 l DES=a8 at a1;generalize BV4=R at b7;generalize D96=wr at a1 a7 W;clear S8 S9 P9 f9 hE d6 b8;rw[EM];rw[GN (bQ 2 b9o) a4 a6];rw[A62 b9 a8 AXW a6];rw[XZ b1 a8 a4 AXW a4 AXW];have a2:=a1.same b9;generalize EZ a8 a4 AXW=f1 at b9 b1 a2;refine BV3 (DP (VA a4 _ _ _ rfl rfl (EU b1) (two_gr _) ?_));clear a1 b9 a6 b1;rw[EM];obtain⟨gr,d0,b4,b5⟩:YK gr ((if BE4 C7D then(BG 40)else 150)=BG gr/\gr<=150/\(B7O->gr<=40)):=by
   rw[YI B7O]
   .exact⟨40,VL (iO (by rw[BB c decide_eq_true rfl])),AI,DF AI⟩
   .exact⟨150,VL (BC (λz=>c (V.str.inj (of_decide_eq_true z)))),AI,DYZ c⟩
  rw[d0];refine⟨_,rfl,_,rfl,_,rfl,_,rfl,_,_,rfl,rfl,a,b,_,rfl,a2.P,by show MX<C0D;rw[VY 21541775490397],jO (show C0D<=200 by rw[DN 0x81bdb597a095766be5 b4]),DT X f2 c5 S c0 c3⟩;have b0:=a2.pot c0 c3;refine r9 12 b0.P (λa5 e3 c6 c7 a9 c4=>tR (A8P 3 0x696e11a51062b17d6d) pA b6);rw[AE c1 (b0.pot a9 c4) SA (c1.same (GR e3 (o:=DD [DI gr,DI X,DI a5]) b6))];refine⟨a,b,pA,_,rfl,SA.P,A0,J1 a9 b6,CUL,BKJ 3,DW r HB F PB fB⟩;have S:X<C0D:=S;obtain⟨mm,rfl,U,e7⟩:YK m (eB r m/\BUX/\(B7O->m<=40)):=by
   rw[CYI F F]
   .exact⟨gr,e,b4,b5⟩
   .exact⟨X.toNat,KA e (AL2 X.toNat X),AF,λz=>bM (b5 z)⟩
   .exact⟨a5.toNat,KA e (AL2 a5.toNat a5),AF,CR1⟩
  have SB:=SA.pot PB fB;clear SA c1 b0 a2 fB PB c3 c4 c0 a9 b6 F c5 S c6 c7 d0 b4 b5;have b3:WdM R mm:=by
   simp only[Ls4,List.mem_cons,List.not_mem_nil,or_false]at b7;rcases b7 with e|e|e|e
   rw[HF ⟨e,U⟩]
   .exact VR ⟨BR7,U⟩
   .exact VR ⟨.inr e,U⟩
   .exact VG ⟨e,e7 e⟩
  have O:R.length<=60:=dR (BI b3.p ns ns rss rss (ss:=q) (cs:=caps)).ls;rw[DQ (F3N R mm q caps p SB.S b3 (BT o HC hA sC))];have SC:=SB.same sC;clear SB sC;rw[EM];obtain⟨dx,dn,dr,ds,dc,dq,f4,e1,_⟩:=SC.D.ex;have c9:MX<=BG mm/\D20<AEM:=⟨vP,jO (show D20<=150 by rw[DN 0x4b5881cbc7a1a6be5 U])⟩;have e6:=O5 c9;refine⟨_,rfl,x,dx,_,rfl,e1,rfl,_,rfl,_,_,rfl,rfl,by show AIS;rw[DL 0xbd9ec471a32ab303311f17d6e hz O],_,rfl,?_⟩;rw[A6Q X0];rw[JZ a2O c9];rw[DO ⟨_,_,rfl,rfl,by rw[C3];show _+1+_<=_;exact lq 0x410a0094f9d1f41487cc79c947f11f17d6f hz O e6,x,R,mm,ns,rss,q,caps,p,AH5 c9z,SC.D,hG,b3.p,BT o' HD a3 sD⟩ (a3.one hA)];rw[AE SD (SC.same sD) e1 (ACM sD)];clear SC sD a3;rw[DQ F4J];rw[DO (EDX ?_) BF5];rw[AIE];have fin:GC g fG H' Hp (AZS HD) (EJZ (CE8 AMD L [FB a0,dD,AMD,RX,BGO,yP,ACK R,g,DZ mm,EH4,EH4] H')):=λg H' s'=>⟨wr,W,_,_,_,_,_,rfl,SD.same s',a7,AU 85322961232862502 d9 W⟩;rw[YI B7O]
  .refine eC;rw[AD (bL (show C7D by rw[c])) (B5 (B5 DAI))]
  rw[DO eC (E4C C7D c)];rw[QP eC];by_cases c2:b1I o=wd "too many"
  .rw[AD (bL (show E15=D8X by rw[c2])) (B5 (B5 DAI))]
  rw[E4C (E15=D8X) c2];rw[AFZ];cases o with
  |tm=>rw[AID c2]
  |ok t =>
  obtain⟨e5,e4⟩:=hA.more U c;rw[DO ⟨_,rfl,x,dx,_,rfl,e1,rfl,_,rfl,_,_,rfl,rfl,by show _+5<=_;rw[DL 0x243a2c81bc0e975fc0a311f17d6e hz O],x,R,2000,ns,rss,q,caps,p,AH5 c4k,SD.D,hG,e5,BT o' HE a3 sE⟩ (a3.one e4)];refine eC;rw[BB BF5 B5 (VF sE)]
#where
#where
universe K50
namespace L2
open PySem PySem.Spec PyProof.Rows
open PySem.W
variable {K:qF}{h:Heap}{mg:BJ}{x qn m:Str}{st:Stmt}{C:qE}
structure FG(K:qF)(x:Str)(st:Stmt):Prop where
 ex:F4X (CBU/\EC6/\DOK/\B2Z)
structure MG(K:qF)(C:qE)(m qn:Str)(st:Stmt):Prop where
 ex:F4X (EM6/\DBD/\EC7/\DOL/\B2Z)
def FG.fa(g:BF x st)(X:B01)(G:AWW){ps:AC}
  (f:BIV e d (C8J E8B e pm an d ct):=by intro _ _ _ _ _ _ _ b;first | (rw[AYY (c7A b)];rfl) | (rw[AHA (c7z b)];rfl) | rw[DXE (c7y b)] | (obtain⟨_,_,_,_,rfl⟩:=c9l b;rfl) | (obtain⟨_,_,_,_,_,rfl⟩:=c9A b;rfl)):AMZ:=let ⟨_,_,_,_,_,_,_,_,_,_,a,l,c,k⟩:=g.ex;c9r X G a l c k f
def MG.ma(g:MG K C m qn st){ps:AC}
  (f:EWL:=by intro _ _ _ _ _ _ _ e;first | (rw[AYY (c7A e)];rfl) | (rw[AHA (c7z e)];rfl) | rw[DXE (c7y e)]):DPE:=let ⟨_,_,_,_,_,_,_,_,_,_,a,i,l,c,k⟩:=g.ex;c9i a i l c k f
universe L2
namespace K50
open PySem PySem.Spec PyProof.Rows L2
open PySem.W
noncomputable def nI(K:qF)(x:Str)(f:qE):Prop:=CBU
def all_mk{l:PySem.W.OpenLaw}{w:World}{K:qF}{h:Heap}{mg:BJ}{fa:qE}(X:B01)(G:AWW)(p3:uZ "law" fa)
 (g1:BF "free" b1C)
 (g2:BF "within" a5g)
 (g3:BF "row_sum" a3p)
 (g4:BF "sums" b1A)
 (g5:BF "is_answer" a0V)
 (g6:BF "pull_of" a3q)
 (g7:BF "falls" a8k)
 (g8:BF "below" a8l)
 (g9:BF "plus" b1B)
 (k3:BF "times" a8g)
 (k4:BF "nought" a5j)
 (k5:BF "unit" b1z)
 (k6:BF "least_of" a2h)
 (k7:BF "above_any" a0W)
 (k8:BF "first_steps" X7)
 (k9:BF "raised" a5h)
 (l0:BF "steps" a8h)
 (l1:BF "is_barred" a0U)
 (l2:BF "next_level" a0n)
 (l3:BF "least" a8j)
 (l4:BF "together" a2c)
 (l5:BF "narrowed" a2g)
 (l6:BF "by_rows" a3t)
 (l7:BF "cost" b1D)
 (l8:BF "cheapest" a2i)
 (l9:BF "is_name" a3r)
 (m0:BF "is_written" a0o)
 (m1:BF "read_figures" T5)
 (m2:BF "read_number" X6)
 (m3:BF "parted" a5i)
 (m4:BF "read_term" a0T)
 (m5:BF "read_terms" a0m)
 (m6:BF "read_sum" a2f)
 (m7:BF "take_number" X1)
 (m8:BF "take_all" a2d)
 (m9:BF "read_system" X5)
 (n0:BF "show_vector" X2)
 (n1:BF "show_term" a0S)
 (n2:BF "show_terms" a0l)
 (n3:BF "show_row" a2e)
 (n4:BF "show_numbers" T4)
 (n5:BF "show_system" X4)
 (n6:BF "sided" a8i)
 (n7:BF "sided_caps" a0k)
 (n8:BF "ending" a5m)
 (n9:BF "beyond" a5n)
 (o0:BF "is_line" a3s)
 (o1:BF "filled" a5l)
 (o2:BF "show_vectors" T3)
 (o3:BF "_law_pot" a2j)
 (o4:BF "_law_next" a0X)
 (o5:BF "_law_of" a3u)
 (o6:BF "_law_names" a0q)
 (o7:BF "_law_small" a0p)
 (o8:BF "_law_listed" X9)
 (o9:BF "_law_vector" X8)
 (p0:BF "_law_vectors" T7)
 (p1:BF "_law_found" a0r)
 (p2:BF "_law_due" a2k)
 (a67:nI K "law" f67) (p5:FnL K f67 "law" "law" a5k o67 d67 s67 v67 x67 p67 n67 c67 t67) (k0:BH5 c67 "law") (p4:ZK keepIn (AM f67))
  (z1:MF "ValueError") (z2:MF "abs") (z3:MF "all") (z4:MF "any") (z5:MF "enumerate") (z6:MF "int") (z7:MF "isinstance") (z8:MF "len") (z9:MF "list") (p6:MF "max") (p7:MF "min") (p8:MF "range") (p9:MF "set") (q0:MF "sorted") (q1:MF "str") (q2:MF "sum") (q3:MF "tuple") (q4:MF "zip")
  {f:qE}(c9:nI K "TooMany" f) {d:qE}(a9:nI K "NoAnswer" d) {a:qE}(f0:nI K "Finder" a) {b:qE}(g0:nI K "Draft" b) {c:qE}(i5:nI K "Desk" c) {f7:Tok}(d0:B70 "FIGURES" (A8U "0123456789" f7)) {f8:Tok}(d1:B70 "LETTERS" (A8U "abcdefghijklmnopqrstuvwxyz" f8)) {j9:Tok}(j4:B70 "TOP" (CJ2 j9)) {C:Tok}(t:B70 "GREATEST_MOST" (WE 2000 C)) {e3 e5:Str}{q:qE}{d3 g c7:AN}{d5 d2:Bool}{e6:AC}{b3:vI}{d4:IM}{d7 d8 d9 e0 e1:U3}(lx_TooMany:A38 f (AQF e3 e5 f q d3 g d5 e6 c7 d2 b3 d4 d7 d8 d9 e0 e1 "ValueError.__new__")) (e7:E3I g) (e4:D6U q) (d6:D9I q) (D:A4F g.contains) {c4 c5:Str}{k:qE}{b2 i a7:AN}{b5 b0:Bool}{c6:AC}{a1:vI}{b4:IM}{b6 b7 b8 b9 c0:U3}(c1:A38 d (AQF c4 c5 d k b2 i b5 c6 a7 b0 a1 b4 b6 b7 b8 b9 c0 "ValueError.__new__")) (j7:E3I i) (j6:D6U k) (j5:D9I k) (b1:A4F i.contains) (j8:PR (PU (AGU (Value.ref f) g) d)) {N:qE}{oL:Obj}{nL:Nat}{u1 u2 u3 u4:Tok}(h0:nI K "LISTS" N) (h4:A38 N oL) (cl_LISTS:(oL.cls,oL.data)=(DDV,Data.seq #[A8U "least" u1,A8U "beyond" u2,A8U "cheapest" u3,A8U "rows" u4] nL)) (f4:C6Y a) (f1:BTN a) (f5:BTO a) (f6:C7C CC) (f3:BTP a) (f2:AW7 CC) (a0:A7R "rows") (Y:A7R "caps") (J:A7R "begun") (Z:A7R "here") (L:A7R "found") (B:A7R "walked") (h6:C6Y b) (h1:BTN b) (h7:BTO b) (h8:C7C F0) (h5:BTP b) (h3:AW7 F0) (U:AJF "names") (a6:AJF "rows") (W:AJF "sides") (a5:AJF "caps") (I:AJF "prices") (j0:C6Y c) (i6:BTN c) (j1:BTO c) (j2:C7C XE) (i9:BTP c) (i7:AW7 XE) (a3:AJG "names") (c3:AJG "rows") (a4:AJG "sides") (c2:AJG "caps") (S:AJG "prices") (m_Finder___init__:zT "__init__" "Finder.__init__" M4) (i8:zT "step" "Finder.step" a6I) (j:zT "step_within" "Finder.step_within" I9) (i1:zT "level" "Finder.level" a5o) (R:zT "told" "Finder.told" Y0) (F:zT "paper" "Finder.paper" T8) (E:zT "ended" "Finder.ended" T9) (u:AJC "__init__" "Draft.__init__" N1) (a2:AJC "take" "Draft.take" a0s) (o:AJC "take_names" "Draft.take_names" K8) (x:AJC "take_sum" "Draft.take_sum" N0) (Q:AJC "whole" "Draft.whole" Y5) (z:zU "__init__" "Desk.__init__" O8) (e2:zU "say" "Desk.say" a2l) (O:zU "say_by" "Desk.say_by" Y6) (A:zU "say_rows" "Desk.say_rows" O7) (m:zU "say_cheapest" "Desk.say_cheapest" K0) (i0:zU "say_way" "Desk.say_way" a5p) (h9:zU "say_lay" "Desk.say_lay" a5q) :
  ∃fd:FuncData,(BOZ v [v] "_law_script" v)/\BOO BXY (EOR (CXL K base CX0 13 fa)):=by
 have e:=p3.symm.trans (fQ a67);rw[CP];have T:AV:=⟨MD z1,MD z2,MD z3,MD z4,MD z5,MD z6,MD z7,MD z8,MD z9,MD p6,MD p7,MD p8,MD p9,MD q0,MD q1,MD q2,MD q3,MD q4⟩;rw[FY (fnOf "law" "law" (N8 a5k) (E6 a5k) (A2 a5k) .none v67 x67 p67 n67 c67 t67) (λs v=>.of_eq rfl) (DS base XB GB)];rw[AE p (fQ c9) c8 (fQ a9)];rw[AE f9 (fQ f0) i2 (fQ g0)];rw[AE j3 (fQ i5) e8 (fQ d0)];rw[AE e9 (fQ d1) a8 (fQ j4)];have y:=PySem.W.mg_of X G t;have M:Cls K a:=⟨f4,f1,f5,f6⟩;have n:Cls K b:=⟨h6,h1,h7,h8⟩;have r:Cls K c:=⟨j0,i6,j1,j2⟩;rw[AE FL (a6f (st:=a5k) p5 k0 p4) RS (t8 b1L g3.fa)];rw[AE SU (sU c3Q g4.fa RS) IA (sU a8t g5.fa SU)];rw[AE FA (PK b8B g7.fa (gC b1M g6.fa) SU) BE (t8 b8E g8.fa)];rw[AE ST (PK b8s l0.fa FA (b5B (k9.fa X G))) NX (PK a6O l2.fa ST (sU a8s l1.fa BE))];have FS:=EZ5 a5F k8.fa T (gC c3O k5.fa) (gC b5y g2.fa);have UF:FiTx K a:=⟨M,a0,Y,J,Z,L,B⟩;rw[AE MI ((AV6 b8A (mg:=mg) m_Finder___init__.ma UF).make f9 f3 f2) MS (b8r j.ma UF T NX FS IA)];rw[AE ME (C8G b8C E.ma) MT (C8G c3P R.ma)];rw[AE MP (C8G b8v F.ma) LE (PK b8x l3.fa UF M MI MS ME MT MP (c6Y XB p lx_TooMany e7 e4 d6))];have i3:=fQ h0;have i4:DWX N:=λH=>DP ⟨oL,_,nL,h4,AWH cl_LISTS,D9F cl_LISTS,(by show BZ 4;rw[BA3]),A5S (IC u1) .cons (IC u2) (A5S (IC u3) .cons (IC u4) .nil)⟩;have RF:=sU a4u m1.fa (AV6 a6P (OC m0.fa) T e8);have UD:DrTx K b:=⟨n,U,a6,W,a5,I⟩;rw[AE RN (sU a5E m2.fa RF) RM (PK b0e m6.fa a8 (PK a6N m5.fa (PK a8r m4.fa a8 RN) (gC b5C m3.fa)))];rw[AE k1 ((AV6 b8D (mg:=mg) u.ma UD).make i2 h5 h3) k2 (b8q a2.ma UD T n (PK a5A m7.fa a8 RN) (a6K o.ma UD T (sU b1N l9.fa e9)) (b0a x.ma UD T RM))];rw[AE RY (PK a5D m9.fa UD n k1 (PK b0b m8.fa n k2) (b8o Q.ma UD T)) SS (PK a5C n5.fa (CCI b0c n3.fa a6M n2.fa (t8 a8q n1.fa)) (gC a4s n4.fa))];rw[AE NP (t8 c3S o4.fa) OF (sU c9f o5.fa NP)];rw[AE SM (b8t (OC o7.fa) T NP OF (PK b8w o6.fa NP OF)) NO (EZ5 b5D k4.fa)];rw[AE PL (t8 c3R g9.fa) TG (a9Z (OC l4.fa) T NO (gC b8p k3.fa) PL)];rw[AE FR (CG8 c3T (mg:=mg) (OC g1.fa)) LO (CCI b0g k6.fa a6Q k7.fa BE)];rw[AE NR (PK b0f l5.fa RS FR TG LO LE) BR (b1P (OC l6.fa) T FR FS NR)];rw[AE BY (b5H (OC n9.fa) T (gC b8u n6.fa) (sU a6L n7.fa FR) (gC b5G n8.fa) LE) CH (CCI b0h l8.fa c3U l7.fa RS)];rw[AE SV (t8 a5B n0.fa) FI (t8 b5F o1.fa)];have VS:=PK a4r o2.fa FI SV;have UK:DrTx K c:=⟨r,a3,c3,a4,c2,S⟩;rw[AE SR (b0d A.ma UK T BR) SC (a4t m.ma UK T CH SV)];have SB:=b5A O.ma UK T r VS LE BY SR SC;have CN:ClsN K d f:=⟨b4I c1 b1,_,_,_,_,_,_,_,_,_,_,_,_,_,_,_,_,_,lx_TooMany,D,j8⟩;rw[AE SY (c7l e2.ma UK T r a8 RN (b1O (OC o0.fa) T i3 i4 y) SB CN c8 p) KI ((b8y (mg:=mg) z.ma UK RY).make j3 i9 i7)];rw[AE VE (t8 b5z o9.fa) FO (PK b8z p1.fa LE BR BY p (b4I lx_TooMany D))];have DU:=c7o (OC p2.fa) T FO (PK b1K p0.fa (gC b5E o8.fa) VE) VE CH;exact c7n FL T r (gC c7m o3.fa) NP OF SM SS KI SY DU
universe K50
#where
structure PySem.W.Fast where(tw13099187409444430941 tw17353022135075411721 tw10662236086634934821 tw11891743806430376149 tw10983448320443036452 tw13001113282930212411 tw14019817802711647269 tw8734163961664519934 tw1452364114810697406 tw7870691113691114899 tw5636916638648685654 tw7120798296874697150 tw6104930829170336656 tw9027299098548867962 tw12572175961426558525 tw2287490570352163407 tw15420241401934915203 tw6735659765819808337 tw738798609430820785 tw7291779375554503176 tw1548355993601302688 tw10370735773816306333 tw12252736105724756852 tw17217341949320682230 tw5768473270288525623 tw674541780697715975 tw17652716639080438178 tw13512044568587984886 tw17129668709209888735 tw10240698285102857182 tw13775218359311669443 tw6595642291199024741 tw13226298756999627320 tw12815493738458724277 tw16390535637208571012 tw1676852261352291321 tw7398598795347829225 tw5790195609699786713 tw3455930882111544139 tw2284321367567320882 tw6267207101763474295 tw538888305281075681 tw8709424486092038096 tw5946933944724053820 tw2393919758650300234 tw4063090670389947174 tw10898894385544917016 tw4199188259388664812 tw14033071581562947314 tw7770246076111248801 tw7983223598814078874 tw1587430903855316554 tw16563656973595898241 tw12672271408440317211 tw2818826526670407889 tw10127179516478478277 tw14058583668685370198 tw6911497982586901734 tw7427729127673958771 tw716557108656153760 tw4807590764207574295 tw11207167692179388450 tw13192121588221923000 tw12314104730565101211 tw17515565140839595458 tw11069969350640337683 tw12835205142088143253 tw4560696394200324714 tw7605374311045642129 tw12341827604228326164 tw4958820533235504604 tw17865272693222654448 tw6614250253110987944 tw15207208330287048585 tw378638841680262532 tw14155125452823826179 tw11601375238670935864 tw10854949695381514627 tw8883634218996343819 tw11548905494693371837 tw7200334215848621218 tw12154085085131215023 tw4506529821738240535 tw15496224358414380433 tw8988347048581440854 tw3395884632821916249 tw17120075955191184968 tw9557290588634894056 tw703463374398657404 tw11371275436266911670 tw16519795597954984587 tw3854724946258665323 tw2562248979898734805 tw5754973469244197214 tw14271520803760691232 tw2284371630285402040 tw10500097030233487121 tw2009699685362488820 tw16562208876872799684 tw10699864370751729427 tw9788357757435910731 tw13341974710460918383 tw3724343239665646789 tw4441175202218917308 tw1270714134420008499 tw12141532368109631382 tw17127775505792976069 tw10990317401288671703 tw1342893090323000077 tw11897265589700595924 tw3879904596312972803 tw15353843450999075258 tw14949493714190675079 tw8654490930826677559 tw15352202279813005773 tw10580872706473000160 tw9036690907324789049 tw11839389452592000729 tw14220270277232966164 tw10783448415635988009 tw9633773167191359852 tw3545155173017107451 tw3597241628619288778 tw13943841169768162096 tw12474176858376787485 tw10485990735485970811 tw7851990680043801824 tw14225643037942845114 tw7418016465864064729 tw3924262031588576057 tw7895355706299547206 tw2696392916688406910 tw826191589470456106 tw13837848238049490280 tw13799207905174265169 tw4619416052391442281 tw10412509753327215146 tw16690927073347626579 tw13383266292486442666 tw15660956433867607920 tw12889295436188718628 tw12680788236647400998 tw14810751662356233866 tw11685601861337523107 tw2321394061466242630 tw8590370070593641859 tw13757861598390444903 tw4496339754463363674 tw15308328283345583931 tw178382184646883461 tw16342410899002811606 tw11610840468361222860 tw6745254238250771732 tw2046749342719826755 tw5496083568256499552 tw12596463753840588673 tw17591618378059890847 tw16262914107913950559 tw4663280071060883313 tw8053374562741395601 tw14015012357388419463 tw2038287381544827329 tw12566723249266145074 tw6322866505021912841 tw16827405517383926095 tw14143826105289111636 tw11042562686924992292 tw11138362500799074373 tw14845653719929874250 tw12065640704549275965 tw12678607969996999768 tw4172161838241957219 tw326201943058046999 tw12821112028641236673 tw13025661888777253289 tw13941733384381550475 tw17517996009814910278 tw2894744983035418915 tw6993915969603711715 tw4834520553994392507 tw15348844229933408564 tw12263157323641626244 tw91856177891337949 tw337162186684841809 tw15294334164192313672 tw8231448927880149689 tw9582467826341094206 tw2753697745041593509 tw11741570881070709268 tw4021421880899278544 tw12279459136452134917 tw4792385541153437691 tw14560768673058638144 tw2675357742460644660 tw8329568216013270747 tw13530484125578043977 tw15136555832792171113 tw17451967164116597360 tw6492739751444100005 tw6916684789337455462 tw11327241944692771714 tw13366866488022934327 tw11752154481243875508 tw15081561783090561984 tw18393356085000666019 tw2067563927209938190 tw9571599148132867866 tw5816796201222967434 tw8960572586103610393 tw14405796468888323341 tw9740926210043802863 tw3970791629398852856 tw455385828239040372 tw7812740288134152849 tw11322933919652479538 tw3297863866336602350 tw9317141115688087389 tw13964066180781421255 tw7615601932229262844 tw15917493972270110324 tw14727253831729096008 tw11496620610635182537 tw11371094827372172248 tw13143798338016017752 tw5591322855761306842 tw8709109962974317339 tw11416612869799638207 tw7959017912056368224 tw4329234912419072105 tw16512759668890284107 tw11392829229156676963 tw1109040829264737942 tw7820108697690884428 tw2380870555816460349 tw16478640611088135591 tw11996050979799176025 tw15922032857367015396 tw2979266514622065624 tw14385781688932242955 tw12745794100128465898 tw12264237340678219308 tw10859628403017885268 tw14684760031091435074 tw1836139311344196720 tw3854648258570445141 tw2960534713414913460 tw2667809959905355359 tw13468738572557906569 tw12660243853460309895 tw3632148252921684977 tw11649152920909516646 tw13877774636479463563 tw1451532285011675229 tw15342896986459923357 tw6790143097152221428 tw7274886911270479237 tw14989719377585510368 tw13549564354555991627 tw13617795623284745105 tw1256213769241366942 tw16304211216537562916 tw250880045939935961 tw10563224334804406089 tw9424410316897967231 tw5135852177791050235 tw4769067242171117415 tw16553088480513667340 tw10818148710757420090 tw8024970195238593986 tw17752040996339677691 tw13163247013898729006 tw15799552635173186623 tw18270716318765238910 tw12497849263839589004 tw12246559728073213951 tw11982756746241273554 tw5034936293376011451 tw13880768291256920908 tw11674941792082943197 tw9773713239595568057 tw1425354678139687146 tw8586232620215325784 tw11112537991661354606 tw11369043069778840054 tw17480842185887793145 tw1661038300537987051 tw6159688835391055562 tw3336763140558666243 tw1812762896608339675 tw3247222760169642946 tw8813725516174976783 tw16579797316302780629 tw5855243604613539480 tw8629432829899325896 tw4775657682665145965 tw3030583150704751102 tw6035010703488279007 tw5616750184956859126 tw18191161594053153998 tw13487788461185592939 tw700949421314443161 tw16878925979452320700 tw10254660326645215007 tw12610135547578967428 tw1695435523494548620 tw16355055053707556837 tw8211970510656876183 tw6658420450483154949 tw6515418268756252885 tw13386591911671779469 tw1132298750902002061 tw13661515718511062991 tw3952566054436398447 tw14322298717492603350 tw6925156404541903627 tw7392963951910996938 tw15237946282646335092 tw3726372004153923416 tw10602502099490919666 tw880989371856130182 tw18211905220937076439 tw9773779622481023515 tw1836032986389554184 tw3350481728782445548 tw5545140766728835151 tw17184998396452922443 tw17961665403457391141 tw4862228457585299703 tw9505352771220129475 tw12553521500984355190 tw10547320143484537020 tw665540022667020573 tw17214632301130227700 tw17298833103363123807 tw15132514008927185293 tw3429851763712882221 tw14770370786930023329 tw17939040922592640471 tw13017270422430072825 tw11456788133967234563 tw8267132792555895997 tw13369434386576696526 tw11418082612199147581 tw5446666789064857861 tw15278139398900951753 tw13214323829613568781 tw9168659878119873586 tw11466701259381525450 tw7770460637077188279 tw11621848117780887728 tw6193316112955108418 tw14151239396403118791 tw14039579440662533182 tw16333152765545223923 tw15233771914710295926 tw3250401066398642048 tw4700755458288068670 tw2374356903790776839 tw15004162695512725042 tw14649285359527388982 tw17595873475936360095 tw13250772160886703844 tw1156004582532348063 tw13684412047383252284 tw10018065894949903217 tw2166124777248417265 tw8860435054030715726 tw16902945523249196164 tw3430137501095803237 tw17766036188724395095 tw16788911135996335572 tw17070643837594270777 tw2226636861276296246 tw2845368870506048937 tw17667445351801562675 tw3890491129089765537 tw15537051664426911968 tw9818654317597622892 tw8160897747943169605 tw15841694883538776928 tw7781871497532233134 tw14833710387869961837 tw4945001052304503873 tw12286327873766911168 tw1831583108357878832 tw14198424618357068936 tw16606460997625614210 tw4676779628004285893 tw15909806103904717074 tw4680151801324172089 tw16668641040212314777 tw6637988847263888763 tw5865846590340242977 tw11093637118679878970 tw16779528474977307520 tw12340871550405623298 tw4838994724326123321 tw11419643735438927895 tw7118045377205303097 tw16891118616933888624 tw11951026563946983828 tw17215090736743497280 tw15980998309576670048 tw7075356720661619823 tw9740311508920039707 tw17047099644695735280 tw15238149100100961193 tw12728721895402109283 tw12430621896184960712 tw3100078223355860582 tw3665620329088863405 tw13728790395481212041 tw5062629606459563757 tw2480619998292003081 tw8125699398735697491 tw8101335811486287594 tw6779594341838138307 tw12641625661253614901 tw15710358059019570140 tw15123013590668632668 tw5030896782965096447 tw1477316439660514089 tw13181636448232073358 tw7796046653522511578 tw8039436449507707160 tw11057181001179995071 tw4401015019627473127 tw3057407739976483738 tw7196722683601087213 tw11724300513349206813 tw101813722658182369 tw17903963854694259855 tw337233951013429308 tw17770736046454070106 tw892119151828346917 tw4214703459890780246 tw2172232666799153178 tw919331393624378397 tw15729383248248160953 tw16092200961974697181 tw5258795590680954780 tw8659604135813685448 tw11953515751059593173 tw2010660051169286791 tw8142808736176640474 tw1520854236884031555 tw8586308575190280571 tw16026487624061097690 tw7125579740517908636 tw17141869515535141484 tw14286741296612328854 tw8646593055830449291 tw15603313973129858330 tw9138528280926500988 tw5928293030682486627 tw15957880371329160348 tw2013512120463370444 tw17090881813938004748 tw8382837591338633798 tw12605793801683344237 tw2451729509930496707 tw6272648690112604842 tw14856791112751158831 tw12734976082681526 tw15982693461966115012 tw9078218527633924653 tw4752983256971311989 tw3967332100673867025 tw6631356675488167854 tw7522224020658360765 tw16590406045674949978 tw3964254322837660477 tw14726204676643793242 tw1179010953578468719 tw10255564179557475711 tw12291292095114203732 tw8616129488043156734 tw7556152851893199769 tw9183252022080511349 tw12751149969479469999 tw6735520190530280391 tw4666393400859947540 tw15985432794463479177 tw12681205323181313615 tw863620094091748198 tw12705175093669932111 tw2570743082918483746 tw6693758288434114924 tw13985491785456501037 tw5225714464414132789 tw3743409829344712248 tw9750366073957661909 tw1108020328877198063 tw13646643216098550489 tw1997843092840828593 tw10740960029795952870 tw17839625402764166475 tw10046076623747530048 tw15941517371398135900 tw2433177466968753533 tw6482721205709892294 tw13385861966995922145 tw9125997333603727643 tw13942610816219200898 tw5494748140493793864 tw9827951326034585260 tw15499357343758315557 tw4033333724160058916 tw15691429375210823255 tw12446885525108873374 tw2808462787211246658 tw5106842191956156056 tw14003617195783824001 tw3414002291103087809 tw625044565985477097 tw7380882574295053577 tw3173185351604612941 tw16980015472469178310 tw6698725580846004512 tw14295729832834513488 tw2125177425726586540 tw2222638485945838187 tw11839878556934435753 tw9667062589657739708 tw5687860238933275275 tw14598485274979439081 tw3242992515843059753 tw13210462172272237758 tw17023745200926000765 tw359864631646955948 tw16154428048200794129 tw13101952704325900459 tw6818939006646791105 tw11604034923148251598 tw15705452133902802543 tw3260581235498234333 tw10620108337004832527 tw14519012609620323444 tw4298440827921633077 tw17764614312798471378 tw5355799679908812484 tw6909174304368238276 tw17357651929477563505 tw16522231337437484828 tw1506072031210874606 tw8915553564596549042 tw1225410901319177447 tw17765526671259242528 tw9023384967455035383 tw3488233662073990869 tw10147240034327941177 tw3497685612796329653 tw1743701369843040781 tw7517227874936820962 tw2785140017969162261 tw6761516872554208182 tw3294008890443642034 tw1990492837302278004 tw4968387246672366226 tw1420498668002930299 tw10640605441820024055 tw9571181743941114136 tw12924043866859757705 tw18143323463301194279 tw17004718551851501444 tw10810081959473354062 tw4116961792669366617 tw17961468698991887077 tw16643570640479509568 tw15944442177443074425 tw6947758221321308056 tw14952511934822467355 tw794827465946874570 tw8000877724108487909 tw6834044637323880149 tw4325521874065457007 tw14117904755079361826 tw12015500422503946001 tw696077143385588454 tw14851050946763100821 tw1127693445449509748 tw1344078250911157914 tw12895663262115429108 tw17568830334779820869 tw11228713715158139018 tw13427145860490429558 tw4716141408895037741 tw2546846747525327986 tw7170387332896018685 tw550557248100907538 tw13584195933822327173 tw14062476138837831900 tw17910969880521840054 tw2532039812692638474 tw2887367008794612674 tw14932375733865877856 tw10375341352713560738 tw3200261030622994910 tw5739867674117422511 tw734708193599618786 tw5506126547621327060 tw3890084638983731510 tw9449475777374555265 tw15386197809213167838 tw603891407595854844 tw4673875293021957264 tw8278852011239445559 tw6042284703610574441 tw9328255478465746942 tw8283737586544503679 tw12529936396110532340:True)
end
open PySem PySem.W PyProof.Rows
set_option maxRecDepth 100000 in
set_option maxHeartbeats 0 in
theorem PySem.Challenge.cw_leastlays_k50_desk_finds_holds : PySem.Challenge.rw_leastlays_k50_desk_finds.Holds := by
 w_on;o_law;k_head;(case hw=>w_witness2)
 k_fill
 refine L2.law_walk (l:=PySem.Challenge.rw_leastlays_k50_desk_finds) 13 rfl rfl ⟨rfl,by decide,by decide⟩ (λw h Y=>PySem.W.kIn_of Y) ?F
 case F =>
  intro w mg fa h KX G hmg
  refine' K50.all_mk KX G hmg ?g1 ?g2 ?g3 ?g4 ?g5 ?g6 ?g7 ?g8 ?g9 ?g11 ?g13 ?g14 ?g15 ?g16 ?g17 ?g18 ?g19 ?g20 ?g21 ?g22 ?g23 ?g26 ?g27 ?g28 ?g29 ?g30 ?g31 ?g32 ?g33 ?g34 ?g35 ?g36 ?g37 ?g38 ?g39 ?g40 ?g41 ?g42 ?g43 ?g44 ?g45 ?g46 ?g47 ?g48 ?g49 ?g50 ?g53 ?g54 ?g55 ?g57 ?g58 ?g59 ?g60 ?g61 ?g62 ?g63 ?g64 ?g65 ?g66 ?a67 ?l67 ?c_67 ?k67 ?z1 ?z2 ?z3 ?z4 ?z5 ?z6 ?z7 ?z8 ?z9 ?z10 ?z11 ?z12 ?z13 ?z14 ?z15 ?z16 ?z17 ?z18 ?aD_TooMany ?aD_NoAnswer ?aD_Finder ?aD_Draft ?aD_Desk ?aS_FIGURES ?aS_LETTERS ?aS_TOP ?aS_GREATEST_MOST ?lx_TooMany ?tx_TooMany ?ok_TooMany ?in_TooMany ?be_TooMany ?lx_NoAnswer ?tx_NoAnswer ?ok_NoAnswer ?in_NoAnswer ?be_NoAnswer ?no_TN ?aD_LISTS ?lk_LISTS ?cl_LISTS ?pg_Finder ?hd_Finder ?po_Finder ?sa_Finder ?mk_Finder ?kc_Finder ?n_Finder_rows ?n_Finder_caps ?n_Finder_begun ?n_Finder_here ?n_Finder_found ?n_Finder_walked ?pg_Draft ?hd_Draft ?po_Draft ?sa_Draft ?mk_Draft ?kc_Draft ?n_Draft_names ?n_Draft_rows ?n_Draft_sides ?n_Draft_caps ?n_Draft_prices ?pg_Desk ?hd_Desk ?po_Desk ?sa_Desk ?mk_Desk ?kc_Desk ?n_Desk_names ?n_Desk_rows ?n_Desk_sides ?n_Desk_caps ?n_Desk_prices ?m_Finder___init__ ?m_Finder_step ?m_Finder_step_within ?m_Finder_level ?m_Finder_told ?m_Finder_paper ?m_Finder_ended ?m_Draft___init__ ?m_Draft_take ?m_Draft_take_names ?m_Draft_take_sum ?m_Draft_whole ?m_Desk___init__ ?m_Desk_say ?m_Desk_say_by ?m_Desk_say_rows ?m_Desk_say_cheapest ?m_Desk_say_way ?m_Desk_say_lay
  (case a67|l67|c_67|k67|z1|z2|z3|z4|z5|z6|z7|z8|z9|z10|z11|z12|z13|z14|z15|z16|z17|z18|aD_TooMany|aD_NoAnswer|aD_Finder|aD_Draft|aD_Desk|aS_FIGURES|aS_LETTERS|aS_TOP|aS_GREATEST_MOST|pg_Finder|hd_Finder|po_Finder|sa_Finder|mk_Finder|kc_Finder|n_Finder_rows|n_Finder_caps|n_Finder_begun|n_Finder_here|n_Finder_found|n_Finder_walked|pg_Draft|hd_Draft|po_Draft|sa_Draft|mk_Draft|kc_Draft|n_Draft_names|n_Draft_rows|n_Draft_sides|n_Draft_caps|n_Draft_prices|pg_Desk|hd_Desk|po_Desk|sa_Desk|mk_Desk|kc_Desk|n_Desk_names|n_Desk_rows|n_Desk_sides|n_Desk_caps|n_Desk_prices=>(try unfold L2.FnL);(try unfold K50.nI);k_is)
  (case g1|g2|g3|g4|g5|g6|g7|g8|g9|g11|g13|g14|g15|g16|g17|g18|g19|g20|g21|g22|g23|g26|g27|g28|g29|g30|g31|g32|g33|g34|g35|g36|g37|g38|g39|g40|g41|g42|g43|g44|g45|g46|g47|g48|g49|g50|g53|g54|g55|g57|g58|g59|g60|g61|g62|g63|g64|g65|g66=>exact⟨⟨_,_,_,_,_,_,_,_,_,_,by k_is,by(try unfold L2.FnL);(try unfold K50.nI);k_is,by k_is,by k_is⟩⟩)
  (case m_Finder___init__|m_Finder_step|m_Finder_step_within|m_Finder_level|m_Finder_told|m_Finder_paper|m_Finder_ended|m_Draft___init__|m_Draft_take|m_Draft_take_names|m_Draft_take_sum|m_Draft_whole|m_Desk___init__|m_Desk_say|m_Desk_say_by|m_Desk_say_rows|m_Desk_say_cheapest|m_Desk_say_way|m_Desk_say_lay=>exact⟨⟨_,_,_,_,_,_,_,_,_,_,by k_is,by k_is,by(try unfold L2.FnL);(try unfold K50.nI);k_is,by k_is,by k_is⟩⟩)
  (case lx_TooMany|tx_TooMany|ok_TooMany|in_TooMany|be_TooMany|lx_NoAnswer|tx_NoAnswer|ok_NoAnswer|in_NoAnswer|be_NoAnswer|no_TN|aD_LISTS|lk_LISTS=>first|k_is|kernel_rfl|rfl)
  (case cl_LISTS=>first|exact rfl | (trace_state;with_unfolding_all exact rfl) | (refine Prod.ext ?_ ?_<;>rfl))
#print axioms PySem.Challenge.cw_leastlays_k50_desk_finds_holds
