import PyProof.Rows.All
import Wide.All
import OpenK.AllK
import Wide.FinOn
import Lean
import PyProof.EqAt
import PyProof.EqKinds
import PyProof.TupleCall
import PyProof.ZipIter
import PyProof.ExcArgsOwn
import PyProof.ExcAttrAll.ValueError
import KE.KSortTup
import PySem.SetTable
import PyProof.SetNew
import PyProof.TupleKey
import PyProof.DictRoadsH
import PyProof.DictKinds
import PyProof.IsRules
import PyProof.Rows.SetFrom
import PyProof.WalksMore
import KE.KDictSum
import PyProof.Rows.CallKwBuiltin
import PyProof.MinMaxWalk
import KE.KDictOf
import PyProof.AttrMissHeap
import PyProof.AutoSeq1
import PyProof.TupleOfSeq
import PyProof.ListRange
import KE.KRevIter
import PyProof.MeetsStr
import PyProof.MeetsStr2
import PyProof.StrLawsJoin
import PyProof.StrLawsChain
import PyProof.Rows.StrItems
import KE.KIntText
import PyProof.Rows.ReprOcc
import PyProof.StrWalks
import PyProof.CallType
import PyProof.StrOps
import PyProof.StrLawsIn
import PyProof.StrBlock2
import PyProof.FString2
import PyProof.SetKind
import PySem.Challenge.RW_leastlays_k51_desk_ways_and_lays
set_option compiler.extract_closed false
set_option bootstrap.genMatcherCode false
set_option genSizeOf false
set_option Elab.async false
set_option linter.all false
set_option maxRecDepth 2000000
set_option maxHeartbeats 4000000
def zX(r:Lean.Name->Array Lean.Syntax->Option (Lean.Syntax×Nat))(s:Lean.Syntax):Lean.Syntax:=s.rewriteBottomUp fun s=>match s with
 |.ident _ _ n _=>match r n .empty with|some (x,_)=>x|_=>s
 |.node _ q c=>if q==`Lean.Parser.Term.app then
   let n:Array Lean.Syntax->Lean.Syntax:=.node .none `null
   let a:=c[1]!.getArgs
   let (h,k):=match c[0]! with|.ident _ _ i _=>(match r i a with|some (_,0)=>(c[0]!,0)|some x=>x|_=>(c[0]!,0))|h=>(h,0)
   let a:=a.extract k a.size
   if a.isEmpty then h else if h.isOfKind q then h.setArg 1 (n (h[1].getArgs++a)) else(s.setArg 0 h).setArg 1 (n a)
  else if q==`Lean.Parser.Tactic.tacticSeq1Indented then s.setArg 0 (.node .none `null (c[0]!.getArgs.flatMap fun e=>if e.isOfKind `Lean.Parser.Tactic.rwSeq then let b:=e[2][1][0][1];if b.isOfKind `Lean.Parser.Term.byTactic then b[1][0][0].getArgs else .singleton e else .singleton e))
  else if q==`Lean.Parser.Term.paren && (c[1]!.isOfKind `Lean.Parser.Term.typeAscription || c[1]!.isOfKind `Lean.Parser.Term.anonymousCtor) then c[1]! else s
 |_=>s
def zR(T:Lean.NameMap Nat)(m:Lean.NameMap (Lean.Syntax×Nat))(s:Lean.Syntax):Lean.Syntax:=s|>zX fun n a=>match m.find? n with
 |some (b,0)=>some (b,0)
 |some (b,k)=>if a.size<k then none else some (zX (fun n _=>(T.find? n).bind fun i=>a[i]?.map fun x=>(if x.isOfKind `Lean.Parser.Term.paren then x[1] else x,0)) b,k)
 |_=>none
def zY(T:Lean.NameMap Nat)(K:List Lean.Name)(b:Array Lean.Syntax):Lean.NameMap (Lean.Syntax×Nat):=Id.run do
 let C:=Lean.NameSet.ofList (K.take b.size)
 let mut m:Lean.NameMap (Lean.Syntax×Nat):={}
 let mut w:List (Lean.Name×Lean.Syntax×Nat×List Lean.Name):=[]
 for (n,x) in K.zip (b.toList.map fun x=>if x.isOfKind `Lean.Parser.Term.paren then x[1] else x) do
  let mut k:=0
  let mut u:=[]
  for s in x.topDown do if s.isIdent then
   if T.contains s.getId then k:=k+1
   if C.contains s.getId then u:=s.getId::u
  w:=(n,x,k,u)::w
 for _ in [0:99] do
  let (y,z):=w.partition fun(_,_,_,u)=>u.all m.contains
  let o:=m
  for (n,x,k,_) in y do m:=m.insert n (zR T o x,k)
  w:=z
 return m
def zK(k:List Lean.Name):List Lean.Name:=
 let B:="0123456789ABCDEFGHIJKLMNOPQRSTUVWXYZ".toList
 let w:="ABCDEFGHIJKLMNOPQRSTUVWXYZabcdefghijklmnopqrstuvwxyz".toList.flatMap fun a=>B.map fun b=>[a,b]
 let q:=Lean.NameSet.ofList k
 ((w++w.flatMap fun a=>B.map fun b=>a++[b]).map fun c=>Lean.Name.mkSimple (.ofList c)).filter fun n=>!q.contains n
local macro_rules|`(mutual $c* end)=>do
 let d:=c[0]!.raw[1][1]
 unless c[0]!.raw.isOfKind `Lean.Parser.Command.check do Lean.Macro.throwUnsupported
 let k:=d[0].getArgs.toList.map (·.getId)
 let T:Lean.NameMap Nat:=(k.zip (List.range 9)).foldl (fun m(n,i)=>m.insert n i) {}
 let m:=zY T (zK k) d[3][1].getSepArgs
 let mut o:Array Lean.Syntax:=.empty
 for x in c.extract 1 c.size do
  let i:Lean.Ident:=⟨x.raw[1][0]⟩
  if x.raw.isOfKind `Lean.Parser.Command.where then o:=o.push (<-`(command|end)) else if x.raw.isOfKind `Lean.Parser.Command.universe then o:=o.push (<-`(command|end $i:ident)) else o:=o.push (zR T m x)
 return Lean.mkNullNode o
mutual
#check λz0 zA zB zC zD zE zF zG zH A0 A1 A2 A3 A4 A5 A6 A7 A8 A9 AN AP B0 B1 B2 B3 B4 B5 B6 B7 B8 B9 BE C0 C1 C2 C3 C4 C5 C6 C7 C8 C9 CE CN CR CT CX D0 D1 D3 D5 D6 D7 D8 D9 DH E0 E1 E2 E3 E4 E5 E6 E7 E8 E9 EP F3 F4 F5 F6 F7 F8 F9 FA FG FI FL FM FR FS G0 G1 G2 G3 G4 G5 G6 G7 G8 G9 GB H0 H1 H2 H3 H4 H5 H6 H7 H8 H9 HA HB HC HD HE HF HG HO HT I0 I1 I2 I3 I4 I5 I6 I7 I8 I9 IA IK IT J0 J1 J2 J3 J4 J5 J6 J7 J8 J9 JA JB JE JF JG JI JO JS JT JW JX K0 K1 K2 K3 K4 K5 K6 K7 K8 K9 KE KI KT KV KX L0 L2 L3 L4 L5 L6 L7 L8 L9 LA LB LD LE LL M0 M1 M2 M3 M4 M5 M6 M7 M8 M9 ME MG MH MI MJ MN MP MS MT N0 N1 N2 N3 N4 N5 N6 N7 N8 N9 NC NN NO NP NX O0 O1 O2 O3 O4 O5 O6 O7 O8 O9 OC OF OL OT P0 P1 P2 P3 P4 P5 P6 P7 P8 P9 PA PB PC PD PE PG PI PL PO PS PT PW Q0 Q1 Q2 Q3 Q4 Q5 Q6 Q7 Q8 Q9 QB R0 R1 R2 R3 R4 R5 R6 R7 R8 R9 RF RI RL RM RN RR RS RY S1 S2 S3 S4 S5 S6 S7 S8 S9 SA SB SL SM SP SS ST SU SV SW SY T0 T1 T2 T3 T4 T5 T7 T8 T9 TA TE TF TG TI TO TP TS TT TX U0 U1 U2 U4 U5 U6 U7 U8 U9 UD UF UK UN V0 V1 V2 V3 V4 V5 V6 V7 V8 V9 VE VK VV W3 W4 W5 W6 W7 W8 W9 WY X0 X1 X2 X4 X5 X6 X7 X8 X9 XB XK XP Y0 Y1 Y2 Y3 Y4 Y5 Y6 Y7 Y8 Y9 Z0 Z1 Z2 Z3 Z4 Z5 Z6 Z7 Z8 Z9 a0 a1 a2 a3 a4 a5 a6 a7 a8 a9 b0 b1 b2 b3 b4 b5 b6 b7 b8 b9 c0 c1 c2 c3 c4 c5 c6 c7 c8 c9 cV d0 d1 d2 d3 d4 d5 d6 d7 d8 d9 dA dB dK dT e0 e1 e2 e3 e4 e5 e6 e7 e8 e9 eA eG eK eL eP f0 f1 f2 f3 f4 f5 f6 f7 f8 f9 fA fB g0 g1 g2 g3 g4 g5 g6 g7 g8 g9 gI gS gV h0 h1 h2 h3 h4 h5 h6 h7 h8 h9 hA hB hC hD hE hF hG hI hK hL hM hN hO hP hR hS hT hU hV hW i0 i1 i2 i3 i4 i5 i6 i7 i8 i9 j0 j1 j2 j3 j4 j5 j6 j7 j8 j9 k0 k1 k2 k3 k4 k5 k6 k7 k8 k9 kV l0 l1 l2 l3 l4 l5 l6 l7 l8 l9 lG m0 m1 m2 m3 m4 m5 m6 m7 m8 m9 mA mN n0 n1 n2 n3 n4 n5 n6 n7 n8 n9 nI o0 o1 o2 o3 o4 o5 o6 o7 o8 o9 oA oD oG oI oL p0 p1 p2 p3 p4 p5 p6 p7 p8 p9 pA pB pD pG q0 q1 q2 q3 q4 q5 q6 q7 q8 q9 qA qB qC qD qE qF qG qH qI qJ qK qL qM qN qO qP qQ qR qS r0 r1 r2 r3 r4 r5 r6 r7 r8 r9 rI rU s0 s1 s2 s3 s4 s5 s6 s7 s8 s9 sA sB sC sD sF sG sX sY t1 t2 t3 t4 t6 tA tB tC tT u0 u1 u2 u3 v1 v2 v3 v4 v5 v6 v7 w0 w1 w2 w3 w4 w7 w8 wL wS x0 x1 x2 x3 x4 x5 x7 y0 y1 y2 y5 z1 z2 z3 z4 z5 z6 z7 z8 z9 CX0 CXE CXT=>[qA Str,@lq z0,some z0,(by have z0:=zA;have zB:=zC),qA V,(by rw[z0];exact zA),(by omega),(by rw[AF z0 zA]),z0 _ _ zA,(by simp),(by decide),.ref z0,eN s,z0 _ _ zA zB,qA qB,aK Keyed,X.K=K,i+1,(by rw[z0]at zA;cases zB),(by exact⟨z0,zA,zB⟩),Tx mg,~~~lq z0 zA zB,z0=true,(by exact⟨z0,zA⟩),Str->SZ,λz0 zA=>?_,top z0,FG K z0 zA,AL a,z0 (zA:=zB) (zC:=zD) zE zF,qA Expr,~~~lq z0 zA,(z0:Int),.int z0,(by refine wpAny_bind z0),(by rw[IQ F.okJ z0 zA zB zC]),JJ H',(by rw[z0];exact zA zB),(by by_cases z0:zA=zB),λvs H Q z0=>zA,z0 _ _,λz0 zA zB zC=>?_,((∀z0∈zA,zB)),(by refine EM ((z0)) ?_),(z0).length,Nat.le_refl _,A1 (jN B1 z0 zA zB),B7P Int,AKD a,some (z0 zA),z0<=sizeLine,.lst z0,h.1,if_neg z0,(by cases e),(by rw[eQ]),V.int z0,(by simpa using z0),(by exact⟨z0,zA,zB,zC⟩),(by obtain⟨z0,zA,zB,zC⟩:=zD zE),(by rcases z0 with z|z),λ_=>z0,pP Int,JE X z0 zA,q.1,⟨z0,rfl,zA⟩,UY qE Obj,(by rw[EF];refine z0),CQ b tb,FU z0 jaN,(by obtain⟨z0,zA,zB⟩:=zC zD),(by exact lq z0 zA zB),k+1,UZ IO=yY aN A7W,qA α,B7Q O.α,CA .ref z0,PE X z0 zA,(by subst e),aK qB,GK z0 i zA,ET H z0,CA .int z0,q.2,(by refine⟨z0,zA,zB⟩),(by refine z0 (BS zA zB zC zD)),z0 (jv zA) zB,(by exact lq z0 zA),jv 0,EM rfl z0,p.1,(by obtain⟨z0,rfl,zA⟩:=zB),λz0 zA zB=>?_,(by rw[z0,zA];exact zB),⟨_,z0⟩,λz0 zA zB zC zD=>?_,.inr z0,(by unfold z0;rw[zA]),(by exact⟨z0,zA,zB,zC,zD⟩),(by refine z0 zA zB ?_),AY X.calm,SqL.of z0,(by dsimp only[A9]),z0 zA=true,(by refine wpS_bind z0),(z0 zA).length,h.2,qA qE,x::xs,⟨_,z0,zA⟩,z0->zA->Prop,⟨z0,zA,zB,rfl,zC⟩,∀x∈z0,zA,BJ (QS z0),B7R Str,z0 zA=none,.inl z0,(by refine⟨z0,zA⟩),JL thn z0 zA zB zC,λz0 zA zB zC zD zE=>?_,BJ n,AL p,c.1,if_pos rfl,_::_,SqT.of z0,(z0).map,λ_ z0=>zA,λx=>z0,Nat.zero_le _,KO JM z0 Q,n+1,A3 (B0 z0),⟨rfl,z0⟩,(by exact absurd z0 zA),AL l,(by have z0:zA:=by rw[AF zB zC]),A81 IO,jaC z0 zA,wpAny z0 zA zB zC zD zE,z0≠[],qD Int,y::ys,if_neg e,(by have z0:=zA (o:=zB) zC),(by rw[QU t z0]),⟨z0,?_⟩,s.heap.objs.size+1,(by rw[EV z0 (BB zA zB)]),AL b,pW c,(z0 zA).trans zB,pV z0 Q st,z0[zA]?=AC zB,XJ z0 o,decide z0,(z0 zA).map,⟨z0,rfl,zA,zB⟩,k _ z0,z0 λzA zB=>?_,λb z0 e=>zA,(by rw[BU (FK z0)]),jU VD,(by rw[AU z0 e e]),(by refine z0;refine zA),qA Nat,H z0=AC zA,b≠z0,A8 z0 (NR zA) rfl zB,x.1,AY ((z0)),AL C,∀v∈z0,zA,qA Env,(by .exact .inr z0),VF Int,A8D x,X.A.units+60<cLine,AKB base z0 zA zB zC,pO _ ((z0)),VA z0 zA .lst zB,List.mem_cons_of_mem _ z0,{s with heap:=z0},aL 1,jv 1,AI s1 z0,Gl X z0,(by rw[z0,zA]),AH (A5 z0) zA,AO z0 _ zA,AH List.length_map z0,if_pos e,(by .exact .inl z0),(by .exact absurd z0 zA),(by .exact z0 zA z),A7Y pos A7W,B80 st,B7W κ D (ltK kf),e::es,FnScope z0 zA (A2 zB),(by refine z0 zA (DY vs H Q E h) (λzB f A zC s H vs Q E zD h=>?_)),(by refine z0 ?_),arrOf st,(by rw[BO z0 zA zB]),JJ H1,Heap.get?_push_size _ rfl,nb-1,qD qE,aL 2,j+1,RG bk z0,(by rw[A83 z0 zA zB (CC zC) zD .lst zE]),aI H z0,.type z0,z0 zA λzB zC zD=>?_,B7M prog,z0 x=AC zA,z0 zA=false,aJ z0 V.str,z0<=1000,AI s z0,jP .done z0,(by simp[z0]),AC v,(by have:=z0;omega),(by rw[BP e z0 zA]),∀(z0:zA) (zB:zC),zD->zE,FD z yZ,AKN H',[a],DK b,PK if_neg,(by rw[z0,zA];exact zB zC),qA Stmt,pQ Key,eM σ z0 zA,FV z0 A zA zB E s,(by rw[<-z0];exact zA),z0 X G,c.2.1,z0 (~~~zA),DX (FB z0),H' z0=AC zA,B7S C7,EE A0,ET X.mg z0,(by rw[jQ Q h]),(by refine z0 zA ?_),i<n,na-1,out.push x,qA Keyed,AO z0 (F6 zA zB) zC,(List.getElem?_eq_some_iff.mp z0).1,(by rw[aR z0 zA List.mem_map.mp zB]),RelV y u,PotAt H a b,qA AKU,ET mg z0,A3 C3,PySem.W.mg_none_of X G z0,C89 mainGlobals z0,Q (.ref z0) zA,aJ z0 V.int,CZ (z0 zA zB),(by rw[GA z0 (VC zA) zB zC]),List.getElem?_eq_getElem z0,GK z0 j zA,DE a,(by rw[aM wpAny_bind z0]),⟨z0,[]⟩,(z0).toNat,(z0 zA zB).length,ib+1,((if z0 then zA else zB)),z0  vs H Q E,(z0).trans,out.push y,QY σ (XN z0 zA zB),BJ m,(z0 (by rw[AF zA zB])),jv 2,(by rw[z0];refine zA zB),(by exact this),(by obtain⟨z0,zA,zB⟩:=zC;rw[AV zD zE zF]),aL 0,(by intro qL s σ H x y v u Q I z0 zA h),(by rw[DQ z0 this]),(by have z0:PJ zA zB zC zD zE:=A0),(by exact⟨z0,zA,zB,zC,zD,zE⟩),z0∉VD,(by exact False.elim z0),(by kernel_rfl),pQ κ,JR xs.length,IB x,RelV v u,(z0 (by omega)),.tup z0,eO z0 V.int,z0=false,⟨z0,zA,rfl,zB⟩,BJ 0,∀y∈z0,zA,z0 zA σ H,(by have:=z0;rw[TD zA]),λi z0 H'=>zA,⟨z0,zA,zB,rfl,zC,zD,zE⟩,BJ i,[BF],(by rw[DW z0 zA zB]),(by rw[z0];simp),ia+1,(by obtain⟨h1,h2⟩:=z0),(by obtain⟨z0,e⟩:=zA),AI fin z0,pQ Str,Nms ns,pP Nat,(by rw[yW z0 300000]),BQ E (MO z0),V->AE->zM,z0 qL zA σ zB,c.2.2,⟨_,z0,zA,zB,zC,zD⟩,Its H z0 zA,DJ z0 x,(by rw[pS]),EN z0 qC,upd z0 zA zB zC=AC zD,(z0 (by simp)),(by rw[z0];omega),EM z0 rfl,z0=none,VA z0 zA .tup zB,(by rw[D4 z0 zA this]),λb o z0 zA=>zB,BJ 1,.inl rfl,QY xs z0,(by show FV _ z0 zA _ _ s),FB (AI z0 zA),GL s.heap.get?,OpR X (compareOp z0) zA,(by rw[KP z0 zA]),c.2,Q (.int z0) H,p.2,LW xs.map,EU (eU _ (EE z0)),(z0).length,(by rw[bA xs z0 zA h]),z0 σ H1 λzA H2=>zB,(by obtain⟨z0,zA⟩:=zB;rw[AZ zC zD]),(I9 z0 zA (by rw[jY])),BJ j,A7Y qN A7W,(by .obtain⟨z0,zA,rfl,_⟩:=h;rfl),(z0:Nat),eJ eval z0,(by obtain⟨z0,rfl⟩:=zA),z0 K rfl zA zB,kx kf z0 zA,Heap.get?_push_of_some _ z0,λz0 H Q=>zA,z0 zA (jv zB),FunAt K mg z0 zA zB,λz0=>?_,z0 (.ref zA) zB,Str.ofString z0,Vals z0 zA,Str.join z0 zA,DK p,CZ A4,B7U st',⟨z0,zA,rfl,zB,zC⟩,(by rw[yW z0 100000]),(by rw[EV z0 ?_]),NT xs.map,z0 zA (List.mem_of_getElem? zB),r.getD j 0,[x],(by obtain⟨z0,H1,zA,zB,zC⟩:=zD),(by obtain⟨z0,zA,zB,zC,zD,zE,zF⟩:=h),z0 (KQ zA) T zB zC,(by rcases z0 with q|q),(by have:=z0;rw[PR zA zB]),h.2.1,(by rw[yW z0 1000]),q _ fC,(by refine z0;rw[EF]),⟨z0,H2,zA,zB,zC⟩,(by exact lq z0),.str x,AKI us,AKI vs,XO qO.endLine qN.line,bD V5 z0 c.h d.h,Two D kf a b,qD qB,model X.prog X.w,0<=x,z0 V.int,(by rw[z0]at this),Q z0 H',z0 _ _ _ _ zA,z0 (.ref zA),z0 (~~~zA zB),DX rfl,⟨z0,H,zA,zB,zC⟩,A82 rfl _ z0,(by rcases z0 with rfl|zA),(Value.none,Value.none),z0.2.2.2.1,(by rw[PM z0]),AL s.heap.objs.size,⟨z0,H1,zA,zB,zC⟩,if AY z0 then zA else zB,yX SqT.of z0,⟨_,z0,zA,zB⟩,⟨o,z0,zA⟩,IP z0 [zA,zB,zC] zD,(by subst this),s2.heap.objs.size+1,AO z0 (CJ zA) zB,GL h.get?,λb u z0 zA=>zB,RA z0 zA [zB],(by rw[jQ D h]),(by obtain⟨u,z0,zA⟩:=zB),XM Bool,Cls K C,kP z0 h zA,B6 src σ=C8H,DF a ta,qZ H h,JT X (AKZ z0) (M0 (zI zA)),BG z0 K K a zA (xs:=zB) zC,qA (z0×zA),eJ starEach z0,upd z0 zA (zB zC),H z0=CA zA zB,(Same.refl z0).upd,[a,b],Nat->z0,XH 0 z0,(by show z0;exact zA zB),I.tok _,HU H z0 zA,(by refine jO z0 zA),GM (z0<zA),∀b∈z0,zA,DV z0 zA e,XM St,TJ z0 _,qA Key,A7X B9 (N:=[z0,zA]) (src:=[none,zB]) zC,HW h',FU z0 (FU zA zB),lo+n,⟨z0,zA,zB,rfl,zC,zD,zE,zF⟩,[EZ],λj=>z0,(by rw[z0]),z0.2.2.1,(by rintro rfl),DE p,List.mem_singleton.mp z,(by obtain⟨z0,zA,zB,zC,zD⟩:=h),List.mem_append_right _ z0,AI s2 z0,(by rw[BL z0];rw[BL zA]),RA z0 zA [zB,zC],vs=[z0,zA],MethAt K C z0 zA zB zC,z0->Prop,jX SqL.of z0,⟨z0,kw⟩,A7Z qE,b.1,jv 3,.int _,A7Z Int,(by rw[AD z0 (zA zB) zC (zD zE)]),AL va,(by have z0:zA:=by rw[KP zB zC]),.str _,a.size-1,(by refine EM rfl z0),HU H2 z0 zA,j<xs.length,JR n,PP A.handled,(by cases a;exact z0 (zO AJ)),SqT K H a xs,CQ e te,C8L xs,(by .obtain⟨z0,zA,zB,zC,zD,zE,rfl,_⟩:=h;rfl),DP jaC z0 zA,z0 P w K mg,z0 b=AC zA,(by rw[z0];decide),EN z0 Hp,z0 σ H λzA H1=>zB,AY ((z0==zA)),(List.replicate z0 zA).zB,leK kf z0 zA,OV z0 s H _ I h,AY (z0 K zA),pO _ B8,JN z0 c,(z0).lookup,(none,z0,zA),(by rw[jT _ z0 _]),z0 (leK kf),(by exact wpS_pure z0),GM (z0=zA),XH 1 z0,Wk rss cs z0 zA zB zC,⟨z0 zA zB zC zD⟩,AO z0 zA (AO zB zC zD),(by refine wpAny_bind (z0 zA)),z0 b o e,EW (XS z0) zA s1 zB,(by show z0;omega),(by rw[z0,zA]at zB;cases zC),EN z0 SortSt,z0 ⟨zA,zB,zC⟩,B7V M3,z0 _ _ _ _ _ _,GX a z0,TC xs.map,pX [z0,zA],qT (),~~~z0 a,ys.getD j 0,z0 b o e zA,XQ z0 zA flatten,BR List.length_take_le,OZ xs,eT topN,⟨z0,rfl⟩,CZ B2,A3 (B0 (z0 zA)),λ_ _ z0 zA=>zB,OV z0 s H,ia+k,zQ us,z.1,(by obtain⟨z0,q⟩:=zA),BR List.length_filter_le,λH' s=>B86 z0,RelV x v,⟨_,rfl,z0,zA,zB,zC,zD,zE,zF,zG,zH⟩,(by have z0:zA:=by simpa using zB),aV h.get? z0,(by rw[LY s1 H z0 zA]),ns.length<=7,RelV x u,(by cases h),(by subst a;exact z0),~~~lq z0 zA zB zC,(by rw[AD z0 zA zB (AI zC zD)]),BK i,if_pos a,EE (AI z0 zA),.bl b,pQ VR,DrTx K C,A8B X.A,x<=topN,AKX us,CQ o to,ALB h,C8U z0 (KQ zA) T,Same z0 zA,.lst (z0 zA),Array z0,XH z0 jaN,(by refine z0 (zA ?_)),QT e,AKC (JK z0) (zA zB),QW z0 (lo+zA),∀H',BN->z0,(by rw[D2 z0 zA rfl zB zC]),AC 0,.ins C dx z0,z0 (Nat.le_refl _),z0 a=AC zA,[e],OW.1,FV T6 X.A z0 zA X.xe s,QV B7 T.b_tuple z0,(by intro qL s σ H z0 zA Q I zB zC),VB z0 .lst zA,HR z0 zA [zB] zC,⟨z0 zA zB zC⟩,(z0 zA).take,(z0,zA)::r,(by rw[z0,zA];rfl),(z0 zA).upd zB,.bl _,sp vs H Q E,GK z0 zA x,now.getD j 0,oft r rest,AC x,(by rw[BL ?_]),Nat.le_trans z0 zA,IP z0 [zA] zB,aU I.hok.fresh,x.2.1,NoAttr K C z0,HS (G7 K 2 (B84 (B7O 0 z0) (B7O 1 zA))),attributeBase o z0 X.env AKM=AKM,x.2,(by obtain⟨z0,zA,zB,zC⟩:=h),(by unfold z0 at h),AL t,(by refine wpAny_pure z0),j<n,LZ hi,zR HX,YI z0 v zA,y.1,(by have z0:=zA;rw[zB]at zC),(by unfold z0;rw[zA,zB,zC]),(by refine E8 z0),A7X (jN K7 z0 zA) zB zC zD,a+k,aZ (kB z0 zA),A8I z0 zA hz,A8Q z0 EP,KV qM vs,if_pos z0,(by refine C4 z0),(by rw[DU u z0 zA];cases zB),AO k PX e,d.1,(z0).all,AC r,Nat.lt_irrefl _,~~~lq z0,qD V,if_neg a,of_decide_eq_true e,CJ a,JR us.length,y::ALW,VF Bool,(by rw[GF FF z0 zA]),(show z0=zA by rw[DQ zB zC]),m<=200,(by exact Heap.lt_size e),SqL K H a xs,rD nne z0,rF z0 (rK zA),C8A z0 .builtin zA,(by show z0<=_;rw[D4 zA zB zC]),ALD l,(by rw[eZ a];exact z0 (zO AJ)),(by rw[sI hs]),(by exact DX e),PA X IO t,a::l,FV JM A z0 zA zB zC,ALX ys,(by intro _;rfl),z0 (KQ zA) T,K1 f kA (z0::st) rs,(by first|rw[B90]|exact .inr rfl|assumption),Array (qD qB),Y0 n DR B2,z0 zA X.env,Inv X qL z0 zA zB,KN H z0,.tup (z0 zA),(by with_unfolding_all rfl),arrOf st',{z0 with heap:=zA,toks:=zB},TB/\x<=z0,⟨rfl,z0,zA⟩,s.toks+1,(z0 zA).filter,[BK z0,zA],CC [],(by rw[QU t' z0]),Same.refl _,A2 st,ns.length+1,z0 kf la lb zA zB zC,upd H z0 zA,A5 (A6 z0 zA),CA (z0 a b zA zB) zC,(by simpa using this),x+1,A8 z0 (KS zA zB) rfl zC,y::r,VB z0 .tup zA,QX e,VG HX,StP rss cs ys,(z0 zA).symm,AL c,DP z0 zA A4,λb z0 q=>zA,Its H' z0 zA,λ_ _ z0=>zA,z0 x c e,B6 src σ,congrArg z0 zA,BB b z0,(z0 t zA).1,xs.getD j 0,jP .yield z0,aT fs,(by refine NV z0 _ (kF zA zB zC)),PT X z0 zA,gdK b z0,(List.mem_filter.mp z0).1,λi hi=>z0,AKS "words",AI s' z0,gdK a z0,(by rw[GC c]),qX Ofl,OV z0 s1 H1,⟨_,rfl,p,C,dx,_,rfl,z0,U.cl,zA,zB,?_⟩,f.1,hp.1,(by rw[List.length_map,z0]),(by obtain⟨z0,e,zA⟩:=zB),(by rw[<-z0];exact zA zB zC),aL 3,(by rw[D2 z0 rfl zA zB zC]),(by have z0:zA=zB:=by rw[AF zC zD]),AKY tk,B8J now,∀t∈z0,zA,List.mem_append_left _ z0,h.get? z0=AC zA,(by exact z0 zA this),~~~z0 zA a,(by rw[AV z0 rfl zA]),0<x,(by have z0:=zA zB;refine zC),VC H,NT d.map,L6 z0 (jN A7 zA zB),a3F n r,E1 X (JK z0) zA,G0 rfl T.b_range z0,decide_eq_false z0,decide_eq_true z0,⟨z0,BB zA zB⟩,decide z0=zA,(z0 zA).mpr zB,(by rw[D2 z0 zA zB r.get zC]),OB ys (BN/\z0),TN z0 VI TM q,C8S xs.map,rV _ rfl z0 zA zB zC,∀z∈z0,zA,(by by_cases a:z0),⟨rfl,z0,zA,zB,zC,zD⟩,AI z0 C,CB ys.length,(by have z0:zA=zB:=by rw[<-f];rfl),(by rw[yW z0 3000]),OZ X.N,(by rw[OA z0 zA];rw[MZ]),x∈xs,rJ xs.length,MU ta x z0,C8D L,P.length+LA.length,HI (AMB && AMA),B9F (FAt C H p ra),∀vs H Q E,bJ->C94,z0 (i:=zA) zB rfl (Or.inl rfl),z0 λzA=>?_,pure (z0 zA),(by intro qL s σ H z0 I zA),LV p z0,congrArg _ z0,(by show FV _ z0 zA _ _ zB),Off z0 H H',HR z0 1 [zA,zB] zC,[z0,"one"],.inl (z0 zA),(by intro z;cases z),((show z0 from zA)),c / 28,LX z0 XU (HS zA),z0 (zA ?_),z0 b o zA e,∀b o,z0->zA,zL z0 (BB zA zB),z0 X (zA zB zC pos) zD,(by rename_i e),OW.2.1,Same.refl H,(by rw[aM wpS_bind z0]),wpAny_mono z0 zA λzB zC zD=>zE,~~~z0 zA hi,h z0 (HV zA),XI MethOk base C z0 zA zB (zC C),λi z0 H' _ zA=>zB,AY (z0 zA zB),QX q,[BK z0],(z0,[]),GY p,qW rss z0,TH v,(by refine congr (jS z0) (AKE zA)),HU z0 p zA,EO z0 H I zA,StateT SortSt Sem z0,(by simp only[List.mem_cons,List.not_mem_nil,or_false]at z0),R7 A84 A84,a+1,BJ k,QX (QX z0),J8 ns x,⟨z0,zA,e,zB⟩,["self",z0,zA],CO ?_,zZ size,IP [z0,zA] [zB,zC] zD,(by refine call_meets z0 zA zB (BR zC) zD zE),(by rintro z0 H' ⟨s,rfl⟩ p hp),(by by_cases z0:i<zA),(by obtain⟨z0,_,rfl⟩:=zA),z0 (.type zA) zB,(z0 zA zB).sum,XH 2 z0,A1 (jN B1 z0 zA (zB zC)),ET H' p,frs X.stack,z0 kf a.toList b.toList zA zB zC,⟨o,z0⟩,(by generalize upd z0 zA zB=zC at zD zE),jv 5,(by rw[GC b]),PU z0 e (kD zA zB),zY A00,z0 b o e n zA zB,(by .obtain⟨z0,zA,zB,zC,rfl,_⟩:=h;rfl),⟨_,rfl,a,b,z0,rfl,zA,AK,PF,zB⟩,Itz K k1 k2 a b,(by cases z0;cases zA),AL it,(z0,AL zA),(by rcases z0 with rfl|z),(L9 z0 zA).2,KO T6 z0 Q,B81 C8X,B81 C8Y,B8O a,(by .obtain⟨z0,zA,zB,zC,zD,rfl,_⟩:=h;rfl),Str.join z0 zA=zB,(by rw[BO z0 wpS_pure zA]),A7Z qB,(by rw[LY z0 zA (CC zB) zC]),P.length+k,B7R Keyed,λx vs H Q=>z0,(by intro qL s σ H x vs v z0 Q I zA zB h),s.trans s2,(by rw[YK List.getElem?_map z0 zA zB]),(by rw[kK wpS_get]),C8A z0 .type zA,z0 zA σ H Q,ALH HY,b::rest,(by rw[A99 z0 d tk os s]),Binds K fd ps [],(by rw[z0];exact zA),(by by_cases e:z0),∃(z0:qE) (zA:zB),zC,z0 _ (A0P zA),BI z0 a,BI z0 h2,AX z0 zA e,FK a5H,(by rw[EH (z0 (BS zA zB zC zD))]),FN ?_,FW L,PH Result,if_pos c,A81 aW,pure r,(by exact KeyOrd.kle_refl _),zP z0 .lst zA,(by exact DS h),B7Z .str z0,rE z0 (zA K),r::rss,EG J6 x,C8D [],[wd "0"],A92 s',AM6 B85,C8R J3 z0,DF e te,UY Int qJ,λi v x z0 zA zB zC zD q=>?_,C98 V.str z0,(by rw[TR AMK a]),n::ns,elem' a z0>>=zA,DF b tb,A3 (E3 (E4 K z0 zA)),UZ aW=yY aN B85,(by rw[A83 z0 zA zB (NS zC) zD .tup zE]),C0 (M7 (F8 K z0)),Cls X.K C,(by repeat (any_goals (first|assumption|wp_step))),λqL s σ H z0 I zA=>zB,(by rw[VL (V3 z0 ?fin) fin]),AllD D (arrOf st),λ_ _ _ _ z0=>zA,List z0,UY z0 V,.Call z0 zA [] zB,(by decide +kernel),z0 zA=AC o,(z0 : Str),C85 JM,⟨#[z0]⟩,HS (B7O 0 z0),XJ z0 u,seqObj "list" z0 zA,(none,z0),List.replicate z0 0,∀b o,z0->zA->zB,∀r∈z0,zA,z0 xs ys,e (z0 z),HOk P w z0 zA,FC (z0 λq=>zA),(by show z0;decide),λx y=>z0,TL z0 lq zA,E1 X (.builtin z0) zA,OX rfl z0 rfl zA ?_,⟨z0 zA AK AK zB a⟩,AKR outer b a E,z0=ns.length,DX (EE z0),GN List.range z0,bump z0 j,SqK z0 K zA zB (zC zD),zP z0 .tup zA,DF (z0 zA zB pos) zC,ts=[],i<=j,z0=CA some zA,(L9 z0 xs).1,⟨z0,zA,zB,zC,rfl,zD,zE⟩,(by obtain⟨z0,zA⟩:zB:=⟨zC,zD⟩),AC 1,DJ z0 v,A80 st' z0,OpR X (binaryOp z0) zA,(by rw[XY (z0>>=_)]),(by rw[FO (C8B z0) Bool.false_ne_true]),(z0 zA).mpr,CQ (z0 zA zB pos) zC,AL8 eV,(by rw[List.size_toArray,<-z0]),O.kle z0 zA,(z0).trans,ltK kf z0 zA,zT Str.ofString z0,λc st'=>z0,ItAt k z0 zA l zB,ns.getD j (wd ""),(by obtain⟨z0,zA⟩:=zB zC),((if z0 then zA else zB)),CZ KY,C9 x,ns.getD j 0,z0 b u e,jW "rows",kE z0 (GL zA),AL5 (B82 z0),Nat.lt_of_lt_of_le (Heap.lt_size z0) zA,(by rw[AU z0 z z]),(by rw[KA z0]),(nomatch h),(by unfold z0 at this),(z0 zA).foldl,AI z0 _,Q z0 st',jR H',upd H a z0,[([],z0)],ET H' b,(rH).env,EP X qL σ Q z0 zA,(let ⟨z0,zA,zB⟩:=zC;⟨zD,zE,zF⟩),Str.join z0 (zA zB),BB v z0,qD Bool,DS ?_,pX [z0],VN fp z0,id D,A8U A6 z0 zA,B8Q AJ,B8F a (z0 (B8L C s H ex) zA zB),⟨z0,zA,rfl,FB zB,rfl,zC,zD,rfl,zE,zF,rfl,rfl,?_⟩,a.length<=z0,AY b,(z0 b zA).1,J7 i,y=.int z0,pZ #[] 0,c AT,V4 rss z0 j,A8F s.heap.get?,AM3 (NR z0) zA,rI z0 λi j=>BK zA,A8P A0C B,⟨rfl,z0,zA,zB⟩,(by obtain⟨z0,h⟩:=zA),aK GenState,EQ xs z0,List.mem_cons.mp z,(by rw[DG];exact z0),s.heap.objs.size+2,XV (XW z0),FD z A8E,b∉ch,jX .inl z0,TW List.length_map,AL1 DR,B8T-2,A94 rest,B8P s'.gens,B8Y z0 b,J9 (J7 z0) K9,FV T6 X.A z0 zA X.xe zB,(by have e:b=z0:=by simpa using zA),(by rw[C91 i hi z0]),(by rw[z0];rfl),hI.1,(by simp[List.getD_eq_getElem?_getD,z0]),(by rw[<-z0];exact zA zB),(by rw[<-z0]at zA;split),AI W z0,AY A0O,z0 (zA (o:=CC zB) zC),j-1,B7M P,JP decide z0,HI (z0 || zA),PN e,Small xs,te z0 H1 zA,h x List.mem_cons_self,(List.mem_replicate.mp z0).2,∀v,v∈z0↔zA,z0 zA (List.length_map ..) zB rfl zC,B8I bk z0,la.drop ia,a::b::rest,zW A0U kU z0,t++wd "+" :: B9Q,(by show z0;rw[DQ zA zB]),st.2,st.1,(by refine z0;rw[CW zA]),(by cases z0;rw[GC zA]),(by refine z0;obtain⟨zA,zB,zC,zD,zE⟩:=zF),(by unfold z0;split),~~~U4,(by rwa[z0]at this),MtM X z0 zA,(by exact .inr z0),(by exact wpAny_pure z0),(z0 zA zB).2.2,FU z0 (CZ zA),Heap.lt_size e,lo+m,aL 4,i<xs.length,BI z0 b,BI z0 h,BI z0 hi,LV s.heap.objs.size z0,x::r,x::fM,(by .rw[AF (A5 z0) zA]),VF A12,OZ l,(by rw[LY z0 zA (NS zB) zC]),1<=n,PH Bool,(by rw[IR C4]),PJ z0 zA (CC zB) zC zD,XZ la.Pairwise,XZ lb.Pairwise,Sz xs,Bds xs,qU n,(by subst a;exact z0 b),B7Z .int z0,MG K a z0 zA zB,MG K c z0 zA zB,rM ys,B83 33 z0,B83 86 z0,(by rw[z0];rw[EH zA];dsimp only),kT [],CQ o td,α->V,ALQ z,t9 rR,O4 tss,UY κ qB,A8W (AKV z0) (tCB (zA K) t),A17 (XN z0 zA zB),(by rw[B97 this z0]),C95 bM,0<=z0/\A9U zA,C9B zs.length,C9D items,BA4 (A9G z0),(b,o),A0D (bk.length=1),(by exact(show False from z0).elim),C9S qP,UY TE TE,(by rw[AU z0 h h]),EG a7z scope,(by refine wpAny_passesOwn hp z0),RE dvs ds,zL AG AG,absurd rfl h,YM List.mem_map.mpr z0 zA rfl,(by rw[rW z0 rfl (∃zA:Nat,zB) zC AG]),A++wd "=" :: B,t::u::r,a0z CX X E,(by obtain⟨f,fd,h1,h2,z0⟩:=zA),DrAt C H p ar as ac ap d,IP N ps st,kQ B5 scope X.env.scope,fF MS o ia ib,A8T FnOk X.base CX k f fd ps sp,jV "_law_next" "_law_pot_here" "_law_many" a1X,Binds X.K fd ps ds,(by have z0:CB (QS zA):=by rw[C84]),.inr (z0 zA),(false,z0)::zA,(nomatch z),tOp z0 ta tb,V.ref z0,FC (z0 (zA zB)),EU ⟨z0,zA⟩,EN Hp VK,z0 V.str,C5 I q z0,H' z0=CA zA zB,Vals xs z0,QV C8 T.b_len z0,RI kf κ z0 zA zB zC,.str (z0 zA),["self"],aP eR z0,qV z0 zA (GL zB),NY z0 (XR zA zB),rss.map λr=>z0,A80 st z0,dot r now,AL f,z0 I.hok e,xs++[z0],AKW k,C87 ys,(by refine jS (AKE z0)),EJ i z0 e,SqAt k z0 l zA,λz=>yZ,GM B89,F3 st,[zJ R],show z0 from rfl,(z0).take,XV X.env.cells.lookup,zS a0 z0 zA rest,[A8L A8K],(if_neg (by rw[z0])),AKH V.bl z0,AKL p,C0 (a2n z0),CQ (C8G z0) (zI zA),pR (AKJ z0 qO) IO qN,Ans rss xs,List.mem_of_getElem? z0,z0->Bool,[A89],CA .builtin z0,XJ H z0,GL H,((pendingOf z0)),LV z0 H',FD _ z0,AKK mg z0 zA,a2Y rss z0 j,.r z0 zA x y,Q z0 s',XM AE,EQ z0 TB,pT z0 a,(z0) % 26,A8R H,λD σ H=>z0,C8M lo,if z0 then _ else _,(by rw[YA ⟨g,EU (DS z0)⟩]),(by intro X z0 hw zA zB i qL s σ H E I zC st zD;subst zE hw zF),(z0 r zA).1,wd "cap",CO rfl,EI z0 V.int,GZ z0 q.mono zA,J8 ns y,kC wpAny_bind z0,B8K ForInStep z0,zX z0 x y,BT b fp z0,λ_ _ _ z0 _ zA h=>zB,if z0 then zA else[],BB y z0,DV i z0 zA,A7Z NameKind,MA xs z0,AKL pos,zW z0 zA h'.get?,A8O s' z0,wpAny_call_entry z0 zA zB zC (zD _),B8W z0 (JK zA),z0 C vs H Q E,A8 a z0 rfl zA,B8D "list_iterator" C8W,z0.2.2.2,(by obtain⟨z0,zA,c,zB⟩:=zC),if z0 then JV zA else zB,(z0).toArray,GK b.toList z0 zA,BB x z0,(z0 x zA).1,tn i z0,D5 P w,kD k z0,V.int z0=A89,A8H A8Y Q0 te z0 H,c % 28,AY (ALU z0 "BaseException"),call (.builtin z0) zA,A7X B9 (N:=[z0]) (src:=[none]) zA,z0 zA zB zC σ H Q,[z,TI,TO,g,j],z0<=10000,(by rw[z0,zA,zB]),∀c∈z0,zA,⟨σ,z0,zA,zB⟩,⟨j,z0,zA⟩,(by have z0:=zA;rw[RP zB]),(by rintro⟨z0,zA,e⟩),AI s5 z0,(by have:=z0;exact zA this),t.2.2,AH z0 e,AH z0 (lq zA zB zC),CB xs.length,BR Off.refl,List.mem_singleton.mp a,EE hp,DK l,CJ h1,CJ h2,LW d.map,elem' b z0,(by have:=z0 zA zB;rw[TD zC]),aP qP z0,Q (.str z0) H,(by rw[MC z0];rw[BL zA]),A6 e z0,x=.str z0,(by rw[sH (RC field z0 zA)]),A0E A05,z0 λzA a=>kN zB a,c i ys H,ys++[v],B8X a,A9M ys,B9H a4m,C90 Nat.ne_of_lt,putK qM k v,ObjOk z0 zA zB h' zC zD,(by rw[EH (JL C2 z0 y e1 e2)]),ML+k1,jS (B8Z (AKE z0)),((∀H2,C9E->z0)),(by obtain⟨z0,f1,f2,zA,zB,zC⟩:=zD it AJ),.str z0,pure z0,(by obtain⟨z0,j,zA⟩:=zB),(by obtain⟨v,z0⟩:=zA),~~~a0U,IsPair z0 zA zB zC,((KD)),Vals (z0 zA) zB,AL nt,AI G z0,AI z0 t,BJ ns.length,BB p z0,Q (.bl z0) zA,List.mem_map.mp a,Q z0 H1,rest.getD j 0,NR if_neg,JN z0 a,LW zs.map,pP LqR,HV z,.k n,HI (! z0),AKK X.mg z0 zA,AKX xs,(by rw[RQ C9N]),v::vs,Stps d z0 zA,x≠"__name__",EW (A90 z0 zA zB) zC s2 zD,a0F p q,GX nt B91,AMG::ks,V7 K B2 z0,BS i j z0 zA,λi h h' st z0=>zA,KT H qM xs,Meets (z0 zA) (λ_ R s=>zB),AY (Wi cs v),(by obtain⟨z,z0,n,r,zA,e⟩:=zB),∀(z0:Nat) (zA:zB),zC,this.1,kv.1,[BF,z0],⟨z0,zA,?_⟩,(by obtain⟨z0,b⟩:=zA),(by obtain⟨z0,zA⟩:=RU zB zC zD),show z0 from rfl,(by generalize HU z0 zA zB=zC at zD zE),z0 (o:=CC zA) zB,z0 (wpAny_bind zA),z0 (wpAny_pure zA),AC lF,qA β,(by exact wpAny_bind z0),AI z0 g,(by have z0:zA:=by omega),AO z0 qr zA,qD Expr,CB vs.length,(z0 zA zB).2.1,E7 K z0,decide_eq_true e,aK DictEntry,λz=>?_,DK a,DK s.heap.objs.size,HS (O9 (z0 zA zB)),List.mem_cons.mp b,AX z0 zA k,(by rw[GA z0 s2.upd zA zB]),x::a,IP z0 (jW zA) zB,(by .rw[AF WB z0]),A1 (AMJ B1 z0 zA zB),EI z0 V.str,CF c,VF VP,wds l,1<=ns.length,vs=[z0,zA,BK zB],2 ^ 64,(by rw[FO z0 AK]),r.getD i 0,PH Unit,((most+1)),XV qR.lookup,(by rw[MC wpAny_pure]),xs.length=n,JY e,(by rw[FQ z0 zA Array.getElem?_toList zB]),λH' s=>AN9 z0,b+j,d.names.length<=7,FiTx K C,CQ (AKZ z0) (zI zA),fL z0 hr.mono zA zB,A8J BF z0,xs.length<=8,AH z0 (lq zA zB),Itl K a,Wg (wd z0),k<xs.length,rZ size,ALG vs,ALG ys,(by rw[eZ a];exact z0 (zO zA)),Sem Bool,(by cases r;rfl),A98 (CB 1),(by rw[sU z0 zA List.mem_iff_getElem?.mp zB]),C0 (z0 zA A4),(by rw[B8R (GO g z0 zA)]),(by rw[B8R ⟨g,DZ (eU z0 zA)⟩]),Sm ys,A14 h.get?,tM o,A.units+1<cLine,X.A.units+1<cLine,DF o td,(by rw[GC r];rfl),B9B Int,W i m σ H,B9E s.heap,K.In s.heap,EG J6 y,C92 Loc,(by rw[VL b _];rw[kY ?_ c]),(by intro _ _;rfl),CA8 lD,BAL∨AML X.env.scope.names.lookup,z0 (KQ zA) T zB,pO _ (VQ z0).h,VB a .dT qM,z0 (aO "tuple" .seq zA),(by .rw[kH];rw[A1A (A9N z0 zA e)]),kL z0 zA _ _ x x,B92 "is_answer" 3 a1s,(by rw[C9H b b.unheld]),IntsAre vs ns,AY (Q8 N src X.N scope),⟨_,rfl,_,rfl,a,b,z0,rfl,zA,AK,PF,zB⟩,JL codeAny_mono z0 r s' zA,SyT H v ns rss,key _ ⟨z0,zA,?_,?_,AK⟩,wpAny_field z0 rfl (x:=zA) rfl,V->FX->FX->zM,(by rw[List.all_map,List.all_eq_true];intro x _;rfl),HR "_law_of" 2 ["_law_pot_here","_law_some"] b3T,.of_wp λprog w A R s h=>z0,UZ es,(z0 zA zB zC (by show AY (BR B5);rfl) B7N B7N),JP (backTo z0 zA).any ((·.1)),UY Str z0,(arrOf z0).zA,JA X z0 t,OX rfl z0 zA rfl zB,(by have z0:upd zA zB zC zD=CA zE zF:=A0),RB e,CXE P w,zK z0 Str.join bk,(s.heap.push z0).zA,qA Keyword,CI 0,(pendingOf z0).zA,Room k z0,pR z0 IO pos,AKG z0 (pU "__debug__"),(by cases z),pT z0 c,ffl ra ca z0 zA af aw,G3 src z0 zA zB σ Q zC zD,VH (CB z0) zA zB,AKF PySem.W.findIn z0 zA,wd "of" :: ns,V.str (Str.join bk z0),xs.map z0,AL2 (jR z0),{z0 with heap:=zA},z0++[zJ zA],aY z0 (C88 zA),D.nx σ z0,Ans rss v,AKO z0 X.K X.mg,(z0 zA zB).symm,.int z0 0,CQ (A8C z0) zA,lo+k,A9 0,QV L7 T.b_zip z0,OV z0 s1 H1 _ zA zB,AY (z0 K zA zB),KN H' z0,.int z0 u,a1N n z0,List.zipWith (λz0 zA=>zB) zC zD,A8G b ah,sIx items.size 0 lo,(by rw[YJ z0]),(by obtain⟨z0,g,zA,zB,zC⟩:=zD),I.hok z0 _ zA,MJ kf a b z0 zA zB,z0 zA (wpAny_pure ?_),D7 K z0 (jv zA),BT y ys z0,AL7 dfl tn,IT H' v z0,TH .non,2 ^ 63,A87 z0 push,eX z0 (BK zA),Int.lt_of_le_of_lt z0 PF,A8N (VJ p z0),z0 T zA (eq_of_beq zB),show ObjOk z0 zA H zB a zC from zD,(z0 zA zB).extBut,eS s z0 tk,.int z0 t,λH' s=>⟨z0,zA⟩,fG z0 o,z0<2 ^ 62,BT r rss z0,A07 v,(by dsimp only at e1;subst e1),z0 λσ2 H2=>C8V zA zB σ2 H2,(by exact PySem.W.kia_one z0 I.kIn zA e A09 h),z0 (·.1),K.lookup z0=AC zA,(by refine .inr z0),XI FnOk,XO z0 Value.none,EN Hp ((z0)),Q (.bl z0) H,AKB base z0 zA zB (zC K),(by show Sub _ (AM4 0 z0)/\_;rw[zA];rw[EV Sub.one zB]),(by subst ex;obtain rfl:AL9:=z0),z0<=100000,(by obtain⟨x,z0,zA⟩:=zB),BR Nat.le_add_right,VB z0 .own zA,EG d z0,EO z0 rfl zA zB,xs.map λx=>z0,YB z0 k,.dK [],B8E (NW<z0),ALO .bool,kO z0 1 zU zA,OV z0 s2 H2,∀(qL:CV) (s:qC) (σ:St) (H:Hp) (z0:zA),zB,xs.length=z0,[AL z0],(by rw[z0,zA,zB];rfl),{d with z0:=zA},(by unfold z0 at a),z0->zA->Bool,List.Perm.append_left _ z0,bc+1,ac+1,AI s3 z0,(z0 zA zB).trans,(by have:=z0;rw[fJ]),XH 3 z0,~~~z0 h1,BB p1 z0,jv 4,List.getElem?_eq_getElem a,A1 (F9 K DR z0),EQ z0 (XR zA zB),HV a,GY X.env.locals,JZ::caps,AKP "left",AKP "seed",AKP "many",DP z0 0 A4,B7Z .bl z0,AL1 MX,rY vs,z0<10 ^ 60,PQ H p z0,D0 YN,wd z0 ++ bk,V2 xs lo hi,G1 l ρ,(by rcases z0 with⟨zA,zB,rfl,zC⟩|⟨zD,zE,rfl,zF⟩),Goes rss xs z0 zA zB,SetS prog w z0 zA zB,(by rw[List.pairwise_append]),⟨z0,zA,rfl⟩,(by exact .nil),(show z0 by exact zA zB),((nomatch z0)),z+1,z0.2.2.2.2,pO _ ((z0 zA)),lo+x,wd "price",JN z0 .cell,(by refine EM rfl ?_),GX c z0,(z0 x zA).2,frs l,XO z0 0,ys.length<=i,qU xs.length,VQ a5T,DP z0 0 HY,frs outer,NiO kf z0 lo zA,absurd z0 AJ,Itt K a,rO z0 zs,G1 z0 ρ=i,z0 (Nat.le_refl _) zA,U7 k l,∀x c,A0F->z0,BS b o z0 zA,BT t ts z0,wpAny_seqItems z0 rfl ?_,A0G st' a,(by rw[AU z0 e1 e1]),C9J H z0,∀ys H,z0 zA ys H->zB,(by rw[List.getD_eq_getElem?_getD,z0];exact List.getElem_mem _),upd z0 zA (.ins C zB zC),wpS_mono (z0 ?step ?fin zA) ?post,FC fQ λ(QS j)=>B9Y,aJ (R.map V.str).eraseIdx j,λb o _ _ z0 e zA=>zB,St0 C z0 a b x v zA ns rss,ForInStep z0,(by have:=z0;rw[NE zA]),(by obtain⟨z0,zA,e⟩:=zB),(by rename_i hk),(by simp[z0,List.find?_cons,zA]),O.blt z0 zA,AL s2.heap.objs.size,AI z0 I,ET H1 z0,JK T,eN s',(z0 y zA).1,BI z0 u,(by .exact KeyOrd.kle_trans z0 zA),DL m,j<ys.length,FK B2,GZ z0 hr.mono zA,Under z0 v,LZ hj,jU [z0],(by rw[IR wpAny_pure]),PN i,ItAt k2 z0 zA zB zC,AKY t',(by rw[kK Y6]),fR Option.some.inj z0,B8G wpAny_pure z0,λv z=>A8E,lb.take nb,lb.drop ib,ANC z0 h1,EG xs.all J6,BAH none,(by cases(jZ AL9 d)),BB0 (ALA z0),R0 qM k,X.prog=P,X.w=w,q::qs,(by rename_i z0;have zA:¬zB:=λz=>C9X zC),(by generalize z0=H1 at s1 zA),a1B B2 z0,(z0::zA).contains,eO caps.map ovI,λi H z0 H'=>zA,a2H ns zs,a1C rfl T.b_str z0,[AL W,CI y],QV a1g T.b_all (kB z0 zA),∀{b:qE}{o:z0},zA->zB->zC,z0 (gK (UB zA zB rfl)) (DY i j zC zD zE) zF,(by rw[kH];have e:¬z0:=BA0 beq_iff_eq.mpr;have zA:zB:=zC;split),λi ys H' h=>z0,ANJ t/\t.length<=2,A0H++C93++B8A (FC (AN4 A1D caps)),(by rw[C84]),(by rw[jY]),(by rw[sM z0];exact zA),∀(z0:zA) (zB:Nat),zC,(by rw[List.sum_cons]),(by injection h with z0 zA),(by unfold z0;dsimp only),(by unfold z0;rw[BO zA zB zC]),⟨z0,A9L zA⟩,(by generalize z0=H1 at zA zB zC),(by generalize z0=H2 at zA zB zC),Its.pot z0 zA zB,AC u,CA z0 _,AI S z0,AY A8S,(z0 zA zB).toList,(by refine wpAny_call z0),(by have:=z0;rw[zA,zB]at this),(by have:=z0;rw[AU zA this this]),h.2.2,AH z0 List.mem_cons_self,AH z0 hi,BB r z0,BB z z0,BB p3 z0,BR IsTp.new,hp.2.1,arrOf a,a0Z a,CZ (zR z0),a0d e,(by .exact AAC),EE (WE z0),aK Nat,aL 5,aL 6,DJ z0 (zA i TU),NR if_pos,NR decide_eq_false,EU (FN z0),CJ h,if_neg b,A8 z0 (rD zA zB) rfl zC,(by have z0:=List.getElem?_eq_getElem zA),VC H',QW qP z0,pP ((LLI)),j<ns.length,(by rw[EH z0];dsimp only),RA z0 zA (jW zB),B7P Expr,B7P V,NV z0 rfl zA,arrOf s,.v i,VG (CZ z0),aP (CB4 z0) zA,jU l,B7Q Prop,(by rw[IR E8]),B7S F5,z0=pure (),λH' s'=>z0,aT r,(by rw[VL Classical.byContradiction z0]),.a x y,.s x y,eqV x y,A82 z0 _ (kF zA zB zC),q _ bR,L1 x,XZ l.Pairwise,VN z0 (b∈zA),qU fE,GP s1,IF (lq z0 zA zB zC),YC NB,BQ E (A1X z0),TQ ?_,TQ (C4 z0),YM List.mem_flatMap.mpr z0 zA zB,A8F h'.get?,YO a1l,V->V->zM,MG K b z0 zA zB,YP gE,YT a2f,fL z0 G.mono zA zB,A8J GG z0,A8J fS z0,B83 59 z0,WI z0 zA zB zU,j<=k,rP .BoolOp z0 zA zB,.bool true,(by rw[CK _ rfl z0 zA]),sE .Add z0,sE .Mult z0,lB (AKU),(by rw[lC z0];rw[TR zA rfl]),(by exact EM List.mem_cons_self z0),Stp d z0 zA,Value.int i t,ALQ x,ALR A1Z,A0M .Mult z0,A0X False,z0 lo n a,C8K qM,Under now xs,k z0 AJ _ zA,RO _ _ z0 zA,JV (z0,zA,zB,zC,mg,k,k1),(by rw[CL z0 r zA zB I.list zC]),(by rw[CL z0 r zA zB I.tuple zC]),A8W (AKV z0) (tCB zA t),AMD H z0,a≠b,⟨z0 h.h⟩,ixN z0 zA=AC zB,z0 X (zA X.K),DF o to,u4 z0 j,A1L tO,AE->zM,[e,f],B9J ys,AKK B9L (pU z0) zA,AKK C9A (pU z0) zA,B9N a,B9P J.mono,PPs X pos z0 zA zB,Bar F z0 j,ANN cps.toList,lV z0 zA D6 jaN,lo+z0<=lM,BA7 fE,c::cs,(by wp_walk using wpAny_loadPart' a),AO2 t,W4 h₀ h,SqL K H p xs,BAJ decide_eq_true,PI X tg z0 zA,BAS Nat,AN0 H' s'.heap,CQ (A0N z0) (BA5 "list" zA),C9T PySem.F.plainAttrs_list z0 zA zB,C9U κ,(TV z0).size_eq,(by .rw[BBD z0 zA];exact a1b e),(A9J z0 zA).get? zB=AC zC,CQ i ty,(by rw[D4 z0 h1 h2]),(by rw[KB DT k]),fI V1 z0 zA nb,gG a tA,BBN e,BBS hp,BBY X.A,CA4 VR,a4p ρ z0,(by rw[CM (List.mem_append.mp z)]),λi h st z0 f=>zA,CAJ o,AAF _ _ z0,(by rw[BM z0 c b d]),a1q (rC z0) V.int,AAM z0 x y v u,CB0 (W 0 m σ H) z0,CB1 H,(z0 i H/\A16)∨(zA i H/\BC4 (∃zB,zC<m/\zD) (CBB zE)),thn (A90 z0 zA zB) zC,(by obtain⟨z0,h1,h2⟩:=zA),(by rw[AD z0 (B9A zA) zB (B9A zC)]),BB H1 s1,DF l tl,.m n y,.t y n,OY zs tss,∀a,CAS->z0->zA,Q (.bl true) H',NV _ _ rfl,((∀c o,z0->zA)),LvF cs.length z0 v,(by rw[AU e h h]),fW _ False,bU C8F C8F,A0T (BA1 k.map),A0L (a3A z0 (a1z zA)),It1 K k a,a7h kf a b,h x (List.mem_cons_self ..),CBA 32 20 z0,λfs z=>yZ,(by .obtain⟨z0,rfl,_⟩:=h;rfl),wpAny_field b z0 (x:=zA) rfl,RA x st ps,(by rw[DG];exact .inl ⟨z0,hd σ H p⟩),IsEnum z0 e it zA a,B6 src σ=none::none::caps,z0 (us:=us) (Nat.succ.inj h),a0V z0 λl h=>zA,(by simp only[List.mem_cons,List.not_mem_nil,or_false,not_or]at z0),rG (E5 (z0 K d b) g h zA) c.h f,opI λz0 zA _ _ _ _ _ a q=>zB,∀(qL:CV) (s:qC) (σ:St) (H:Hp) (z0:zA) (zB:zC) (Q:zD),AM->zE->zF,(by rcases g with⟨qM,k,e,z0,l⟩|⟨qM,k,b,e,zA,zB,l⟩),∀(a:qB) (f:qE) (A:Around) (outer:HL) (s:qC) (H:Hp) (vs:AE) (Q:VK) (E:XK),BB5 z0 fD zA,XI Ok,{cls:=z0,data:=zA},CQ z0 ta,jO funext z0,z0 K zA zB=AC none,NU ((z0==zA)),z0 (decide zA),OY z0 rss,.Attribute o z0 zA,z0 zA=CA .ref zB,.Name x z0,QT o,PotAt z0 a b,z0 X.prog X.w zA zB,yX Str.ofString z0,z0 prog w A zA,C86 A85,["self",z0],.Compare a z0 zA pos,((qK)),.Name z0 p,pk b l t z0,VB a .tup z0,eS s h' z0,AKT [z0] [b],envOfC qual scope z0 f cd,D7 K z0 A4,∀p,RH->z0,C6 z0 (AL zA) (C6 zB (AL zC) zD),AKC (JK "list") z0,rI0 λi j=>z0,A8A z0 size,z0 zA ar as ac ap,{s with toks:=z0},B7X a,λx c st'=>z0,(by simp at z0),ET H1 p,bB z0 xs,∀z0 H',BN->zA->zB,RD "__next__",RE z0 us,J0 K z0 A4,u::r,[MB],LW (B88 z0),z0=pure false,GZ c z0 (VG zA),SoO kf z0 lo zA,z0 false,XT z0 A01,IT H z0 xs,A87 z0 objs.size,pZ vs.toArray 0,F4 kf a b z0,z0 (.type zA),EE hl,x::st,IT H y z0,MI kf a b z0 zA zB,pR (AKV z0) zA pos,∃t,u=z0,XQ z0 NW map,C6 f v z0,A8 b z0 rfl zA,(B6 src σ).set,Wg x,A7Y pos z0,z0 ns zs x,kG z0 .BoolOp zA zB zC,s.heap.push (aO z0 zA zB),C8J (BV IO),B8N IO,(by have z0:MA zA zB[j]:=by simp at zC⊢),∀b u,pY z0->zA,z0 C H' p zA,⟨_,rfl,_,rfl,z0,zA,zB,zC,rfl,zD,zE,?_⟩,AC k,s.heap.get? z0=AC zA,BK z,z0 (i:=zA) zB rfl (Or.inr rfl),List.mem_cons.mp a,JN z0 .local,EI E9 z0<=zA,AL0 a.heap.objs.size,⟨CD,λi z0 e=>zA⟩,⟨_,rfl,_,rfl,z0,_,rfl,zA,zB⟩,[V.str x],z0 zA qL s σ H _ I zB,eq_of_heq z0,z0<sizeLine,hs.2,AC 2,JQ (GN z0 zA),PySem.W.findIn K z0 zA=AC zB,i<=xs.length,jV z0 "one" zA zB,AKO HOk z0 zA,eW List.range z0,AKJ m qO,Nat->Nat->z0,a0p z0 ns zA,(by .rcases z0 with⟨_|q,zA⟩<;>rfl),excClassObj z0 zA zB zC,X.A.units+1,h'.get? z0=AC zA,EE (JU z0),O0 st,0<r.length,AX z0 zA h2,RC s.TypeIs z0 zA,TK pyNext z0,(YH z0).1,xs[i],h z0 List.mem_cons_self,jZ (AM0 z0) zA,BT x z0 AM5,AL4 (B8C z0),NZ c i,B8U tmW,(E9 n).z0,SqK z0 zA zB a xs,AMF z0 true zA zB zC (KU zD),(by rw[jT A.in1 (z0>>=_) _]),λi z0 H' _ _ zA=>zB,rA (eW xs.zip ns) A0A,sIx items.size items.size hi,y.length<=z0,z0=runs.flatten.length,[tg],(by injection z0 with e1 zA),CA .str z0,t.2.1,lo+KR,QT a,.cons r z0,TC ns.map,TK Builtin.SmallTypes.nextOf z0,MD us,z0+n<cLine,XI MethOkE base C z0 zA zB zC,x=.int z0,HT.lexLt z0 zA=false,A8M C9,.ok (.ret z0),C8N (upd H1 p z0),~~~X8 e5,o.cls=.type z0,w1++bk++x,(by obtain⟨z0,zA,p1,_⟩:=zB;obtain⟨zC,zD,p2,_⟩:=zE),(ap z0 AJ).1,(ap z0 AJ).2,wpAny_callSpecial?_slot (name:=z0) zA zB,K1 f kA st (z0::rs),jaC (D6 z0) jaN,g+st*i,.ins C dx (C6 z0 (AL zA) zB),a1i (v:=z0) rfl zA TM,a3H X qL H b,X.s₀.heap.objs.size<=z0,z0 s.heap zA,(List.range z0).zA,AI z0 e1,AH e z0,aL 7,((z0 V.int)),(by have z0:=s1.trans zA),HW (AM9 z0 zA zB),RC z0 zA (AL zB),typeIs_int z0 zA t,kC z0 wpAny_pure,BT x z0 (eT zA),A8M ca,ZC jv z0,.int i t,A9D z0 0,n-a,SqL K H p z0,EqV K H z0 zA y zB,qD Unit×Unit,TupsAre z0 vs rss,G5 A4,B9R a,fs++zs,a2P K HY z0 zA,cellsFrom z0 scope.names zA,EG a i,C9K us.toArray,t σ H Q,(show BV z0<=_ by exact zA a zB),CameS rows z0 zA,.Name y u,VS z0 zA none (A8Z fP),x*(300 / t.sum),(by refine OD false z0 _ KZ zA ?_),EO TY _ (I.laid (t':=z0) zA (fU zB kR) BW zC) zD,AME DrAt ar as ac ap z0,z0<s.heap.objs.size,h2.1,(by rw[List.getD_eq_getElem?_getD,z0]at zA),(by unfold z0 at zA;split at zB),show z0 from rfl,(z0 V.int).zA,~~~a3o z0 zA,~~~z0 hi,Q (.bool z0) zA,List.mem_append.mp a,FB (HZ z0),CJ r,z0 X e t,FK (aZ z0),ER 0,z0 b _ e,Sum.inr n,RC .call z0 zA,1<=m,xs.getD i 0,I.pin p z0,(by rw[LC];refine z0 zA),QA CD z0,rC (CI z0),fH e z0,.dT [],WH BF z0,A03 (-sd),DL z0::zA::caps,(n,k),ALK BAR,ALK BAU,a i ys H,∀σ H,z0->zA,A0W q,GX p (aT z0),B8S O8,rN z0 H zA zB V.int,E9 x.toNat,rL n λi=>z0,(by rw[MY z0 C4 CAA]),(by exact Option.some.inj h1),B9S IW,z0 h1 h2,(if_pos (by decide)),AO o (F6 P z0) zA,bF k x,ANK a.toArray,PI X tg l z0,BA6 z0 .ellipsis,C9I v.length,.frz o u,zX z0 y x,∀x,z0=pure x,TL List.getElem?_eq_none X9 z0,z0 σ H1 Q,ca x',[⟨tg,z0,zA,0⟩],[BAK V.str],~~~a3m k,λi h1 h2=>z0,prices.map λx=>CA3,bE psW xs,[CI 4,CI 7],wds (B.zip d),DV j h1 h2,FV T6 X.A z0 Q E s,∃m:Int,C9G/\z0,rG (z0 zA d f zB) b.h c,A95 a b z0 xs ys,BG z0 A zA s s (e:=e) zB,D0 (a0c ns z0),hd ys H p,(by refine JL wpS_mono z0 r k f),CA9 z0 (zA σ2 H2 λb zB=>U3 b (te σ2 zC λv zD=>zE) zF),z0 (base:=base) (P:=l.prog) (w:=w) zA zB zC,ANP true a b B9K hb,Z2 (AM7 z0) zA λl m h1 h2=>zB,(by rw[DN (λi m z0 H=>m=zA/\zB/\zC) zD ?_];rintro i m zE H ⟨rfl,hi,p⟩),xs.sum-z0,z0=b.size,["_law_script"],(by simp[z0,zA]),(by rw[XL z0]),(by rw[z0,zA,zB];exact zC),(by rw[z0];simpa using zA),(nomatch e),(by rw[List.getElem?_map]at z0),(by rw[z0,List.take_length]at zA),(by simp only[z0];rfl),(by rw[z0,<-zA];exact zB),if AY z0 then zA else zB,(by simpa[z0]using this),(z0 zA).trans,(by exact SqL.of z0),AL x,BJ xs.length,AH List.length_replicate z0,AH (AMS z0) zA,AH z0 b,aI z0 H',Lsts H z0 zA,Q z0 sL,eN VT,0<=m,decide_eq_false h,List.getElem?_eq_getElem h,λx z0=>tF (zA x zB),JQ L0.map,JQ six.map,GY e,NT j.map,NT d.sides.map,upd (upd z0 zA zB) zC zD,(by rw[jQ R h]),pT h.get? z0,vs=VY,LZ f,LZ (B9O z0),XQ z0 zA flatten.toArray,MA z0 x,BQ _ (∃(z0 zA:zB),zC),d.getD i 0,XT PySem.W.keepIn z0,(by refine z0;rw[Int.toNat_natCast]),b[i],b∉ex,(by rw[OA z0 List.length_map]),AKS "room",MW z0 zA List.mem_cons_self,(by rw[YG wpAny_holding z0]),wpAny_pure ?_,∀z0 H',zA->BN->zB,z0 λj=>sT,YL tV,MQ g.1 z0,σ[j]?,AL0 s.heap.objs.size,(by rw[PZ _ (A19 z0)]),kS i,B87 ws.map,ZA t,h _ ?_,bK la z0,l.length-2,ALN IS z0,sO (AI Heap.get?_update_other z0),ALP PySem.W.keepIn,VS z0 zA aS (F5 K zB),CB xs.length/\z0,lo+x-1,AM2 fs,.str x t,B8V k.map,B8V CAX,(by have q:=z0;rw[zA]at q),R (AOB z0) zA,AMM n z0,B9C h.Ns,LW (AM1 n),LW (AM1 fE),A1 (E3 (Z5 K z0 zA)),A1Y (NR z0) zA,la.take na,ANH t,LA.length-k,[x,y],AO8 i,C9L A1E,CQ (ALZ z0 aW) (tCB zA t),[CI (1+i),x],BBF n7,(by have e':z0=zA:=zB;subst e'),fF MH o z0 nb,(h v).mp,BBA JB z0 A0B,BBZ e.length,BC5 z0 ea,⟨xs,z0,BW⟩,DF (A8C A0K) z0,kQ Ans rss z0,E z0 none H',AOC (aJ z0 f),R (.ok (TK .ret z0)) zA,⟨_,rfl,z0,_,zA,_,rfl,rfl,zB,zC,zD,zE,zF,zG,zH⟩,λH2 s2=>z0,xs++ys,z0 prog w zA,z0 (M7 (F8 K zA)),z0 (Str.join bk),Nat.le_add_right _ 2,λys H p=>z0,a0F q p,Nat.ne_of_lt (Heap.lt_size e),[CI x4,CI r5],AMW zs.map C9,(by obtain⟨z,hd,vs,c,dd⟩:=A02 a3V),z0 zA d zB es.size ep,BAG (x::zs.map C9),wpAny_setField_rec z0 AJ λzA zB zC=>?_,AMO v (CBD A9W z0),.Slice lo hi none p2,aO "list" .seq vs.toArray,∃x,u=V.int x/\(z0),X7 (wd " 0") z0,z0 zA qL s1 σ H1 _ zB zC,(by cases(jZ (B7X b) z0);obtain⟨z,hd,xs,c,dd⟩:=A02 a3U),D5 X.prog X.w,Nat.mul_le_mul z0 (Nat.le_refl 21),∃a z0,x=BF/\zA/\zB,A1N (EG decide rQ) AMQ,(by rw[AA2 ⟨z0,zA,BBP p' zB,BB4⟩]),OD _ rfl z0 AG AG ?_,MR++(b.extract at_ IX).reverse,[CI g,CI st,CI l],(by refine⟨a,b,z0,_,rfl,zA,A0,zB,rB (0<zC),rB (JR zD),zE⟩),(by simp only[List.mem_cons,List.not_mem_nil,or_false,not_or]),O6 ns (prices.map prO),eO (bE d.map V.int) g,out++a.extract ia ZF,OD _ _ rfl _ rfl ?_,AMH l (BB9 "tuple" dd CAG sl),(by refine BG O3 xs z0 zs zA zB (OB zs (BN/\zC)) u5 (ANR zs h ⟨(c H' CD).1,(c H' CD).2,zD⟩) ?_ ?_),⟨_,rfl,p,C,dx,_,_,rfl,z0,U.cl,zA,zB,zC,zD,zE,zF⟩,mirror IS lo VW ((VW-lo) / 2),[B98,CI 3,CI 5,CI 7,CI 9,CI 11],(by have s':JJ (PQ H' p z0):=s.upd hp;refine u7 p zA A0 zB zC zD [];rw[zE];show Sub _ zF/\_),(by obtain⟨⟨dx,ah,hs,h1,h2,z0,zA,zB⟩,⟨fs,f1,f2⟩,⟨zC,zD,zE⟩,ne⟩:=zF),Value.type z0,I.tuple z0,wpAny_bind z0,z0=ys.length,[FP],zz.2,(by rw[List.map_cons]at z0),(by obtain⟨z0,zA,zB⟩:=h),(by rcases z0 with zA|⟨o',zB⟩),(by simp[List.append_assoc]),(by obtain⟨_,o,z0,_⟩:=zA),(by simp only[R9]),(by dsimp only;rw[VL z0 _]),(show z0 by rw[DQ zA zB]),(by generalize PQ z0 zA zB=zC at zD zE),((DA)),((CAC)),z0 (wpS_pure zA),(by exact wpAny_execs_nil z0),(by exact decide_eq_true z0),z0 _ AK,AL za,z0 s2.heap.objs.size=AC zA,Heap.get?_update_self _ z0 zA,AI j z0,AI s4 z0,AI ss z0,AI z0 hn,Nat.le_succ _,.refl _,F7 rfl,List.mem_singleton.mpr rfl,AO l.extBut z0 zA,GK a.toList z0 zA,~~~a3q z0,Nat.min_eq_left a,decide_eq_false e,a1E e,EE (AO z0 zA zB),.inr x,DE l,0<=i,0<=ABM,GL h'.get?,(by refine wpAny_Call_Name_kw (z0 zA)),HS DR,BI z0 c,BI z0 e,BI z0 h1,.bool b,a1J b,A1 C3,A5 c,0<v.sum,JN z0 .free,if_neg h,K.In h,CO none,VC H2,QX IW,XM It,(by rw[DW z0 Bool.and_false zA]),Str->qD NameKind,EQ z0 (A1K zA),V.int.inj z,HV e,y::b,GY [],JU h1,RA z0 zA t7,CF q,CF h1,A3 (F9 K DR z0),NS xs,VF qJ,VF Str,CU za z0,CU z0 ?_,FN rfl,LB.drop n,AKD o,List.mem_of_getElem? l,1<=d.names.length,HZ I,HZ R,IB "len",FW a,λi _=>z0,TK pyIter z0,if_neg λz=>z0,x > 0,IU lv.sum z0 zA,i<=k,(CCP).1,.no f,u=Value.bool z0,(by rw[VL List.ext_getElem? z0]),(by rw[z0]at h;exact zA h),(by rw[List.getElem?_map]at h),b∉X.fs,IC List.map_cons z0,A87 z0 get?,(by exact Int.le_refl _),c≠z,L1 "len",ID z0 A0,(by rw[LC];exact z0 zA),LA.take k,s'.trans s2,YC (CZ z0),zQ a,A8B A,zR sW,p::r,AKS "line",AKS "text",(by rw[YG wpAny_tryCatch z0]),TQ (E8 z0),C4 ?_,A8C AN2,(by rw[YK Array.getElem?_toList z0 zA zB]),QD .In z0,if_pos q,x∈D,YL Unit,bG List.getD_eq_getElem?_getD z0,rB (1<=z0),zY BCM,rE "len" z0,rE z0 (zA X.K),z0<2 ^ 63,YP o,VJ p [],r::rs,rL m,rM u,rM now,ns.length<=n,kS z,IsPair z0 zA x y,kW ANB,kW BCI,w::vs,absurd (Heap.lt_size z0) zA,UE z0 "rows" zA zB zC,WK hl,ZE h,fZ not z0,K4 z0 A4,sJ h z0,N0 ts,AM->APJ->z0,PA X es t,RA z0 zA ["rows",zB,zC],ALP keepIn,A0M .Add z0,A0Q V,A0V st,B8S a0W,(by exact wpAny_truthy_bool ⟨z0,zA,zB⟩),AH (fH q z0) q,Value.str x t,A13 v,A13 l,GO z0 (KU zA) ?_,tN [],AM7 a8d,C8R a1v z0,Int×Nat,y∈ys,eval z0 env,(CCS z0 zA).sum,A1C hR z0,B99 C7,A1G z0 (YC zA),A9V (JR r.length),B9B V,B9E h,V->zM,AMT qM.length,V2 z0 none zA,(by rw[AF e B9W]),z0=ns.length/\EQ zA zB,A1 (E3 (E4 K z0 zA)),B9J xs,C92 Vis,B9N c,a<=topN,us.length<=6,xs=ys,A25 b,IU z0 Nat.lt_irrefl _,ltAt' z0 zA>>=λr=>zB,k<=xs.length,ws++c,ET B9L (pU z0),ET C9A (pU z0),a6e K false,DJ X.N y,AB5 ABF,O6 ns cs,EO _ _ _ z0,(I0 ns cs).z0,(by rw[AN5 c n]),(by rw[AN5 c c]),AOO C99 z0,C9R SysOk,D6 jaN,.dK qM,j∈hX,AOT T.db,AOU True.intro,R0 A04 z0=zA,BBG WA,BS z0 H2 s2 zA,vs=[y],IT H v r,MF (A15 AOM),BBK (ER z0) zA,(by rw[MY BCC E8 z0]),AP2 z0 1000,(by rw[OK (List.nodup_cons.mp h)]),C9Y plainId_quiet,A8I 1 a5x z0,AP4 2,W.item z0 zA _ _ zB zC,tI ws.take i,APB s.heap,(by rw[ANX e e2]),ANO k K H,ALE p (KW p z0) tL,CA7 n,St->AA5 z0,[EZ,FP],(by refine gR z0 zA (BA3 zB)),(CCV:qJ),BCA f1,DF i ty,(by rw[GA s2 s1.upd z0 zA]),BCE 3,BCK f,CAD i,BCN X.base.get? z0,CAE AN2,fV zs tss,AMD h.get? B9M,(by rw[OM t (ANI z0 r)];rw[CG];rfl),AAN Q z0 (AM->zA),c0<=ia+ib,kG z0 .Assign [zA] value zB,BAY H rss,ys=GN z0 i f,CAQ B.mono,CAR C,(by rw[APP p ?_]),BDJ o,BDN c2A z0,p::P,vs++dvs,(by refine GO z0 (rK zA) ?_),⟨BC3,CC7⟩,GK vs z0 v,(by rw[BO z0 List.mem_cons_self ..]),A1 (BDI D6),IP zU zU z0,jP some QF,(by rw[CM (List.mem_append.mp h)]),(by rw[LY s2 H1 z0 zA]),∀H',APR z0->zA->zB,j.map λx=>B9G bS,VO x c,YB RV YU,(by rw[KB i j]),.dict es ep,A0G st runs,VX z0 zA _ rfl zB zC ?_,⟨z0 c.h d.h⟩,AB6 z0 y x,AllD D a0,(by rw[AOX s2 s2]),C0 (fT K3 4),k b u q,CC8 0,CCE 26,CCL z0 I.pin,B<=CBP,A0H++C93,(by rw[BCB CD]),ES×AA,(by rcases z0 with w|w),(by .simp only[h,z0]<;>omega),(by subst hj';rw[BP z0 i j]),⟨z0,(R1 f zA zB).symm⟩,α->β->z0,.cons _ t,X.env.frame=AC X.env.locals,tmW x n,(by .exact z0 x hs a),QV a2o T.b_sum z0,FD h tG,Answer rss cs.length z0,(by .rw[AF Array.getElem?_toList (gH z0)]),OV z0 s2 H2 _ zA zB,FH (AO4 it),VM bL gC,(by rw[XY (z0>>=CO _)]),YB t0 BAE,cs.getD j none,(by rw[A83 z0 zA zB eY zC .lst []]),(by rw[kH];have e:¬z0:=λz=>qY beq_iff_eq.mpr),v∈a1p cs,(by cases(jZ z0 r);rfl),Prs H z0 f zA,A8H g z0 te zA H1,rP .Constant z0 j zA,fV vs rss,A0D (wplus.length=3),L6 z0 (G7 K 2 (B84 (jN A7 zA zB) (jN A7 zC zD))),sK .Constant z0 j zA,lK "rows" "caps",(by have z0:BAP zA=zB:=by rw[Heap.size_push,zC]),A8H CCO Q0 te mJ H,Loc X.env.scope y,SqL K H a AO3,Stps e z0 d',a1o ρ z0 i,∀b u,CBS->kU->z0,(by rw[AU e2 r r]),∃c,x=.bl c/\z0,(by .rw[lP ys];rw[DW z0 List.take_length B9W]),BBH 0 lo,(by .rw[CK _ e AK AK]),APN "a" "b",⟨h,g,d,t,os⟩,∀x y H1 z0,zA,ρ 0=1,∀y,A24 z0 y->zA,PU e n (z0 b o (YV zA n) n),sS s.heap it i,ALY out ia ib,⟨rfl,z0,zA,rfl,AG,zB,AG,zC,zD⟩,z0 λ_ _ _=>False,(by rw[AMC h1' d d.toArray h1]),(by rcases r with⟨_|q,r⟩),BG I.write x z0 e zA zB zC,(by rw[NF e2 H1 z0 zA zB zC];rw[mB H1 zD zE H2 s2 e2]),λb z0 q _ _ _=>zA,A9B out na nb,s b u a e,A1M _ st (z0 st h),A2G (CAM z0 zA) E0 uB zB,(by rw[BDL c (bH s.upd z0 c)]),IE T.keep z0 λb zA o zB=>zC,λh r z0=>zA (h r zB),(by simp[Q8]at h),(by rw[z0,zA,List.take_of_length_le];rw[BCZ List.length_zipWith]),(by .rw[AAZ (z0 (VZ zA) c d step)]),(by unfold z0;rw[WC zA h1 h2 zB zC]),(by obtain⟨_,_,_,_,o,_,_,e,_⟩:=x),(by first|rw[BL (A9C wpAny_typeNameOfWhole_keyiter I.typeIs)]|rw[BL (A9C wpAny_typeNameOf_keyiter I.typeIs)]),(by obtain⟨r,b,z0,_,e2,zA,zB⟩:=zC),(by .obtain⟨z0,zA,zB,rfl,_⟩:=h;rfl),(by .obtain⟨z0,zA,zB,zC,zD,zE,zF,rfl,_⟩:=h;rfl),L8 env cs z0,qD (Array Keyed),step z0 (fl:=zA) (v:=AL zB) zC zD,pushCells (z0 CCN) scope.names,A6 e (n.free z0),(by .exact z0 x q y b),pR (AKJ "get" qO) z0 qN,a3t (a0F z0 zA) [-1],JV (AC none,KR,OW),(l+r) / 2,(by obtain⟨z,z0,n,r,e⟩:=zA),(by rw[EH (JL C2 z0 x f1 f2)]),(by .rw[A9X];rw[YA (NV g r e2)]),(by rw[show(z0)=FC zA V.int by rw[BCL]]),d.take g++[BC0+1]++d.drop (g+1),a1A n DR B2 z0,A0L (a1c (BBO z0) (a0u zA)),c 0 [] H1,a6w src z0 g zA te,(by rw[D2 j a e List.mem_iff_getElem.mp z0];rw[zA]at a),(by unfold z0;refine wpS_forRange (I:=zA) ?step zB zC),∀p,z0 B8H (zA::zB) zC,a3G kf la lb (z0++zA++zB),(by rw[AMC g f f.toArray h2]),LyO ns rss xs m o,EG X.fn y∨X.env.scope.names.lookup y=AC .local,∃(z0:qE) (zA:zB) (zC:zD) (rss:LLI) (zE:qJ),zF,(by rw[mH x y xs ys]),AA1 f ⟨oc,od,.func z0,zA⟩,∀i j,rR->cB->z0->zA,(by rw[CCW z0 zA];rw[D2 zB zC e2 zD hy];subst e1 e2;clear hx hy),(by .simp only[List.mem_append,List.mem_singleton,not_or];rw[AZ z0 zA]),AKR outer a i E,na+nb+c0<=a.size+b.size,PassesOwn T6 X.A X.env X.xe,wpAny_field j rfl (x:=z0) rfl,(by rw[gO];exact z0 a t' b t),List.replicate j NW++[1000000000000]++qU BBT,kL z0 zA e s z (absurd z (zB e s)),(by obtain⟨dx,z0,r,zA,c,q,zB,e1,e2,zC,zD,zE⟩:=zF),(by rw[GA z0 st zA zB];refine CCX (FB (AO zC e1 na)) A0 zD (BA3 zE)),(match r with | .done c'=>C9O z0 | .yield c'=>C9O zA),HR "read_number" 3 ["word","top"] c1w,(by rintro z d st' _ z0 ⟨g,e1,h1,h2⟩),(by rw[LZ z0,e]at e2;injection e2 with e2),⟨_,rfl,p,C,dx,_,_,rfl,z0,U.cl,zA,zB,QJ zC,?_⟩,(by rintro d st' ⟨g,e1,h1,h2⟩;rw[AZ g (DZ ⟨e1,h1,z0⟩)]),(λ{_ b l t k} e=>by rw[gY (z0 b l t k) DGet.k (k:=zA) e]),(by refine⟨?_,.str (Str.join a ys),H,VI,GD s.toks,q⟩),∀{H:Hp}{b:qE}{l t k:Int},BAQ->DGet H a (sQ z0) zA,(by rw[AAB ex o (G8 l h1')];obtain⟨y,t,p⟩:=G8 m g;exact(i j x y ex t).at I (by show AO6 AN7;exact a7W k B) o p),model z0 w,(by rfl),jN A7 z0 (L2.nd zA),qA (qD z0),Keyed->z0,qA (qA z0),QZ z0 K 0,G2 z0 P w K mg base N zA,Good st z0,z0 ns xs a,AKQ Cmp s,u=Value.ref z0,z0 kf st a b zA zB st',aQ (Q (z0 zA) H'),kindOf z0=κ,d.names.map λn=>z0,AKH .bl z0,D9 (top z0) zA,B3 z0 (B3 zA D8),UZ [],FB (JU z0),eO z0 V.str,GN cst z0,CS > 0,zN (A86 z0),z0=ps.length,.seq z0 n,aO z0 .fields zA,(show z0 by decide),∀z0 C s H ex,zA,wpAny_pure (z0 zA),X.held p,MK Str.join z0 zA,Pl rss z0 xs,StateT SortSt Sem (z0 zA),X.blk N scope a z0,z0 k1 k2 s.heap a b,(backTo qN (UZ z0)).all (FE (! HH)) && (backToKw qN C8E).all (FE (HH).isSome),C8C "set" (.set #[] 0 (.fresh 0 0 z0)),AllBare z0,⟨kJ,z0⟩,(by .exact wpS_pure z0),z0 ns zs y,AL6 g,z0 CS DM,JQ (A86 z0),TyOf K H z0 zA,AKG z0 sysModules,behindInMarks z0 zA=false,funext λ_=>z0,(by exact .inl rfl),B87 ns.map,HR z0 zA ["rows","one"] zB,F0=none/\z0/\zA<=zB+zC,z0 outer s H E,(by show z0;decide),List.replicate z0 zA,(by exact Nat.le_trans z0 zA),CI 1,QZ z0 K 1,PySem.W.mg_of X G z0,Int->Int->z0,z0 mainGlobals mg,start N vs,DRaw z0 d es ep,z0 ca af aw b L F W,Value.ref z0,eJ z0 scope,CU z0 A0,a0c ns z0,KU ha,XW A96,pY h'.get?,JT X z0 tA,kM N6 z0,ALM z0 RJ,N0 ALI,(rT z0).zip,NV _ z0 rfl,C8O xs.length,C8Z F,((∀i,i<z0->zA)),hd H' p s hp,Nat.ne_of_lt z0,CI j,DE f,λz=>qY z0,eO z0 kV,z0 (eqU x),B95 (QS z0<1000),ALE v z0 kX,tBM K z0 zA to t,IsZip z0 z TI TO zA,ys.length=z0,if z0 then 1 else zA,eJ assign z0,Builtin.Tuple.tupleExact _,ET failedOf z0,EN z0 Heap,XI OkE,ms.getD j 0,QT b,JQ (FC z0),List.replicate n z0,eval e z0,if_pos (z0 e),z0 (wd "0"),EG X.fn x,lA bI z0,starEach es z0,ALN eR z0,(B8M z0).objs.size,C8K A04,Ls now xs,z0×Nat×Nat,Rs z0 rss,l++[j],C97 z0 (AC zA),[b,c],C9F s',DkAt C z0 p ns zA,h1.push ALS,wpS_forRange (I:=z0),∀x H',z0 i H x H'->zA,(cst z0).map V.int,C8T r n,DV x H' y,A8B (A.deeper (C96 z0 zA a))->zB,EX b o e z0 zA zB,st'=st/\∃l o,c=XX l o/\l<o/\z0/\zA/\zB,pV z0 (zA kf st a b zB) st',{cls:=JK z0,dict:=zA,data:=zB,slots:=zC},∃t,z0 zA zB t/\t {nx:=FD H' A9H,rt:=Q} B9D H,s.heap.push z0,s.heap.objs.size+z0,(by rename_i z0;rw[zA]at e),CA ca z0,~~~a1P z0,DJ σ z0,ER (sIx n z0 zA),aQ (z0 K H' a zA),VJ p1 z0,(show z0=zA by omega),OH z0 List.length_map zA,B8G wpAny_bind z0,(A0I (by simpa using z0)),DP a1d z0 J5,λσ' H' z0=>zA,AMN::outer,B94 (B7T z0 qual zA f a A),(A5 (by rw[W2];rw[AU z0 q q])),ns.length-1-j,AMR z0 pos h,JP a i,λH1 s1=>z0,z0 HH==AC zA,Room DA z0,a8X P w a z0,d.getD g 0,IsTup z0 b a,A9S (C8I z0) (C8I zA),b H' CD,∃N:VP,(∀σ' H',N σ' H'->z0)/\zA,((A9O X.prog X.w s.heap z0 (A9A a zA))),(by rintro i x z z0 zA zB hx zC ⟨zD,rfl⟩ zE),z0=xs.length,(by rw[z0,List.length_cons,zA]),reverseSlice' z0 zA,AI T.da z0,(by have:=z0;simp at this),decide_eq_true rfl,DE x,QZ E7 K z0,pT h'.get? z0,RE ys z0,jV z0 zA "one" zB,r.length=n,[(false,z0)],b4D ns zs z0,(by rw[List.map_map];rfl),dot r ys,kE (GL z0) zA,z0*cs.length+zA,TV z0.2.2,AN1 z0 λj=>zA,ns[j]?,YR z0 "_law_pot_here",YW z0 xs,gB hR z0,VS z0 "_law_pot_here" aS zA,JV (z0,zA,zB,zC,mg,k,bc),P.zip vs,(by unfold topN;omega),(by rw[BO z0 Nat.le_refl _]),rS z0[i]? v,Un z0 zA H H' s.heap zB,SqT K H z0 ys,fI V0 z0 ia zA,a3M z0 [] E0 zA,HR z0 zA ["names","words"] zB,BindsTo s fd z0 zA,(by unfold pyNext;rw[YG wpAny_attempt z0]),a2s sz lo z0,((t8 QC h1.get?)),List.foldl (λz0 zA=>zB) #[] (B96 zC zD),I.turned (t':=s.toks) z0 zA f1,∀p∈X.pn++qL,z0,(by obtain⟨e,y⟩:=y),(AMU b (C9Z z0)).trans zA,(K w.params).In z0,λσ H R=>XN z0 zA zB,seqObj "tuple" vs.toArray 0,F9 K DR (z0 jaN),ObjOk P w H h a z0,∃σ' H',BAX/\z0,(by rw[gF p KZ l z0];exact AO k zA (B9I l)),[JK "ValueError",JK "Exception",JK "BaseException",JK "object"],z0 λ_ _ _ _ _ _ _ q=>zA q,L.length<=z0,(by rw[z0,List.length_map]),(by simp;exact z0 zA zB),(by dsimp only;rw[A06 z0]),if rQ then z0 else zA,["word",z0,zA],s1.toks+1,AL M,AH List.append_nil z0,AH Array.getElem?_toList z0,isNm x,LW c.map,jP ForInStep.yield z0,DS (wpAny_pure h),(by rw[List.getElem?_map,z0];rfl),cellsFrom n z0 zA,PN g,z0 rfl T.b_int zA,zN ws.map,z0 (C9 x),A8A st z0,AKP "own",DP z0 0 B2,Q (B82 z0) H,AKW DA,WG z0 zA "one" zB,kT D,_+1+_,V.bl true,Sem qB,A91 codeIn z0 zA,g i j,RO _ z0 zA rfl,C8N (kZ H1 z0),B99 F5,A9T c,f+s*k,(by rw[A9Z z0 True.intro]),[e,it],(show z0<=zA by exact zB zC),A1R x,A1W BF z0,IX-at_,sP y x,absurd (z0 z) zA,mg z0=AC (.int zA zB),GX l (JQ z0),AM->ZL->z0->zA,n∉AA0 z0,a.getD z0 TU,aQ (TH (zT z0 zA)),VA H a .dK z0,show s.heap.IsTuple a z0 from zA,wants z0 E,CB qM.length/\z0/\zA,VU A4 A4 z0,((∀i,z0<=i->LG->BBV)),∀x,bN∈z0->YZ,CAP push,Fun K x z0 st f zA,te z0 H' N,prices.map prO,⟨xs,ANG,z0,zA⟩,(by simp only[List.lookup,hb,z0]),(by unfold leK KeyOrd.kle),((s1.trans s2)),(by rw[CM (List.mem_append.mp g)]),XX KR OW,BBE z0::CA zA zB::caps,lN "one" z0 "one" zA zB,(by rw[List.all_eq_true];intro v z0),if i<0 then -i else i,∃u∈L,B9U,BC2 ha hb,FoT n m rss z0 v,(B8M zH5).get? z0=AC zA,z0 (cs.getD j none) zA,x+m*y,Un fs ex H z0 h zA,ObjM z0 x dx C zA,(by intro z0 qL s σ H Q I h),∀(kV z0 pm:qB) (an:IY) (zA ct:qB) (us:AQ),CAF->bindArgs zB AO5=CAV,List.mem_range.mp z0,z0*cs.length,W.length<=z0,z0++a.toArray,(by rw[OI z0]),(by rw[List.length_append]),(by rw[List.map_cons,z0]),(by obtain⟨z0,zA⟩:=hV.rs),show PP z0 from zA,⟨q,z0⟩,⟨o.slots,z0⟩,(by simp only[z0];omega),(show z0 by omega),(by simpa[List.getD_eq_getElem?_getD,z0]using zA),(by rw[<-Array.length_toList,z0,zA]),(z0).filter,AC e,AL I,AI z0 hp,(by refine wpS_pure z0),(z0 (by simpa using zA)),(by have:=z0;rw[BCY]),this.2.2,CB 2,q.2.1,BK x',CC xs,DE za,((z0 V.str)),i<ys.length,CJ b,List.mem_append.mp b,EG z0 a9S,LW j.map,LW (FC z0),x::l,DL l,EQ z0 (D x),List.replicate k z0,NT CC6,CU rfl z0,XO z0 a.size,(by rw[aR z0 zA Option.map_eq_some_iff.mp zB]),(by rw[IR wpAny_truthy_bool]),Value.ref C,z0 rfl T.b_len zA,eT 3000,jW "self",valueAt z0 k,KW z0 (JQ zA),MQ WN,NV z0 _ ?_,qU D.length,z0 l vs.toArray,OH List.size_toArray z0 zA,Q v H,a+o,zV x,zV ((x-1)),AKY eV,MQ (W1 z0) zA,if_pos h1,QE r.length z0,qZ H' z0,C87 rss,AL0 b.heap.objs.size,C88 EP,YR z0 "self",a-o,UA hn,A03 v,fX I.cell,id hV,z0<10 ^ 100,(n,x),sK .Subscript z0 zA zB,j::rest,B8I z0 ys,qR++a,A98 (z0<=_),.int z0 s.toks,A9E (ANU z0),(by rw[gW List.length_map]),b3m (D6 z0) zA,z0=V.int x,A11 v,DP a4v z0 J5,A1F xs.map,(by rw[mD];rw[eZ c]),B9O d,na-at_,atI xs z0=AC v,JPs X pos z0 zA zB,ANE it,AAG CBK,Bar z0 ys j,A2D bm.contains,BAB st',GM (L=[]),EO _ _ rfl z0,(by have z0:(zA==zB)=false:=by simpa using zC),C9R a3X,r∈rss,AOS z0 all,aP IS ((n-1)),BBI SqT z0,AP1 wpAny_letGo,YV j a,fW q kR,AP8 ys,Ans rss ys,AMX HJ z0 B9Z,BA8 (i=j) 0,BBW tW,CA2 s.heap.objs.size,F++z0 λv=>A8S,(by refine sO (AAU z0) ?_),backTo pos z0,IsTup s.heap z0 zA,min k n,eqV y x,(by intro x a;rw[AAS z0]),kL z0 zA _ _ z (False.elim z),CAL pos',BD1 z0 zA s'.heap,BD2 p,AP9 n x z0,.int (g i j),CBC (EU z0),z0 (MD (AAP zA)),z0+1=a.size,us++ds,CBH Nat.ne_of_lt z0,(none:qD z0),aJ caps.map ovI,(by have z0:X.A.in1.handled=none:=zA),z0 ns zs e,.int a t,∃n,z0=FJ,MW z0 zA (lq zB hi),kN z b,DGet H2 a y z0,AOY "tuple" .seq z0,(by rw[hH u z0 a3K r]),APQ s.toks (o:=NS z0) zA ?_ zB,z0 λH2 s2=>GD zA,w::AOA,RD z0 ++ zA++RD zB,if x=y then z0 else VM x y,(by obtain⟨_,_,rfl⟩:=z0;rfl),(by simp only[List.length_map]at z0 zA;rw[LY zB zC zD zE]),(by unfold topN at *;omega),AY (PySem.W.plainGet K C z0),(by refine z0 (M4 zA ?_);refine zB),Wi cs u,z0 f y fs,(∃xs,z0/\k=! xs.isEmpty)∨zA,wd "sum" :: (z0++wd "=" :: zA),MF (hi-lo),AKJ f pos',LX z0 XU (pO _ ((zA zB A4))),AOF++bk++E9 z.toNat,C8C "list" (.seq CCB),sJ a1j AK,z0 λo e=>k zA AJ o e,z0 λx a=>h x AB7,(by rw[tH ltK];rw[fJ]),C8T ar tn,B96 ns.length none,RelV ANZ t.1,∀b u,z0->pY zA->B9M,List.all_eq_true.mp z0 _ (List.getElem_mem zA),b3R z0 (A9 i),EX i z0 zA hi zB q,aV z0 (pZ #[] e1),lT l v g,CB8 z0 Z3 Z3,(C9 x).cps.toList,AO h VI ?_,starEach IO z0=yY (BAI zA) zB,⟨_,rfl,_,rfl,a,z0,us,rss,zA,rfl,zB,zC,zD,zE,zF,zG,zH⟩,CCI "found" "level",(by show(_>>=_)=(_>>=_);rw[A06 z0]),∀c o,z0->zA->A8F zB,(p,w)::BCX,thn CC2 λz0 s1 (TZ vs c zA zB)=>zC,∀base:Heap,z0->CC0->zA,(by rw[N8,G4,a4u h0];omega),λi=>trV (ys.getD i .non),B9T=0/\CA6=xs.length,Turn P w K tg z0 [it] it (λi h=>zA),AMP l ALV (AB2 j),⟨_,rfl,p,C,dx,_,_,rfl,z0,U.cl,zA,zB,zC,zD,zE,zF,rfl,_,zG,?_⟩,∀(s:qC) (z0:qB),BD6 (MD zA) zB,PY (∃(k:Bool) (p:qE) (z0:zA),zB),λH2 z0 c=>k H2 zA (s1.off.trans (c.mono λb m=>zB)),BG I.step g' s.gens d' s.drawn z0 zA,(by obtain⟨⟨cls,dd,data,sl⟩,z0,zA,zB,hd⟩:=zC),a1h g k CBM AB3 z0,(by obtain⟨⟨dx,ah,hs,g1,_⟩,_,_,_⟩:=tZ;exact z0),∀{xs:AE}{us:AQ}(z0:Nat),ZG->zA,A3 (a2O z0 PySem.F.excBase_ValueError rfl PySem.F.excBase_ValueError rfl ZB),(by refine wpAny_handleBy_cons (codeAny_handlers_test ?_) (by intro q;cases q);refine N9 (X:=B8H) (z0 p) zA zB ?_ zC),(by rintro c st' ⟨rfl,l,o,rfl,f,z0,zA,zB⟩),∀(z0:zA) (qL:CV) (s:qC) (σ:St) (H:Hp) (zB:zC),zD,(by .obtain⟨its,r,pl,hz⟩:=z0 a;refine zA (eqU x) zB (λw hw=>a0T c b r fs w CBN) (BAM ?_);rw[DW (show BA2 its.toArray.any=BA2 its.any by simp) (a2X r fs) q]),List.getElem?_eq_none z0,s'.upd z0,s.heap.objs.size<=z0,us.length=z0,z0=vs.length,(by rw[<-z0]),(by rw[A2Q z0 zA]),(by rw[z0,List.length_map,zA]),(by rw[List.lookup_cons]),if z0 then AC zA else zB,if z0 then wd zA else zB,(by exact Iff.rfl),(by rw[List.take_add_one,z0]),(by subst z0;rw[GU A0]),(by obtain⟨_,_,_,z0⟩:=x),⟨h1,z0⟩,(by obtain⟨m,z0,_⟩:=zA),(by obtain⟨_,_,z0⟩:=Wk.det _ zA zB),(by dsimp only;rw[kY ?_ c]),z0 ≥ A9I,(by rcases hroom with z0|⟨zA,zB,zC⟩),(by cases z0<;>exact(B9S zA)),((CFU)),List.mem_filter.mp (z0 zA),decide_eq_true (z0 zA),AC z,xs.length+1,s1.heap.objs.size+1,AL ra,AI List.set_append_right z0,AY BEV,BJ DM,.byt _,.ok _,(decide_eq_true (by rw[z0])),(List.take_of_length_le (by rw[z0])),(z0 (by decide)),.inr rfl,ET H' z0,AH J.length_eq z0,AH J2 z0,AH z0 A0,~~~a2j z0,~~~a2i z0,~~~b1r z0,BB p2 z0,JJ H2,CB n,this.2.1,BK n,BK m,BK j,BK (lo+i),CZ cD,JK "enumerate",.error e,EE e2,aK α,LA.length-1,eq_of_heq x,Itc x,DE t,DE b,DE nt,FB e1,0<=cs.length,GM CA1,v.getD j 0,(by rw[BO z0 wpAny_pure zA]),wd " * ",(by have z0:zA=zB:=by simpa using zC),EU k,CJ d,seqIndex? i z0,(by .exact Nat.lt_succ_of_lt z0),LV z0 VT,A5 y.symm,A5 B.symm,A5 x.symm,0<b.size,AX z0 zA this,if_pos h,A3 (jN B1 z0 zA zB),CO #[],DL k,DL t,QW IS z0,j<now.length,seqIndex_of a z0,QX fO,XM V,GX z0 RT,GX z0 (CAU zA),EQ scope.names z0,EQ z0 BDY,HV List.mem_cons_self,JR ys.length,GY a,GY it,JU e2,.str y,(by .rw[DG];simp),ER es.size,(by rw[List.take_add_one,z0];rfl),(by rw[z0,List.map_append];rfl),List.getElem?_eq_getElem g,FN h,z0 b ps e,z0 b xs e,Off l H z0,Off VD H z0,l.take i,OZ items,LB.take n,isNm n,eq_of_heq l,d.params.defaults=[],ARK=[],TJ pushCells_keeps z0,TJ Heap.get?_update_ne z0,HZ hp,HZ hl,HZ G,HZ e3,IB "zip",jU CFK,DZ CFT,KS z0 a3p,KS z0 b1g,FW l,FW ts,rest.getD i 0,PH Nat,PH α,PH Fin,KU (HZ z0),((cs.length+1)),PK List.take_of_length_le,a > 0,XT PySem.W.hasDictIn z0,XT PySem.W.plainOver z0,XT PySem.W.makesIn z0,XV env.cells.lookup,zI r,A81 es,PN j,PN IW,Paired.length r,Nat.ne_of_gt r,(CDA).1,if_pos f,src[i]?,es[i],pY H,ys.length=n,.n x y,.x x y,JY a,KW z0 QI,KW z0 (CAU zA),b6D K,PP CDQ,(by rw[OA z0 Nat.zero_add]),AKI ys,aU List.getElem?_append_right,L1 "zip",(by rw[LC];refine z0 (thn (XS zA) λv s1 (TZ x zB zC zD)=>zE) zF),XZ o.Pairwise,XZ r.Pairwise,List.mem_of_getElem? k,LA.drop k,VQ c0K,A8B callerA,aZ sW,c7L H,(show z0=zA by simp[lnW]),(by rw[YG wpAny_bind z0]),BT x xs z0,frs BBQ,QA s' z0,QA s2 z0,List.mem_append.mp m,(by rw[OI Bool.eq_iff_iff]),Least rss cs z0,qX Under,QD .Eq z0,QD .NotEq z0,d AT,b AT,TW List.length_cons,YL Bool,(by rw[OK h.tail]),YO a3D,bG List.length_append z0,Int.lt_trans z0 PF,(L9 rss z0).1,AL1 HY,fH e2 z0,fH z0 hp,VZ CAO,W0 e,z0 (APD a),oft r rs,zZ toList,rF z0 (KU zA),NH c,C9 (z0 0),WE e1,AL6 st',kS n,xs[j],A03 (-s),BT r rows z0,WJ V,ALB e,(by refine z0;rw[List.length_map,zA]),rP .Subscript z0 zA zB,DF o ta,ALD c,ALD p,h.objs.size<=a,z0+1<scanBound,rZ toList,ALH mC,lB Bool,Sem α,fZ Prod.fst z0,a1S z0 A4,BT v z0 BFO,NZ c 0,ALM J.mono z0,z0 λo e=>fO,A8Z (AB0 z0),(A0I (by decide)),lH IW,RA z0 zA ["names",zB,zC],gJ z,ALP PySem.W.isFn,A0J (A2A z0),ALR mT,ALR ACH,ALR CG7,bT f,bV name,e4.same s1,D.same s1,A0Q α,CC1::us,gM ha,A0T CDE,A0W a,λx a=>AH A2W z0,t5 s,t5 I.hok,B8S a8d,a.toList.drop ia,kA % 28,(by rw[lR z0 (List.mem_map.mp b)]),(by rw[cG z0 zA List.length_map zB]),Nat.le_trans (z0 _) zA,lU (CZ z0),UY Key qB,tK true,B8X d,A9J lo,-(CDH)<=z0,Int×qJ,(by exact Nat.lt_irrefl _ z0),lZ e,⟨z0 b.h⟩,hZ z,tU a,tX "number",tY AOP,VO i v,A9T x,A9V ANB,iI (B7S E7) z0 zA,A1J U2,A1J T2,iK "int" z0,f+s*i,f+s*j,K.In base,G5 (fT K4 z0),b.toList.take nb,b.toList.drop ib,A1O a,GX n B91,VO b ps,B9P hr.mono,uH z0 fP,C95 m,a.toList.take na,a<h.objs.size,A20 h,c∉a.cps.toList,AN8 s.heap.objs.size z0,(DZ z0,BK zA),AND z0 "dict",ANF a,ANF I.ok.bs,uU l,(by refine JL codeAny_mono z0 r zA zB),A2B ACD,v0 .In,A2F "number" z0,A2I ws.length,AAO ys.length,s'.os=s1.os,AAR prices z0,(by wp_walk using M4 a),A2P e4,DP z0 1 DR,BAB st,A2T Array.length_toList z0 zA zB,BAC World,BAC ((BA)),~~~a8a d,DJ ys y,O6 ns caps,A34 i,(by rw[aR z0 zA Option.map_eq_some_iff.mp hx]),XT PySem.W.hasDictIn C,XT PySem.W.makesIn C,BAI env,W4 s.heap h,SqT K H p xs,ABE true,C9L lL,BAM q,BAT xs.length,BAT ys.length,AN0 H' h',CQ (A0N z0) (BA5 "str" zA),CQ (ALZ z0 aW) (tCB (zA K) t),.dT qM,BBC 3,BBC 4,dx≠x,tC (z0 i),Q (AC z0) st,JN bootBuiltins u,JN X.mg u,(by rw[AC1];rw[EF]),AC2 CC5,(decide_eq_false λz=>by rw[z0]),IT H v ns,MF (A15 BEO),U3 c (ARB z0) zA,QM tb y z0,AP6 HY,ACF l,tI ARI i,L.filter λv=>A8S,(by have e:¬z0:=λz=>qY decide_eq_true),ACI (c≠z0),Ans rss now,ACK (FW t),ANO k X.K H,CA2 dx,CA7 ns.length,tss.Perm F,Int->γ,-(A9I),(by rw[BC8 z0 List.length_cons]),Wk.det _ z0 g,FU KY HX,FU uW HX,xs.getD k 0,GK σ z0 (DE zA),~~~a2k h2,(by have z0:=zA r List.mem_cons_self),QY _ (Q z0 H),AQ5 gZ,(by .rw[AF z (t5 z0)]),Tq n t,Itr 0 n,Itr lo n,BCG a,BCP h.lv,BCS "_law_name",λb z=>ACC z,AQI y,A08 h xs,(⟨#[],by rw[OI z0]⟩),(⟨#[],by rw[z0,zA];simp⟩),AQR [],A0Y x C,AM8 PW .And z0 zA,AM8 PW .Or z0 zA,AM8 JW .And z0 zA,AM8 JW .Or z0 zA,SlR X (z0 K),BD0 σ,bindL kindOf z0 m x,bindC kindOf z0 m x,AOK (A10 true z0),AOK (A10 false z0),Rd H a (.dK qM),Rd H a (.dT qM),BB8 z0 R2' c0,BB8 z0 R4 c0,(Itl K a).z0,(Itt K a).z0,CAT u9,BDB (mE f z0 f) zA,ARR ys,BDK (z0 σ' H'),NN now,BDO 900,cs.length<=100,f::fs,TB/\ABH x,CBG n,s.heap.FunFrames X.base z0,z0 zA ⟨zB,[(CBQ,v)]⟩,((AAJ 2305843009213693951)),b1P (Q5 z0) zA,z0 X IO (zA te t),(by rw[AF e2 this]),(by rw[AF List.length_cons (lq z0 zA zB)]),AH z a,~~~O7 l z0,BB c f,∀s',z0->CED,PS X st t,NZ d i,(by rw[CBT List.flatten_cons z0]),BE7 .str,AL5 (BK (i+j)),BED z0 zA "other",BEL A05,(by have e':¬z0:=λz=>qY decide_eq_true),∀i ys H,LG->z0->zA,(by rw[A2N hu hr.u60 z0]),BF0 c.map,ABX O9 CEQ,APG uQ A3G,(by rcases AQ1 with a|a),tSl (b6y K) z0 zA zB,AQP (NZ c xs.length) A16,Mk X.K C f,BF9 BFD,c6O ns zs z z0,CCD z0 (.int zA zB),sS h i n,CCG CX0,CCJ ys,BFQ H',BFU z0 h',CCU z0 push,Nms d.names,o+r.length,b.toArray.size*k.toNat,u=Value.none,X.stack=CFQ,rest.length=r.length,MV::xs,κ×V,(by have z0:BV zA<=zB:=by rw[C1,zC];rw[DQ zD zE]),RelV (o.getD z0) zA,.ext λh=>z0,CD7 n,ET fs.lookup m,~~~b1z g,r.length=z0/\zA r,(z0 zA).snoc (CU zB zC),DJ rss r,((arrOf st)),f v u,HI (qM.any λz0=>AAH zA),-EY<=i,CDP Nat.succ_le_succ z0,CDR APO,MK O6 ns z0,aV H1 gE,IE a2W CS,bF y k,A8G true ah',CE0 A0,CE1 Ne.symm,Stps dr0 z0 d,fN r us,A0Y d.name fa,AMJ A7 z0 sc__law_names.nd,CEG BEN,(by rw[BP a n 0]),mP a rest,(by rw[BP f b a]),QW z0 k=QW zA k,JB X B v,T.2 i v hi,∃(z0:AQ) (n:Nat),zA,(by rw[YA (AO q (A9N z0 j zA) l)]),AQT k z0 ns.map,rG (E5 (z0 K b) f g zA) c.h d,(by exact gQ g Q e z0),codeAny JM A z0 R s,CFB 8,BDS CBW ts,CFF Str.join z0,CFJ (z0*YU),(by obtain⟨⟨dx,tn,z0,zA⟩,⟨zB,zC,zD⟩,hs,zE,zF,rs,zG⟩:=zH),BFB qual fd,(by rw[mU a y us rss ys]),BFV s.heap mA,(by have hj':j=x:= ~~~b3f z0 zA),A2L H I h,A3B b y y,CGX (a7H ns),CH1 H',CX outer H s E z0 zA,CHC HY,CHD xs,CHT A,K w.params,Shared.heap ⟨z0,g,d,tk,os⟩,ra.length+c.length,n.toNat*d.length,A00*A00,d.sides.length=d.rows.length,o::src,(by rw[List.size_toArray]<;>exact z0),(by obtain⟨h1,_,h2⟩:=z0),∃v,z0 c v,∀fs:OO,z0,(by unfold KV at r),(by (obtain⟨_,rfl⟩:=z0;rfl)),show b∈([]:EK)from z0,(show w∈z0 by simpa using hw),(by injection z with z),(by rintro c st' ⟨z0,zA,zB⟩),Vs ns.length z0,VC z0 (o:=NS zA) zB,Int.mul_le_mul z0 zA zB AK,(l.map z0).sum,ClsX K z0 [],(by have:=z0;rw[BO zA zB this]),CQ l tl,~~~b1p hj z0,BB w hw,PySem.Txt.split z0 bk=zA,KN H1 s1,(by rw[AU List.map_nil z0 zA];rw[ABS]),s.1++[s.2],.int i _,DF (A0N name) z0,A5 (show GY z0 from A6 t zA),Bel r ys,EG f k,(by .exact wpAny_Name z0 hd),(by rcases uO with e|z),EI wd " * ",T.obj _ _ z0 b zA,(by rw[A0,List.map_map];rfl),a4r lo n,VG (AOL (FU A4 (BF7 z0))),a5f d p,Rd H a u,IC (A5 z0) A0,Mut (H x),tC (.str x),GI iG z0 s,RO rfl rfl z0 zA,zT E9 n,z0<=L.length*cs.length,b2g t b,Nat.le_trans ZJ AJ,(Itr lo n).z0,WG z0 zA "names" "words",(by rw[z0]at h1;rw[sM zA];rw[AQX]),(by rw[AU e this this]),A8P F q,S0 z0 zA NP OF,UI off (I9 z0 zA (zB _)) zC,EqV K z0 1 zA (AL zB) zC,λy l=>CH4,qD Fin×Unit,A91 PySem.W.plainGet z0 Str.empty,A91 PySem.W.codeIn z0 qual,B8F d (z0 (CH5 s H ex) zA zB),(by rw[bY Q8];rw[Bool.and_eq_true]at h),A10 z o,v=.str x,(⟨z0,by with_unfolding_all exact List.mem_cons_self,AK⟩),starEach CBL env,BG a3u vs z0 as zA (caps:=[]) zB,QV a2o T.b_sum (kB z0 zA),A1P h1 h2,AMX z0 "__setattr__" CBY,IU CD Nat.le_refl _,B92 "falls" 3 a7u,a0I C m sp [],(by rw[C9H g g.unheld]),G1 m ρ,a3y hs (~~~a7X hd),AAT Keyed Keyed,JO X lo tl,JO X hi th,(by have z0:Str.ofString zA=zB:=by rw[eQ]),Paired λp q=>z0,sliceBounds lo hi none n,(by rw[A3K (~~~b1A h2 z0)]),AOZ PySem.W.methodObj f z0,(by refine a3B (lo:=0) z0 zA zB ?_ ?_),BBR CX scope,NmI L R,CAB h1.extBut D.i1z,s.heap.IsSliceOf sl z0 zA .none,BT ws L (Wl ws),BCV "_law_name" BEM,AQV (CAT (i=j)),TN v I r h,tS bk D0 (M3 ns xs (-a)),97<=c/\c<=122,CAW (BEB (x=.non)),CAW (CGF .non),∃a xs,x=BF/\z0,BDG ta vs z0,ARV z0 zA UF T,∃u,AN8 e u,z0 rss now xs zA,e (decide_eq_true (W0 z)),IsEnum z0 e it zA zB,(by have z0:zA=ps.length:=by rw[KP zB (CDG zC)]),UZ [b]=BCJ BAF,CBX "free" b0C,bC "_law_vector" 1 "_law_one" a0e,loD a b z0 ia zA mg k k1,CC3 X.stack s1.heap,(by rw[BFG];unfold ltK at z0;simpa using zA),-3<=x/\x<=3,BFK x z0 y,BFL "other" "other" z0,(by have e:BC7 i:= ~~~a5B hi b),BFR (BAP z0) _,bW=.free->z0,ys.getD i 0 / AQB,⟨[],?_,.nil⟩,(by rw[List.getElem?_map,List.getElem?_map,z0]at zA;cases zB),wd "+"∉t,((modify λs=>z0)),CD6 a0t T.sb z0 zA,λx y H Q=>∃z0 b xs zA,x=zB/\y=GG/\zC/\zD/\zE/\zF,SetS prog w z0 a zA,EX z0 H3 zA zB P3 f3,A7X B9 (N:=[z0,zA,zB]) (src:=[none,none,zC]) (A8Z zD),z0 x' d _ _,atI (z0 V.str) zA=CA V.str zB,Tm ns z0 j x,(M v).mp g,uR (BE3 names qR),∀i σ H,AMY->ANL->z0,(by .rw[List.getElem?_append_left hi]at e;rw[NA z0 e1 e2 zA zB CF1 e2]),lY MH out.toList.reverse na nb,(by have hb:(g==z0)=false:=beq_eq_false_iff_ne.mpr h),a8x t b d p,CFE env cs,(by .rw[gX o d z0];rw[AZ o e]),BF6 A3E (∃vs,cO/\h.DictOf A28 a vs),a5S (caps:=ALJ) (λu=>z0) (CDO a1P h7) rfl,CFZ (kindOf s) z0 zA zB s,(by have hR:CE3:=λr z0=>A1C zA zB),(by rw[CGT];rw[aR z d z0 hx];rw[AA8 zA c zB]),ACR (VA H dx .own x) x dx [],CH6 (d.rows++[z0]) (d.sides++[zA]),CHA (BE8 setIfInBounds) (CF4 (LA.length+LB.length)),CHY H' s'.heap,⟨AK,AK,AK⟩,∀e s,¬X.xe e s,e=x∨AAD e x,⟨z0,~~~b1F zA,h2,zB,zC⟩,(let ⟨z0,_,_,zA,_⟩:=zB;zC),(match k with|true=>z0|false=>zA),(by rcases z0 with⟨n,zA,rfl⟩|⟨_,rfl⟩),h.Ns1 dx mA,z0 H (Same.refl H),(λz=>a (by simp[z])),DY b o e z0 zA,HU O af APE,DT=CS/\z0/\RelV QH q.2.2,a4y z0 a (NR hr.mono) WO,P++LA++LB,UZ VD=CGN AO1 BAF,(by refine PySem.W.callWith_K (h₀:=X.base) I.ok.mod.kin z0 zA zB zC),lo<=x/\x<=hi,QY σ (z0 σ H λx H'=>∃k,zA/\TH k),((∀x,bN∈z0->YZ)),KC names A1Q z0 WM zA zB,CQ (CBO a b) (zI z0),(Nat.lt_of_le_of_lt (show z0<=1000000000000 by unfold topN at zA;omega) PF),A8H A8Y z0 CDX zA H,z0 X zA (ALZ "zip" VD) zB,nmF g st l,FV M A z0 Q E zA,B92 "sums" 2 b0A,(by rw[iF s2 s1.trans s2 z0]),(by rw[AA9 z0];refine a2p zA zB c zC l ?_),AAA (BCO L.length 100),⟨0,0,0,0⟩,out++(a.extract at_ na).reverse,(by obtain⟨v,g,d⟩:=z0 a b zA),z0 (pl:=pl) zA c h1,∀o,z0->Fin CN CT H Q E o,B7W κ D lt,s.heap.push (U7 k l),AR9 (foldedSetIterable b X.env x),.ExceptHandler (AC z0) none (zA::zB) zC,nsIn K mainGlobals x=AC B9Z,I.ok.cab x c hfn g,HR "laid" 2 ["told","one"] b0B,lY MS out.toList ia ib,∀xs,HO.tup xs≠o,Inv X z0 σ H s,(BFA BDH).push uD,(by rw[EV z0 zA];rcases Nat.lt_or_ge i zB with hi|hi),MK assignEach es X.env=n,(by rw[cH ixN List.length_map CFG z0];simp),(by rw[List.replicate_succ,List.flatten_cons,a,List.replicate_succ];rfl),FnOk l.prog w z0 mg base zA zB fa,CG1 xs xs xs,∃f fd,Meth K C m f/\z0/\zA,sV iE ((y / x)::gP) gP,putK A04 z0 (.int z)=zA,(by .have hb:XO g z0:=beq_iff_eq.mpr h;rw[BFF zA]),⟨z0,zA,BK zB,H,VI,zC,q⟩,⟨z0 (zA CF2 hi.h b.h) a⟩,(by rintro i ys H' hi ⟨z0,zA⟩),z0 a0 a1 a2 a3,((upd (upd H1 x o) p CGV)),z0 _ (a5K (xs:=zA) (j:=zB) zC),R0 qM (r.map Sum.inl),ET (CA0 es findIdx?) ((·.1)),BAD base x z0 ps sp,(by refine z0 zA zB (GR ps zC) (BB m zD) (VO b u) I.bare),jV "unit" "width" "j" b0y,jV "filled" "text" "empty" b0D,jV "_law_answers" "_law_rows" "_law_one" c5E,AskP ns rss x zs,∀p,lW->z0 De σ1 (upd H' p (a8o p zA)),A8O a (a.heap.push (aO "slice" .fields #[c,vu,.none])),∀m:Int,C9G->BJ z0<=m+cs.length,AKR outer b c E,(by rw[ZI t (ANI z0 d)];cases q;rw[BEP zA]),YE z0 (zA K f c) d.h e.h (L4 _),MR++b.extract ML A3L,(by have a:rest.length=r.length:=by rw[z0,gU]),(by rw[lO PySem.F.slot_str_split CBZ PySem.F.entry_str_split PySem.F.args_str_split_2 z0 zA]),uK (λy g=>ABU g) k A2V,AMO v (tR r e1 e2 A9W r e1 z0),⟨_,rfl,z0,_,rfl,zA,rfl,_,rfl,zB⟩,[DE ra,DE ca,DL most,BCD,z0],typeOf (.builtin id)=jP .type "method_descriptor",(by rw[List.zipWith_cons_cons,List.zipWith_cons_cons,List.map_cons,z0 f g xs ys]),SeqAt.EqAt A s u v z0,.Try body z0 [] [] pos,∀m st',A18->AQA->m<=z0->BAO m->tK (AC m),VN ch (CHB/\AB8/\CGR/\CF9),BAD base "least" 7 ["rows","caps","most"] (a7t z0),(by .rw[NA o e d z0 o e CAZ]),CGU fD .none kV b pm an a ct,(∀b,isTrue a X.env b=(do let v <-b;standAt a.pos;holding [v] (truthy v))),λx lo hi H Q=>z0,((k=k'∨(k'=.free/\k=.cell))),YE a5j (z0 K a) b.h c.h d.h,(by rw[D2 p z0 e List.mem_map.mp zA];rw[APV prO e e]),(by refine ARW;rw[DO (a2u (caps:=[]) z0 (sqt ha) (sqt hb) zA BFP rfl (CI3 j)) H1 p s zB]),(by have z0:=zA;rw[eP,ew,eA,a0]at zB),∃z0 n r s c zA us,zB,(by rcases z0 with⟨rfl,zA⟩|⟨rfl,m,xs,rfl,zB,zC⟩),[MB,CDD,DL EY,DE z0,DL so,zA,zB,zC],c≠TO->c≠z0->c≠zA->uG->zB,IsZip z0 z TI TO (rawInt zA),c3P qS key qP base n z0 zA,∀x y c,z0->zA y=AC c->x=y,(by rw[lC z0];rcases zA with rfl|rfl|rfl|rfl|rfl),(standAt qO.atName>>=CO (holding z0 zA>>=λp=>match p with | (zB,first)=>callWith pos zC first zD zE)),(by rw[CL u rfl t rfl a3K r]),∀i ys H,AQO->AC6,OB ys (ys.length=i/\CAI/\KF/\GT),(by obtain⟨e,n,ne,nf,d⟩:=AQC z0),HR "_law_least" 8 ["_law_rows","_law_width","_law_most"] c5C,∀(names:A1Q) (n:Nat) (qR:WM),z0->zA,(by rw[APW (AM2 AR2=(if k=f then bF k v else(k,x)::AM2 r))];rw[BP a k f]),⟨λqL s σ H qR Q I h=>z0⟩,SyAt H ra ca rss cs,(by rw[DG];rw[A21 o e d st];rw[AV o e CAZ]),(by rw[LF z0 zA];refine⟨s1.heap.objs.size,[s1.heap.objs.size],_,_,H1,rfl,CFN zB (t':=s1.toks),zC,AQY,gA zD,q⟩;rw[vA s1.heap.objs.size zE]),B8D "enumerate" #[.none,AAK,TY,rawInt 1,.none,.none],z0 λv u s2 x y H2 zA zB zC q=>zD,(by rw[CE4 (ZM z0 _ rfl (UA zA) _ rfl zB uV ?_) List.length_map]),⟨_,rfl,z0,_,rfl,zA,_,_,rfl,rfl,zB,zC,?_⟩,(ARX O8 AQS (a3s (by rw[G4,G4,h1,h2];show(_/\z0)∨(_/\zA);omega))),∀(v:V) (H':Hp) (N:VK),KF->(∀u c,R u->AKN c->Off VD H' c->N u c)->BFC AB9,(by .obtain⟨_,h1,_,h3,h4,h5⟩:=z0;rw[CK h3 h1 h4 h5]),(by rw[bX σ' H' I q];rw[CK σ' H' I.unwish q]),(by refine PySem.W.methodCall_KW (pl:=pl) z0 zA;obtain⟨x,H1,zB,zC,a,dx,fs,ex,zD,l,q⟩:=zE),(by .obtain⟨p,ra,ca,af,aw,b,L,F,W,rfl,_⟩:=h;rfl),λ{_ b l t k z} e=>QE (z0 b l t k z) (DPut.k (k:=zA) e (VH (AMT 4) b1i G)),(by obtain⟨v',σ2,H2,z0,rv,a⟩:=a;rw[NG v' σ2 H2 (zA I.ok) rv a]),∀{H:Hp}{b:qE}{l t k z:Int},BAQ->DPut H a (sQ z0) AMI (BF3 zA),(by obtain⟨a,y,us,rss,ys,rfl,ha,hI,z0,zA,hl2,hs,k⟩:=h),(by intro value z0 qL s σ H x y v u Q I zA zB h hs),(by obtain⟨_,_,xs,ys,rfl,⟨a,rfl,ha⟩,⟨b,rfl,hb⟩,z0,k⟩:=h),(by .rintro ys H' ⟨h1,h2,P',o'⟩ p hp;exact hd H' p ys h1 h2 P' o' hp),⟨_,rfl,a,_,1,_,rfl,rfl,z0,rfl,_,rfl,r,zA,us,rss,xs,rfl,zB,zC,zD,AOD,zE,zF,zG⟩,(by intro qL s σ H x v m n lo hi sl Q I z0 hs zA zB h),(by rw[XL sizeLine_eq]),wpS z0 A E s,B7T z0 qual scope f cd A,List.zipWith f xs z0,z0 X qL σ Q,AKF PySem.W.nsIn z0 zA,bootBuiltins z0=CA zA zB,show AY false from z0,{cls:=JK z0,dict:=none,data:=zA},YD F W z0 k,eJ keywordEach [],["a","b"],.BinOp a z0 b pos,none::caps,sqt (JU z0),GM (z0+([]:A88).length+MM ([]:A88).isEmpty 0 1<30),VB a .dK z0,Vo ns rss z0,Kept z0 st st',∀H1 p,IV->ALC->jR z0,HT.sIx z0 0 lo,swapsWith z0 zA zB X.env,B7Y z0 (x+2) d,YE z0 zA c.h d.h (L4 _),z0 λx => -x,AL3 "rows" z0 "names" zA [],z0 (base:=base) (P:=l.prog) (w:=w) zA zB,tb {D with nx:=z0,ct:=zA,bk:=D.nx} zB zC,#[FP,A8V 0],V.int ((lk d.prices n).getD 0),ovI (lk d.caps n),a2t rss cs z0 u v,z0 (Nat.lt_succ_self _),(by rw[aR z0 zA List.mem_iff_getElem.mp zB]),z0 X.env.scope x,B8A k.map,B8B vs.length,a2K rest r z0,envOfC z0 zA s.heap.objs.size f,ALL (C8P z0 zA pos.line),z0 (Str.ofString zA),BK 1000000000000,XW A9F,min xs.length z0,Obj.mapSeq λ_=>z0,A08 s.heap z0,aI H1 H2,eM σ' H' z0,r=.int m,(by obtain⟨σ2,H2,z0,a⟩:=a;rw[CK σ2 H2 (zA I.ok) a]),z0=cs.length,bH Same.refl z0 zA,AL4 (.seq z0 k),ite_congr rfl z0,VM (A0Z z0) 0,FN (VO j v),B7Y z0 c0 c',(z0 a (C9C #[])).zA,∃r,F0=AC r/\ALT r,z0 ns rows sides caps prices,Runs2 kf D z0 P LA LB R,⟨a0R K z0 zA zB zC h.h g.h f b d c hs a⟩,DecidableEq z0,(by rw[tE z0]),CC ys,z0 (beq_iff_eq.mpr z),z0 PySem.F.plain_min_loop _,B9X (tD e z0),(assignEach z0 X.env).zA,dot r ys=0,PySem.W.instObj C z0,ovI (prO x),UY z0 (qE×qB),(z0 (by rw[KP CD hi])),HT.sIx xs.length xs.length hi,Td z0 rss a m,⟨_,rfl,_,_,rfl,rfl,_,rfl,z0⟩,z0 λσ2 H2=>Sub (B6 src σ) σ2/\zA,⟨_,rfl,l,_,_,_,rfl,rfl,ALV,a6r,rfl,_,rfl,?_⟩,z0 hs₁.extBut zA,λz=>A8E,DL z0::caps,pR z0 [] pos,B8B us.length,B8C items,XX l r,A9E (R y),DGet H a y z0,(c.val k).z0,.Subscript o i z0,a0I C z0 (zA C) [],z0 X.K H p ys,C9M ys,C9P s.heap.update z0,GZ c z0 (YC RJ),upd H' p (a8o p z0),Least rss cs a,if z0 then PV else 0,.dK (a0B z0),jP ps.zip us,λx y H Q=>y=.non/\z0,rA ANS ANM,AL3 "caps" z0 "sides" zA zB,λv z=>C9V d,∃W:AN3 VP,(∃m,z0)/\∀i m σ H,zA,SqK k1 K z0 a xs,ALY KR aX kI,A9B kI KR aX,bubble z0 A8X (A8X-(lo+l)),⟨z0,I.os,I.bare,I.base,zA,I.cell,I.free,I.freeC,zB,I.hok,zC⟩,.Constant AMI jj ip,#[A9R lo,A93 hi,.int 1 v],b1J (λp q=>z0) (zA x) (zB y),.ins C dx (C6 z0 zA fs),M8 (c:=z0) (B:=zA) (ys:=zB),BB1 z0 (A9Y (g x σ H') N N),VX rfl l o f g m z0,(let ⟨r,e1,a,e2,q⟩:=z0;⟨r,e1,a,e2,zA⟩),AN6 nm z0 C N bs bm zA sn sub ab col dd k0 k1 k2 k3 k5 qQ,runs.length<=z0,z0∈d.names,z0 (Nat.lt_succ_of_lt zA),a.length+1,XI Env0,CI (-x),e::rest,NR q.mono,CJ hw,.Subscript z0 zA pos,2 ^ 60,RD "start",mA f,pY H1,(by rw[List.replicate_succ,z0,zA];rfl),(by rw[List.take_add_one,z0,zA];rfl),rJ r.length,[wd "-"],bC z0 1 "width" zA,A0S "object.__setattr__",tJ typeIs_str,B9C base.Ns,B9G GE,BBU d,Cov z0 H' zA s'.heap B,v+EY,eO cs.map cV,GN xs.take k,BBL EJ YX,J4 (j:=z0) rfl,fK+min z0 1,JQ [n,sZ].map,([]:AQ).toArray,zS IS z0 runs rest,rS (PySem.W.nsIn K mainGlobals z0) zA,B8E (BJ z0≠0),X.blk N scope z0 zA,AA3 base z0 k f fd ps sp,AMP _ rfl z0,["rows","caps",z0,zA,"room"],SqK k2 K H b z0,λi ys H hi p=>z0,CB5 z0 I.loc zA I.len,SP X qL D z0 s',aO "dict" .dict #[],a9Q K 2 (a0D (A9 0) (a0D (A9 1) b1W)),SetTable.leap mask p.i p.perturb,λt:qB×V×qJ=>z0,z0 hos hbare hU hok,A95 t r (t*z0) zA rss,W3 qS key qP base z0,(z0 k1 k2 h l1 l2).zA,[1,3,5,7,9,11],(by rw[BC6 zs H' p hy s hp];rw[D2 x' z0 e1 zA hx]),⟨_,rfl,a,_,_,_,rfl,rfl,z0,rfl,_,rfl,p,C,dx,_,rfl,zA,U.cl,zB,zC,?_⟩,z0 vs.toArray,(by size_fits),~~~a7V,OE+1,AL TI,AL TO,AL ah,AI l.kIn z0,z0 zA zB (KeyOrd.kle_of_klt zC),l.most=AC z0,BR Nat.min_le_left,h2.2.1,List.getElem?_eq_some_iff.mp e,eq_of_beq e,QS m,DE sv,LW cs.map,beq_iff_eq.mp z,TJ F.len z0,2 ^ 62,RD "__len__",xs.length<=i,.int i 0,PH AQ,TK seqItems? z0,setArr st z0,IU List.length_map z0 zA,IU List.length_append z0 zA,items[i]?,t.map λx=>z0,Value.ref d,MD OG,aU a.hok.fresh,aV h'.get? z0,AKL pos',J7 0,Value.ref t,AKX vs,bG z0 List.map_append,if_neg (z0 e),W1 f,kW CBV,(by refine z0;rw[Int.toNat_natCast,zA]),RK/\C9Q,.cons rfl z0,bC z0 1 "word" zA,A0J CA1,HJ::us,.done (.ret z0),os.Perm vs,1+MF ((z0*3+zA) % 8),A11 (),A1I wpAny_onRaise,qD Unit×Nat,Its z0 vs rss,[DL j],z0 λc=>A0J (c∈zA),AAE (a+l),JP d (a-l),λv=>A8S,(x,NameKind.cell)∈z0,.builtin z0 (WL zA),ANY lts,GM (cs=[]),ABD U5,BAN tP,B9V l APH,BAV value z0,λz d st'=>C8Q z0,V.str sT,∃z0,XJ h'.get? zA,CB (xs.length+z0),A9K x' d,BBX X.env.scope.names.lookup z0,(by rcases List.mem_cons.mp (z0 zA)with z|z),AH (CA5 List.getElem?_append_left) e1,~~~a2g c,LV l (VJ l z0),(P.length,z0,pw),BCT n.toNat,rN z0 H' zA xs.map V.int,CAK isSome_eq,z0 X.K H a xs,BDC (DT≠b),CBF sz,(A9I-1) / z0,(by (with_reducible rw[LF z0 zA];rw[zB])),CA0 z0 map (·.2)=zA,names.foldl (L8 z0) zA,(z0 GH zA).cps.toList,KS if_pos U4,λi j=>VM (z0 i 0) zA,eX j v,rL ys.length λj=>z0,AL7 L5 p,APF APC G6,CCC st',z0 zA λb o e=>fO,zs.take 12,ANT-A97,X.env::X.outer,[.LtE,.LtE],! w.params.followText "set-order",⟨AK,AK⟩,BCR == ms[j]?,z0 (.bool true),AC (BA9 APM),tupleKind (D5 z0 zA),FD q q,SortSt.mk' z0 zA zB zC (failedOf zD),IsPair z0 TO a b,∀b z0,fN b zA->rO b zB,A80 s extract,lastMarks z0 BAW=false,YF hs₂.extBut z0 hs₁.extBut zA zB,HR z0 3 ["_law_pot_here",zA,zB] zC,∀v,z0≠.cell v,B8D "range" CB7,kZ H' ys,r c f,CB z0/\k=(BJ zA != 0),(by rw[z0];rw[BL (BBM (zA e1 e ?_))]),eqV z y,EqV K H z0 BF GG zA,.Name y pos',AA6 (! YB x z0),KR+aX+c0,VH (z0+zA+(c0+1)<=_) zB d,λr s'=>r=w/\tQ r s',(by rw[PZ _ (RC field it z0>>=_)];rw[MC zA]),λz d st'=>B7Y z0 (CC9 z) d,FD s' (CCM .next),mirror z0 i j ((j-i) / 2),[(false,z0),(false,zA)],(by rw[<-z0,<-l];exact h _ VI),HR z0 4 ["rows",zA,"one"] zB,AMZ z0 "other" (b2F λa b=>zA),((∀x c,A0F->c≠b)),BB6 n B l,(by rintro i x ys H' hx ⟨s,rfl⟩),PySem.W.fnOf x qual ANA A0B,CB9 fl v,CBE q hdct,List.zipWith z0 rows sides,∀v,B9U->v∈z0,∀h' z0,zA->(∃o,zB/\AOE "StopIteration")->RC E zC VT,(show z0-e.length=zA by exact zB a),a3H X qL z0 b,A9P (A9P z0 hs₁.extBut zA) hs₂.extBut zB,a6G (a9v n) (z0 y),((hO.nm.nm y l).wg).1,CCF d C,{d with rows:=z0,sides:=zA},show([]:AA)=ys from b,[A89,z0,B98,CI zA],QW (mirror z0 _ _ _) _,(z0 i zA).eraseIdxIfInBounds AT,((b∈X.ex∨AOQ b)),J0 K z0 (a2Q A4),WyO ns rss z0 o,WI m z0 st ps,RK/\((C9Q)∨(B93 z0 zA zB zC)),RK/\B93 CB2 z0 aX kI,RK/\B93 CB3 z0 a.size b.size,BS z b y a,Inv z0 qL σ H s,CAY c t BB3,(by rw[BDD];rw[DG];exact hs i x z0 _ (y xs zA) p),compPost T6 X.A X.xe z0 zA,∃l r,c=CAH/\z0,os.Pairwise (rC (AO9 (K0 s.heap y) (K0 s.heap x))),B9V l (sN (zV i) (zV k))/\(∀i,z0<=i->i<k->sN (zV k) (zV i)),(by .show Value.str z0 _=_;rw[glued_eq_join,zA]),(by rintro d st' ⟨g,hd⟩),.Subscript (pR A0K IO qN) CB6 sp',CBJ base z0 outer s H,c=YS/\A18/\BAO z0,q _ _ (GO _ z0 (BI zA x2)) P7 f7,a3X ns rows sides caps,λv z0 N zA q=>mI zB zC (λx H7 x1 x2 P7 f7=>zD),Un lX [] H1 z0 s1.heap zA,_=ER (z0 lI (J8 ns y)),(by rw[EH (wpS_mono (wpS_forRange (I:=z0) (Q:=λd st'=>C8Q zA) zB zC (GO g zD zE)) zF)]),PY (∃p ys,xs=VY/\(z0∨zA)/\zB),.ListComp d [lJ z0 b 0] scope pos,λx y H1 z0 _ q=>CCH q,A8T z0 X.base x k ps sp,a5L (st:=st) l c k,BG a2w k k l p (items:=z0) zA (a2L zB),(by rcases hd with⟨r,e1,e2⟩|⟨e1,h1,h2⟩),(by rw[AOG d l (z0 w) f m (zA z)];rw[l.length,m.length]),FnL K f z0 zA st oc od sl kV dc pm an cd ct,(by obtain⟨oc,od,kV,z0,pm,an,a,ct,zA,rfl,lk,c⟩:=zB),List.mem_append.mp z0,wpAny_pure z0,h'.objs.size=z0,(by cases r<;>exact z0),(by rw[<-z0];exact zA _),(by rw[<-Array.getElem?_toList]at z0),(by rw[<-z0,List.take_append_drop]),List.append_assoc (z0 zA),AC dx,AC .cell,X.length+1,AL a.heap.objs.size,Nat.succ_pos _,(z0 (by rw[BO zA lq zB])),ns.getD z0 0,z0 (Nat.lt_of_lt_of_le zA zB),CB z.length,BR Nat.min_le_right,BK BAE,CI BFN,.own x,FC YN,eO zs.take z0,JL wpAny_updateSeq_pair z0 zA zB zC,kindOf st,if_pos b,List.getElem?_eq_getElem b,Option.some.inj h,XM qE,a1t mg,HV d,HW BAZ,CF CD0,NT zs.map,BEF<=_,ER A97,rows i,TC r.map,env.kindOf n,XO z0 b.size,FW xs,a.getD i 0,List.getElem?_eq_some_iff.mp c,(by rw[IR wpAny_holding]),(by rw[EA z0 List.pairwise_map]),OW > 0,PV > 0,a3S f,x.cps[i],List.mem_of_getElem? d,jW "row",MF CC4,kA / 28,Q (.int z0) H',qT VW,kC wpAny_pure z0,YH g,List.mem_singleton.mp m,a+min z0 AP7,(by rw[List.length_cons]at a),Around.under_plainId z0 _,zY CE8,WD List.mem_cons_self,A02 a4B,z0 X.env.locals m,A03 x,WJ Hp,BF::vs,WK hp,tuples' true,fX I.freeC,(by subst z;rw[z0]at zA;exact zB),bP I.ok.bsz z0,gA g,gA q,ZK ha,codeAny_builtin z0 ?_,hz.same s1,IntsAre z0 r,A0X rfl,GX p (JQ z0),ys++[y],HT.lexLt a b,A9Q BAZ,AMM x.toNat z0,iL IZ,u8 runs.length,~~~a9x b,A1U h',(by rw[Array.toList_extract];simp[z0]),A27 s.heap,sP y (BF1 z0),ANV a.flatten.length,(x,NameKind.free)∈z0,AAX e2,λi H=>∃xs,z0/\CDJ,A37 hx,C9T PySem.F.plainAttrs_str z0 zA zB,BBB PySem.W.emptyDict,X.wish E,AOR z0 I.big,AOW ns.map,AC0 sc.names.lookup,BBJ AMQ,A9K x' g,BA8 k 0,ALE p (rO p z0) tL,CA5 List.getElem?_append_right,["many","name"],["many","part"],CAB z0 D.l1z,AQ7 a,A0Y x f,A1T (APS b) QC,CAN SqL,CAN SqT,Heap.ExtBut it s.heap h',(Sum.inl a:Key)=z0 b,(Sum.inr a:Key)=z0 b,λq z0=>d q (HV zA),r=.non,(by rw[CBU z0 List.map_append]),BEA K3,A9A p b,⟨H,VI,AH (z0 r) q⟩,CCT i,CCY vs.toArray.zip,src-a,["_law_number","_law_many"],.Return z0 pos,v.length=cs.length/\z0,σ.set i JZ,.UnaryOp z0 a pos,HW (BBB (B8O CFS)),∀h',z0->Heap.SameBut it s.heap h'->zA,Under v a,eX (1+i) x,YW k a,(by refine Calls.call_function_entry z0 zA zB (zC _) ?_),.str (rows i) z0,VA H p z0 [],inV (.int x) z0,cE f j,(AC (),()),VB p .dK qM,(a8l h H).get?,Kept lo st (CDN z0),λc o e=>A2S (AQG z0),BFS b3F YU,L'.filter CEL,vt FY,attributeBase e f z0 zA=zB,(by simp only[List.size_toArray]<;>exact z0),(by rw[Bool.eq_iff_iff,z0,zA];constructor),n / 10,["cap","number"],["here","there"],AML sc.names.lookup∨z0,{z0 with slots:=sl},PySem.Within mA z0,liftM (rule z0),z0 (CHW prices),wpAny_newObj_type (z0 zA) a,AH eL A3H,∀xs,z0->YY,∃k',JN z0 k'/\zA,JP f j,(by refine hs.imp_of_mem λ{x y} z0 zA zB=>?_),sortedHeap z0 a vs zA,b5D rss z0 CDC,k p hp,ws.map λx=>BEG,z0 λq=>[zA,CS,C9 DM],[(s2.heap.objs.size,API)],Heap.SameBut a s.heap z0,A8A g back?,GZ c q.mono AOV,eX y BDV,IF (b1q z0 hz),Ans rss z0=false,rB (6<1000),AQU++bk++n,IP z0 ["names","words"] zA,z0 c a b pos,X7 GH m,λp z=>W0 WB,C0 (a6J z0 (A1G zA (lU zB))),NV rfl rfl rfl,(by rw[lQ b xs.length]),z0 λ(QS i)=>OE,GR o (kp b o (YH z0) zA),z0 λa=>AAH a.1,AMW lnW L,B94 (B7T z0 x fD f a A),h z0 _ VI d,(by refine rF a B9K;rw[DO z0 H1 p s zA]),o f hf1,ID (QO q b) q,BB2 (Fl rss now),AON "names" z0 [],(by unfold z0;refine A9C wpAny_bind (m:=zA)),(F7 (by rw[z0,h1,h2];rfl)),(z0 B9T).take (CA6-B9T),k b a q,(by rw[EA ltK this];rfl),APL items.size xs,z0::(vs++dvs),BT u L (CGY z0),BCQ ys.length CAO,BD3 MR ML,48<=c/\c<=57,BDT "names" "numbers",["total","row","j"],f AP5 (A93 j),(BBR CX0 fD).nox,(decide_eq_false (by intro z;exact BEW V.str.inj AK)),DV f s8 a,BEX "TOP" 1000000000000 z0,backTo pos (starEach z0 env),(show(BJ z0+1)=ER zA by exact a7Y),λx:Str=>x.cps.toList,lE-min z0 lE,["name","number","word"],SP X qL D,v=.bl true,SqAt k1 z0 a xs,AKC .none (.fields ps),lS typeLookup T z0=pure (A0S zA),IT H1 v r,A9L (ABT (z0<=7) a8c zA),(by have fin:tQ w s:=TN z I z0 q),CEN "type.__call__" CE9,λc v z0 q=>k c v ?_ q,RelO.some_of (v:=v) (o:=z0) zA,⟨ns,rows,sides,z0,zA⟩,{D with nx:=u D},["row","side","names"],["_law_number","_law_more","_law_many"],b2K (K w.params),z0/\0<=DM/\DM<=topN,wpAny_callSpecial?_slot (name:=z0) zA zB (A1V zC zD zE ?body zF),a1D z0 (Q5 (LX zA zB A4)),z0 l.row.toRowW d [] (λf vs=>PySem.call f vs),∀b a,BC1 z0->BC1 zA,(by rw[IR codeAny_handlers_suite];refine JL lands_againW z0 zA zB zC),List.zipWith (rC BFT) xs t,argBest (CFH ns.getD t0) k,MF (OE+MV*1),t σ H1 z0 Q,a2U z0 c h0 (CCK zA),z0 j eP ew eK,SqAt k2 z0 b ys,StR z0 cs b L,a i j t t',ZipApart z TI TO z0,λi H=>∃xs x,z0/\YY,ABP h' s.heap.objs.size xs,((∀i,z0-(a+1)<=i->i<zA->QW eR i=QW eR zB)),∃a vs,v=BF/\CDZ,(by rw[BDP EJ];rw[B97 ZJ YX]),∃a,z0/\a.length+zA<=sz+1,aQ (CF6 k1 a/\z0),BF5 (λr s₂=>r=.none/\z0),RelO (fs.lookup f) CBR,(bE items.toList.drop A97 CFP).z0,z0 b o e n a,BC9 (AO0-(OW+1)) AO0>>=CO z0,(by rw[lC z0];rcases zA with e|e|e),∀(z0:LLI) (rest:qJ),zA->uY->zB,∃b:AQ,zQ b/\z0/\A2U,IsEnumOut z0 e it ABV x zA,(by rw[ARY σ (xs.length-i) AMY ANL z0 σ]),OwnCls x C bmB qQ mg z0,CGZ e z0 (BCF e) e,⟨J3 z0 d.h e.h f⟩,((∃dx ah,KW p (aT (A8G z0 ah))/\DK ah)),z0 (A:=zA) (s:=s) p1.isList p2.isList zB zC,(a5a d.names AQJ).tail.map,hideAll s2.heap (frs BBQ),∃runs,zS IS z0 runs []/\CFA,BS q H' s e,CCR I1.landX hp z0 cov zA (zB zC),f b _ q λz=>z,(lk z0 n).getD 0,FAt C H' x ra,.Compare i [z0] [o] pos,sV (B8T > 1) (A0V g)[uX]? none,z0 λa=>if a.1=k then(a.1,zA)else a,(by have z0:HK vs (K0 (zA zB) v=K0 s.heap v):=λv zC=>zD),(by rw[LF codeAny_builtin PySem.F.entry_min_loop];rw[C9Y Around.under_plainId];rw[ANQ z0];rw[BL zA];rw[ANQ (tryCatch zB _)]),PY (∃i j,xs=A9K i j/\QG (if z0 then j else i)),Heap.FlyingW B z0 p HJ a0 zA,(by rw[EB o es ep (k _ o z0 ho) r]),(by rw[CL o e c d id st']),λt S=>AH (BCU S) (a2h d Z),["_law_k","_law_letters","_law_first","_law_step","_law_longer"],OwnCls z0 zA BDM "ValueError.__new__" mg base,a0p ABZ ns (prices.map prO),AME FAt ra ca af aw z0,b3u z0 e c d AK ⟨zA,H,zB,zC,zD,st',λb f=>uA zE f⟩,b a f A outer s H vs Q,Obj.mapFields λz=>z.setIfInBounds 1 (rawInt CD1),(by have d:=z0 fY S NoX zA (w a4 zB) a6 zC;rw[eA]at d),(by rw[AA8 z0 d (zA λu c zB e j=>lJ (JY h1) (A1O g) (o'.trans j))];rw[BFI]),∀H' p ys,z0->CAI->KF->GT->lW->jR CG8,concat_meets z0 zA noFill_tuple_add seq_tuple_add PySem.F.slot_tuple_add PySem.F.entry_tuple_add (BR PySem.F.args_tuple_add_2),BG wpAny_binaryOp_repeat_ref T z0 U "int" AK zA (λs'=>AP0 s' zB) zC F.fills_int_mul F.slot_int_rmul zD F.slot_int_index.lookup,ARP (g (f a b))=FC A05 g,A8T z0 X.base C m k ps sp,(by rw[MC (BG wpAny_isInstance T "StopIteration" b true z0 isSubtype_stop)]),partsBetween a (occurrences a b 0 a.length CBI) b.length,⟨_,rfl,_,rfl,_,_,rfl,rfl,z0,q⟩,BFX d b (z0 fD .none kV d pm an b ct),(by rw[bO];unfold Builtin.SmallTypes.ownedTupleIsFree;rw[BL (wpAny_field z0 rfl (x:=.none) rfl (wpAny_pure ?_))]),⟨_,rfl,p,C,dx,_,_,rfl,z0,U.cl,zA,zB,?_⟩,(by obtain⟨z0,H2,c,zA,a,zB,ex,g,l⟩:=p;rw[AA9 m]),⟨_,rfl,z0,_,rfl,zA,_,_,rfl,rfl,_,rfl,?_⟩,codeAny z0 callerA (AQ9 fa CDT) (λr s'=>r=.ok (CFV .ret)/\OldK s₁.heap s'.heap/\s'.os=s₁.os/\uZ) s₁,(by rw[CIA g z0 zA];refine c0z lk c S e λA outer s H vs Q E zB d=>?_;rw[NA t h q zC t zD q]),∀(qL:CV) (s:qC) (σ:St) (H:Hp) (z0 zA:V) (zB zC:qB) (Q:VK),zD,∀(i j:Int) (t u:Tok) (s:qC) (Q:qI) (E:qI),z0,List.mem_cons.mp z0,wpAny_execs_nil z0,beq_iff_eq.mp z0,eq_of_beq z0,List.take_of_length_le z0,of_decide_eq_true z0,KeyOrd.kle_of_klt z0,x.length<=z0,F.length<=z0,z0=.function,((arrOf st').toList.map (·.2)).z0,(by rw[BK5]),(by simp;omega),(by rw[ACQ (LZ z0)]),(by rw[List.length_take]),(by rw[Int.toNat_natCast]),if g=f then z0 else zA,N.hL.1,(by exact PassesOwn.never),(by rw[List.length_append,z0]),! o.isSome,(by rw[Bool.and_eq_true]at z0),(by rw[List.getElem?_zipWith]at z0),X.env.scope.kind==z0,(by obtain⟨_,_,_,_,z0⟩:=zA;rw[ASE zB]),⟨u.slots,z0⟩,⟨z0,CNY⟩,(by simp only[Bool.and_eq_true]at z0),~~~b8P,~~~b8i,~~~b8e,(by try with_reducible rw[CJI]),(by apply Array.toList_inj.mp),(by simp only[List.length_cons]at z0⊢),Nat.lt_of_le_of_lt z0 zA,Int.mul_nonneg z0 zA,wpAny_call_entry z0 zA zB,List.mem_cons.mpr (z0 zA),z0 (Heap.lt_size zA),z0 (List.getElem?_eq_getElem zA),(z0).append_right,AC outer,AC at_,AC sm,AC MV,AC (-1),qA WData,(by exact of_decide_eq_true z0),List.Perm.append_right _ z0,Nat.mul_le_mul_right _ z0,A.length+1,bL+1,AL np,AL ya,(by rw[AF z0 Bool.false_ne_true]),AY BK8,AY CKL,(s.heap.update z0 zA).zB,(by refine List.nodup_cons.mpr z0),BJ d.toArray.size,BJ es.size,BJ ws.length,BJ A1H,(by have:=z0;cases this),ET s.heap.get? z0,ET h₀.get? z0,AH List.length_set z0,GK x.cps.toList z0 zA,qD Str,jv 7,jv 8,XJ s.heap.get? z0,CB ns.length,BR .n,BR .x,BR R8,BR a5N,Value.isStrOf x z0,CI APO,CI BJ2,beq_iff_eq.mp a,CZ CFL,UZ KG,JK "set",.inl e,Option.some.inj e,SqL.of e,Prod.mk.inj e,s.upd e,Option.map_eq_some_iff.mp e,QS sizeLine,lo+QF,lo+(x-1),EE e5,aK UInt8,vs.length-1,c.toArray.size-1,A2C-1,FB hl,FB a8,eN ADL,0<=l.sum,0<=RV,GL X.s₀.heap.get?,GL H4,GL s₁.heap.get?,GL s2.heap.get?,GL CMC,GM rQ,FC ATZ,i<r.length,i<x.cps.size,a.getD j 0,u.getD j 0,f.getD j 0,wd "0",wd "way",DK aw,NR List.drop_eq_getElem_cons,NR BKH,CJ o,CJ f,CJ e,CJ p,CJ hs,CJ hu,List.mem_of_getElem? b,.str b,h.get? b,0<vs.length,0<ns.length,0<a.size,0<l.sum,0<v.length,0<r.sum,z0 r List.mem_cons_self,EG PySem.W.handedIn z0,EG z0 ((· < 128)),List.mem_cons.mp h,.inr h,List.getElem?_eq_some_iff.mp h,I.list h,I.tuple h,Nat.min_eq_left h,LW r.map,CO true,CO ADD,DL MV,j<1073741824,j<cs.length,Nat.mul_le_mul a z0,QX kR,JQ l.map,XM Nat,XM Str,XM FX,XM (pQ V),BV BHW,BV BIR,BV BJL,pQ LLI,List.getElem?_of_mem z,HV c,HV b,(by .rw[AF List.mem_singleton z0]),(by rw[aM z0 Array.toList_inj.mp]),GY s2.heap.objs.size,GY pt,GY ar,EI Str.ofString z0,JU h2,JU e1,HW h1,HW (l.update a z0),CF e',VF O.α,List.mem_singleton.mp y,xs.push y,NU items.isEmpty,ER DA,s.upd g,FN fin,jR (kZ H1 z0),I.tuple i,mergeAt' i,a4C n,pT s.heap.get? z0,1<=xs.length,vs=OG,HZ e1,HZ hn,HZ hc,RD "0",IB "range",IB "min",IB "int",IB "sorted",KS Y.mono z0,FW ns,FW ps,c4G P w,x.cps.size<=i,c.getD i 0,rs.getD i 0,PH SZ,JV YS,s.heap.update p z0,I.ok.hd p,PK d.set,PK G.off.set,congrArg z0 e,XT PySem.W.nsOkIn z0,zJ GE,zJ bS,List.getElem?_eq_some_iff.mp r,GD s,GD ?_,GD c.kIn,f _ rfl,pX ["j",z0,"one"],eT 1000,I.ok.hd f,ns[i]?,Value.int z0 t,sc.names.all λx=>z0,if_pos d,Nat.ne_of_gt d,v.length=n,(by rw[VL Nat.lt_of_not_le z0]),lt x y,FH BIJ,JY C6,JY eqV,JY O6,JY CD,(by rw[List.foldl_cons]at h),b∉X.ex,b∉AC4,b4c K,BHC K,zN a.map,zN ys.map,P.length+i,PP o.dict,IC z0 List.append_assoc,(by exact Nat.le_refl _),aU d.hok.fresh,k+j,n+j,c≠s.heap.objs.size,c≠48,L1 "range",L1 "min",L1 "int",L1 "sorted",IE Heap.get?_push_ne z0,MQ g.1,VQ c5l,VQ c5n,VQ c5m,e4.same s2,j.same s2,S.S.same s2,GQ List.map_congr_left z0 zA,IF hl,YC IZ,zQ its,zR NB,zR gZ,MW List.drop_eq_nil_of_le z0 zA,Calls.spliced_nil ?_,OH z0 List.append_nil zA,(by rw[TR (List.mem_cons.mp c) z0]),YH I.ok.noex,YH B,Q BEJ H,GJ (z0 a b),pendingOf s,gallopOf s,h2.same s,λi=>AT6,λi=>CJG,(by rw[OI List.length_append]),TV h,qX Bel,qX dot,YL AR,YL APA,List.mem_range.mpr h1,YM List.nodup_append.mpr z0 zA zB,m<=a.length,m<=2000,xs[j]?,A8F h₅.get?,QG ys.length,YO a9T,YO a9U,YO a6T,YO a5P,plainId_quiet z0 _,z0 (of_decide_eq_true e),rD hr.mono z0,JD ts,rE "min" z0,VZ CMF,W0 List.length_map,⟨g,b.an.ans⟩,b∈fs,b∈X.fs,YP RT,YP CC5,C89 z0 "__init__",YR "_law_row" z0,QJ hp,QJ c1,QK DM,WD (HV A4A),WE e3,YT b1I,WG z0 zA "_law_pot_here" zB,Ans t v,A02 a3V,A02 a3U,AL6 st,t.length<=8,¬(BL7),¬(CO5),h x hx,B86 hn,C0 CLP,B.StaysIn h2,s'.heap.UpToSlots h2,s1.heap.objs.size<=c,ZA (CJ z0.1),UE z0 "_law_pot_here" zA zB zC,A8R H1,pure true,Int->V,FX->V,s.heap.objs.size<=a,k<items.size,WL args,fR beq_iff_eq.mp z0,ET X.H₀ b,rY items,ALG RW,ALG AUE,ALH MX,ALH WO,fX lk,lB Unit,lB APA,(by rw[SC (List.mem_append.mp d)]),.str w,A0E fQ,A0E BHQ,(n,NameKind.free),bQ z0 "_law_script" zA,bQ z0 "_law_pot_here" zA,BX 2 sc_read_term.nd z0,ALO .bl,ALO pure,fs.length<1000,A4B::st,p≠aw,CQ e ty,A92 s2,A94 rs,UM z0 zA "_law_pot_here",RA z0 zA ["_law_pot_here",zB,zC],gJ b,ALP isFn,B8I wplus z0,bT "rows",bT "caps",bV "join",bV "index",B8P s.gens,B8P g',A0Q Int,A0Q qB,u0::us,qR++E9 n,CB qM.length/\z0,(by rw[sU z0 zA List.pairwise_cons.mp zB]),gM hz,gM v3,A0X 0,Kept lo z0 a,ZO COL,A0Y "TooMany" z0,A10 false z0,AM0 (z0 b t),A9G ns,bump ys,l<s.heap.objs.size,(by rw[lR z0 (List.mem_map.mp c)]),c∈z.cps.toList,c∈BKV,UY qB qB,Under a b,O7 k l,AM6 CER,A14 K.lookup,tN [EY],C8O a.length,A15 AOM,DGet H a z0 ADX,B94 (C86 CX),cP e',Int×qB,z0 scope env,AY (ALU bmB.contains z0),AO q z0 (aU O.hok.fresh),tU J,DF e ty,B99 E7,BX 3 z0 (zR (CZ zA)),A9Q h1,tX "word",tX "sign",KW p (B8V z0),tY (∃o,z0),AMM 1000000000000 z0,A1I wpAny_letGo,kN z a,A9V iJ,A1J CEF,A1K vW,A1K ADR,AMS a0,AMS sX,AMT ys.length,wd z0 ++ AVG n,(z0 k).toArray,(by exact decide_eq_true h1),mM "rows" z0,mM "caps" z0,~~~b9H b,~~~a2g b,~~~a2f b,UY Int Nat,LA.getD i TU,LB.getD i TU,(by rw[mO (List.mem_cons.mp f)]),B9I q,KO M t Q,C90 Nat.ne_of_gt,AA5 VP,AA6 (if neg then z0 else zA),VO b o,VO b xs,uF ts,A1U h2,B9P B.mono,AN3 Bool,iT BJH,uH n.mono z0,a3W xs lo hi,AAA W.length,AAA F.length,xs++zs,x==cF,z0=Value.ref b,BA1 ks.map,A27 s'.heap,uN YZ,IU z0 Int.le_refl _,AAG (z0 (f x)),C9D xs,AAJ 8,AAJ 26,fU u kR,A2B (z0 K t),A40-1-j,a8.same s5,Sz DM,na-k,ANU 551,VW<=lM,AAO d.names.length,s'.os=s.os,ANV lo,A2J z0 zA List.append_nil,AAQ z0 zA List.map_map,vC e,A2K w.cps.toList z0,AAR names z0,i != 0,vH v3,AAX b7,z0 zA _ (List.getElem?_eq_getElem zB),AB0 HX,BAC Nat,~~~a3q d,AB1 a3n,a6e K true,a6e K neg,RelO o u,A32 ib,A32 IX,XT PySem.W.plainOver C,ID CQ5 q,ABE BJ0,BAN AMN,BAN BHR,ABI CM3,ABI [x,z],ABK "sum",ABK "=",ABK "lay",BAT cs.length,AOE "tuple",C9M now,Heap.SameBut z0 s.heap h',g x fY H',AOL jaN,C9P h.update z0,C9U α,A3Q none,v4.same W,λh=>tG,T="int",T="str",(kI).size_eq,(by rw[List.lookup_cons]at z),xs[C]?,xs[CP6]?,∃z0,XJ h1.get? zA,CNF≠x,r∈a,j∈StP rss cs u,["rows",z0,zA,"places",zB],f _ AG,f _ (k.mem_iff.mp C),A3Z I.sm,A44 (! c),BBG MB,A47 env.cells.lookup,AC5 at_,AC5 LH,aQ (TH false),MA items y,(by rw[List.getElem?_append_right hi]at e),BBJ ARJ,IE (IE z0 _) _,AC9 a5G,AC9 Z6,fN b CFI,C0 (fT U5 z0),BBM fin,AP6 MX,AMH l AR3,ACO b,BBA PSs z0 A0B,BBX out.names.lookup z0,CA4 LLI,I.ok.hd F,b2z te,St->CJ3,n.length<=20,x.length<=20,m<BJ qM.length,BC7 now.length,F++CMG,AOF++bk,(by rw[BC8 List.length_cons z0]),X.env.kindOf HH=AC z0,AD4 sA,.inr (Nat.le_trans z0 zA),AQ2 e1,(by .exact Nat.le_refl _),(by .exact Nat.lt_succ_self _),GN xs.filter t,AQ4 PT,AQ4 PW,QY _ (A8N (CM7 z0)),BX 1 sc__law_pot.nd z0,ADH kp,BCG its',[(f,v)],E.all a b z0,CAD x,HK L A4S,BCP g.lv,BCQ xs.length z0,AQF (x-y),BCS "_law_j",CAE A0K,A08 h' xs,ADO BE1,kL z0 zA _ _ z z.elim,AMD s.heap.get? B9M,IxR X (z0 K),A1T uT QC,AQZ fitsIndex_both,CAL tpos,BD0 σ',AR4 (z0 K tl),AR4 (z0 X.K tl),z0 X.K H a ys,c0<=OJ+ib,AR8 ADQ,AR8 AUB,(by rw[ADV];obtain⟨_,_,z0,_,zA⟩:=AUP zB),tS bk D0 YN,BAY H rows,AOJ ALF z0 F.slot_tuple_iterator_next,ADW (BB7 (fK<=o) z0 zA),ARA hi,(a8l s₁.heap H).z0,k it AJ o z0,.bl (g i j),BD8 n,ARM (QT A1S),BDK (TH σ'),CBC (DZ t),tC .non,Bds sides,Nat.le_succ_of_le M,Sm now,AS0 ML,BF::j,Value.ref a::j,∃c∈y.cps.toList,z0,(by rw[IG,BAJ h1.symm.trans]),(by rw[AS8 List.length_map z0]),H b≠none,H' b≠none,CJB∈D,l[ATS],l[l.length-1],X.s₀.heap.FunFrames X.base z0,MtR X "str.join" z0,ASD b2.trans z0,BDW hl,BDW .nil,ASJ gU,~~~c5b u,~~~c4T u,~~~b1l B,BB m e,(by have z0:zA=zB:=by rw[KP Array.length_toList zC]),BE0 YS,PSs X st t,AT4 (CL4),AT7 HJ,NZ t COU,(by rw[CBU z0 List.foldl_append]),VN ch AOP,ATH g.map,ATJ B,bF n v,bF n k0,AL5 (BK (i-j)),ATR ia,bP (AVK z0) AK,(by rw[lQ hi vs.length]),AU4 .none z0,AU5 10000,BET "list",BET "dict",BEY ws.map,BEY ts.map,AUH "len" z0,AUL na,AUN CO9,CC3 outer z0,⟨H,VI,q⟩,AUS now,NoAttr X.K C f,AUU as.map,AV1 CIW,a9z ns zs z z0,sS h' i n,CCG A85,(by .rw[BFM z0];rw[vB zA];rw[List.getElem_zipWith];rfl),AVC CNS,CCJ zs,CCR I1.land,J7 5,Nat.min_eq_left r1,C9 CS,qB->BEH,BFZ ((AT)),BG0 most,t::ts,(xs.map (·.1)).Nodup,[ARC,d g],[ARC,g d],y≠sZ,BG7 i,(by simp only[Int.toNat_natCast,z0];rw[BL zA]),AAV ≥ mg,AAW ≥ mg,(by rw[BGC z0 List.length_map]),BGD CO3,(z0 a).isSome,kk _ S,h.sorted _ AJ,h.ne _ AJ,AI e h,CD5 F,CD5 E,GN h.get? z0 λo=>zA,EN Nat qB,EN Nat ((WJ z0)),rIn K true,rIn K false,c7Z K ta,c++[BI0],BGQ ns.map,λx c=>AC3 z0 c,IP t7 t7 z0,PGs X es t,JFs X es t,HT.lexLt b c,BGZ qP.toList,BH2 rfl,FE (lt' y x>>=z0),XR x z,RG GH ps,NZ b i,MF (i+n),ID CLE e,BHD rfl,I.kept (t':=z0) zA,d.kept (t':=z0) zA,(by .exact EM z0 (a3r (by rw[BL5]))),AKT [i,f] BAW,AKT CFR BAW,BHG List.size_toArray z0,QD i r,BHP s'.heap,fF MS (o++[x]) z0 zA,fG p BH1,kM a5z d,BHT "name",¬(AA4 CDS),fN t zs,fN sv zs,CE6 r,CE6 .nil,BT v F AR6,(List.mem_replicate.mp a).2,λz b=>BJU,u6 PE z0 te,u6 JE z0 te,CEI z0 z.cps.toList,AAD b a,AAD dx a,BIL fss,CEM scope.names,CEM names,CET BJD,CET BKD,CEX ys.length,CEX zs.length,(by have hj:MF (i+BJ b.toArray.size)=j:=z0),BIV vs,BJ1 "__init__",(by rw[CF0 z0 List.mem_cons_self]),ACW H c,BJ5 L'.filter,BJ7 B85,z0 (f x y) H2,PG X tg g,JG X tg g,CF3 zs,CF8 SqL,CF8 SqT,ACV a _ (A29 z0),ACV a _ (BG8 (A29 z0)),A1M H I (z0 (lA zA h)),(by rw[CFC wpAny_loadPart_at z0 zA]),(by rw[CFC wpAny_isSubtype_exc z0 zA]),c4d ta tb,c8a ta tb,(bump z0 j).getD,BJQ a8d,r x y H Q,r x xs H Q,Inv j [] fY z0 zA,BEI cd x,BEI cd qn,BK2 (qX lexLt),c4b td ty,b5Z td ty,BK6 name,Txt.split a b=z0,BK9 a3z,CG0 s.heap,BKA (z0 X.K H p xs) zA,CG3 [i,f],CG3 CFR,u6 PG tg g,u6 JG tg g,CGM qP,CGM IS,(by rw[APU (ARA hj) z];simp at z),CH3 Z3,CH3 a2J,CH9 eR,CH9 IS,CHE qn,CHE qual,(UL e z (by rw[z,z0]at e;rw[CG])),BL4 (BDF base) z0,CHG c0,CHH CGG,CHJ B8H,CHJ CL2,CHZ min,CHZ max,CI2 a,CI2 tg,CI4 Ok,CI4 OkE,CI6 c.toArray z0 zA,BLJ OC,PlainAttrs T,α->β,λm=>xs[i+m]?,s1.heap.objs.size+4,j<=qP.size,MV<=200,vs.length<2,A2C<10,CID GE,L.length=m,AD6::args,W++L',Nat×A49,Str×NameKind,u9/\L=[],QC/\KH,∃q,CDV q,32∉x.cps.toList,Under z0 rest,((vY H')),CII la.take z0,(vZ).foldl,z0 l=Option.none,AI X L,AI B (BGG c),CIO List.drop_eq_nil_of_le z0 zA,o.data=.fields z0,CIP CP5,EN V qB,CQ A1S (tC v),CQ value tv,~~~a5y f,~~~b1H p,BB i hi,BB zs O,CB (BV (qR++x)),eqU x u,lo+AQ6*1,DF A1S (tC v),DF value tv,LV t s,jO (z0 b nb) z,IP gL gL z0,Z0 b e,Rs n rss,EI E9 n,EI psW xs,GZ d Z.mono z0,c1g ns g,lk c n,OY fs F,OY us rows,(c2R c).1,XO IX 1,CJE ML,aQ (AUT (AL z0)),PK (z0 AJ).set,Wi cs xs,MF (ARZ now.sum),KW t B91,[(x,u)],IC A0 List.map_set,IE a0a e,IE a1r (List.mem_range.mp hi),VN lX tO,HK F AR6,(by rw[YG wpAny_pure (A1I wpAny_bind)]),CJU wpAny_throw,QA (BFH) hc,λi=>sP (b.getD z0 TU) x,λi=>!(CKU z0),(by rw[GV (TQ (R7 lL (CO (ON z0)))) zA]),a7T ns z0 h.nm.nd zA,fG x o',PU a e (lZ (A29 z0)),a t List.mem_cons_self,a σ H,(by have e:lts.cps.toList=z0:=by rw[eQ]),fL z0 O.mono b7Q zA,A8J HJ f,CK3 s.heap.Ns,fN c xs,A8N (ABI ABL),(c2R c).2,IsTup z0 b c,fT a1S 3,n<10 ^ 570,CKB I.sz,U5 cD A4,gG c tc,GO _ FF h0,m*(1+r9),(YH I.ok.bs).2,CKH its.toList,CKJ ws.map,A9D HY 2,(by rw[lR z0 (List.mem_map.mp zA)]),JS X st u,(by rw[hJ z0 c.toArray.size zA List.size_toArray zB]),cJ z0 zA (N:=[zB,zC]) (src:=[none,none]) zD,B8Y .In o,λq b=>z0 q (HV b),iA d ob,rU λi=>BK (-i),iC b1s hw,CKN 20,∀x,bK a.toList z0->zA,mQ (A2E "dict.get" z0),(by rw[CKS List.extract_eq_drop_take']),A6 h1 J,A23 (vs++a),JI X tg l (z0 K tl),CKW names,AO9 b a,JI X tg b z0,CL3 b0a,z0 K hu HY ZB,BBI SqL vs,A4D x C,ACB IS n,ACJ u e,(by .rw[CK _ e AG (by unfold topN;rw[DQ z0 zA])]),(by .rw[ANX e _];rw[e1]),A4O g z,ACW H' c,(by by_cases hj:j<u.length),CLD k.extBut,APY d m,z0 λb o e=>ANF i.bs,ACP a n A3F,ACP c xs.length A3F,CLK Sum.inl,CLL Sum.inr,ARO E5 z0 a8y,ARO S1 z0 c0Y,AS3 (vS hx),AS5 hj d,(by rw[BDR _];rw[kY (A3M d) r]),qM.map (·.1)=IK a,ASL c L,(by have q:=PySem.IsL.update z0 zA;rw[zB]at q),(by have z0:zA=GE:=Heap.size_push ..),r x H Q,U8 x.toNat c a,ABP s.heap S D,(by .rw[ABQ];rw[AV h.sorted hs.drop z0]),AUZ HeapKind κ,BFY (gJ (gJ hj)),∀j∈fQ,ADC,CLW BGE,((A22 (AY z0) BFJ (gD zA))),OpR X f (AL5 z0),PA X VD ta,CLX (Sm v),CLZ .Not,BH3 (OJ+1),CM1 z0 (Q x VT),JA rH IO t,BH7 a8h NB,R x y H2,hiD a b na z0 zA mg k BEU,A3U s.heap TI z0 (AL zA),BJ8 t items,(D5 prog w).is,CMD AW0,BKO ASU h.get?,(by rw[CMK List.any_eq_true z0]),CMO CL5,CMQ ((fs.map (·.1))),tCB a9a (v8 z0),c5y ty td,CMR "list.sort.descending-run",CMS lnW,CP->CP->LqA,JGs X es u,CMW scope.names.lookup z0,CN0 ADU,Under (bump z0 j) zA,CN5 h',CNA now,CNE .IfExp,ItAt k1 z0 f l (p+1),qL++a5i fp z0,CNK (GN (AN1 z0) t),mE c z0 (λz=>ATD c z),CNP f,CNW N8,CNX r.drop,ADK z0 g m (q+1),COC tT,COD CBL,a5I z0 h1 uS g,(i1 v J).nn,COK s.heap,COR a,CP7 (qR++x),CP8 xs.length z0,CPA s.heap,∃m,m<n/\I m z0,a0J hs e y a,CPN toArray,CPO I.base.free,CPT z0 d.objs.size,CPV base,CPW CLJ,CPX (z0 K c),CPZ SeqAt.RcAt.lists_lengths z0 zA zB,CQ6 AVT,CQD (j<i),CQE X.stack z0,CQJ "TooMany" z0,CQL true,CQR (BA7 xs.length),CQV MethOk,CR4 vL,CR7 (z0->ARM CO8),.dK BEC,I.tok tk,c8b tA,ret Value.none,Nat.le_of_eq (BR z0),a1J CB6,c4a trs,a4Z h1.ne,tss.Perm rss,r.map Sum.inl,c5i tl,nd.sublist List.filter_sublist,z0 (A2C % 10),LqE->LqA,Obj->Obj,Params->qF,CP->CP,λobj=>z0 obj _ _,hs.imp_of_mem λ{x y} z0 zA l=>?_,X.flatten.length+ra.length,gC-bL,lI-A1H,lI<=A1H,sysModules<h.objs.size,300<xs.sum,bL<gC,lI<A1H,vs.length=as.length,a.length=b.length,s₁.gens=#[],sides.length=rows.length,S::wr,LA++LB,AEG++B8A (FC CQK),(by rw[CLA,<-CD,z0];rfl),(by rw[List.contains_cons,z0,Bool.or_true]),(by rw[isSubtype_type];kernel_rfl),(by rw[Heap.size_push];rw[OM o z0]),(by rw[z0];rw[GF zA j a];rw[BP q j DA]),300 / t.sum,A45 / RV,[_,V.str _],[sZ,n],∀l,P l,(by rcases z0 with⟨qM,zA⟩|⟨qM,zB⟩),(by rw[List.any_cons,List.any_cons,z0,zA]),(by rw[List.zipIdx_cons,z0,zA,List.filter_cons]),(by rw[List.zipWith_cons_cons,List.all_cons,z0,zA]),(by rw[z0,List.length_take,List.length_drop,zA]),ys[F]?,(by simp[sliceBounds,HT.sIx]),(by unfold argsOk;kernel_rfl),(by unfold KeyOrd.klt;rw[BKK]),e≠it,xs≠ys,(by obtain⟨_,_,_,_,e⟩:=x),(by obtain⟨_,_,_,e,_⟩:=x),(by obtain⟨_,⟨_,_,_,e,_⟩,_⟩:=x),⟨z0,lst g⟩,(by .intro z0 zA;rw[XL (List.mem_singleton.mp zB)]),(by rw[<-z0];exact List.mem_of_getElem? e),(by (obtain⟨_,_,_,rfl⟩:=z0;rfl)),i ^ j.toNat,(by rw[List.getElem?_map]at r⊢),(by .obtain⟨_,_,z0,_,dd⟩:=zA;exact dd.typeIs),(by with_reducible rw[LF wpAny_loadPart_at z0]),⟨z0 K b.h a⟩,l ≥ r,(by split at h0<;>exact h0),(let ⟨z0,q⟩:=st.en;zA),(by obtain⟨_,_,_,_,_,_,s',_⟩:=h),((FD z (ALB z))),wpAny_bind (wpAny_holding z0),Str.ext' (Array.toList_inj.mp z0),z0 (prices.map prO),(ATK).join,z0 X A1S (A9 i),(failedOf z0).isNone,(wd " 0").z0,k4 _ fC,min k xs.length+1,AL (CCU z0 objs.size),(Sum.inl:Int->Key),scope.names.lookup cF=AC z0,(by rw[AF Heap.size_push (BJM z0)]),AI L ht,AI (BFH) ha,AY (HT.lexLt a c),(m,xs),(s2.heap.objs.size,API),(by exact wpAny_bind (m:=BAA) z0),a5F K z0 ZB,es.toList=xs.map z0,EM dd.mapOf BKW,EN Int Int,EN uM uM,CQ c tc,~~~b1E h1 z0,~~~a2k hn,~~~b8y a9,~~~b7W h,BB _ _,L.trans (s5.upd z0 zA),z0 (.cons zA .nil),.str x _,inV x xs,KN H2 s2,Q .non (VJ l z0),us++[y],D++[t],ds++[cu1],TC d.sides.map++[z0],DJ x.cps c,RelV i iv,DF c tc,DF (AKZ c) z0,(by refine wpS_bind (wpS_reverse z0)),(by .exact z0 (AQZ intBits_le_64)),FD j (0<j),c0E r gT,EG c5d c,AX z0 hl hm,JP tooLong (((l.map (·.1)).toArray.foldl (·+·.length+a.length) 0)),DV x' c' z0,(s1.trans s2).upd,z0 b (AH ex l),j<10 ^ 100,Nat.lt_of_lt_of_le a CD8,FK (cL z0 (CAQ hr.mono)),(by .rw[AF (List.mem_singleton.mp q) z0]),JR (vV ABJ),A1 (z0 (hp:=PassesOwn.leaving)),(by rw[yW hz 16777216]),.int k s.toks,xs.set k z,CF (λe:g=f=>z0),n+nb+c0<=_,FE (CM8 CNT),RelV y v,(by rw[CM (List.mem_append.mp l)]),(by rw[CM (List.mem_append.mp D)]),(by rw[CM (List.mem_append.mp t)]),.set S n,a2m I.hok n,X7 z n,z0 (λl=>h (_::l)) n,yX .inl (ABR z0 zA),getElem?_pos qP _ z0,(by show vM z0;exact decide_eq_false zA),I.hok.fresh (Nat.le_succ _),MA ns n,BQ _ (∃(z0:V) (xs:qJ),zA),VB a .lst xs,(S3 z0 j).getD i 0,PH (qB×AQ),(#[y]:AR).z0,OV h s H _ I hw,b p List.mem_cons_self,xs.countP λz=>CGC,z0 λz=>I.ok.exfs zA z a,AKF PySem.W.takerIn C z0,CQ (.BoolOp z0 nK pos) tb,XR z x,(by rw[EA Ans List.all_eq_true]),c4y ok e,List.all_eq_true.mp z0 x t,getElem?_pos z0 i hi,(A0V s)[i]?,argBest B j,u=Value.type n,NZ u D,NZ W m,L.set j x,λr z0=>IC (hR r zA) zB,KW q (CIX 12),λv _=>COJ,E e s',.Expr e pos,ipI λi j=>i+j,[(CBQ,A9R 1)],a5i fp h,MM CJK (CPP z0) zA,VM a.length b.length,VM (strKind a) (strKind b),XX OW (2*OW+1),aV s₁.heap.get? AVE,FV T6 z0 (TK collect zA) C zB s,EI C9 z0<=60,EI wds l<=z0,∃rest,z0=BI2,Good st' a,eX x' z,GI Obj.cls_mapFields .. z0,A8B (rH).A,AKG x (pU "__classdict__"),P.length+LA.length+z0,(by .exact BDE z0 (mG I.base.keep B l)),YF hs₈.extBut z0 hs₇.extBut zA zB,bB b zs,λx y H Q=>AY (c8r x y)/\z0,d.getD j Str.empty,zT ptW L,frs (AL0 d.heap.objs.size::outer),kindOf st'=CIZ,V->V->Bool,V JC _ _ z0,b5D rss cs most,upd H2 p AQM,QD f n,(by .rw[kH];rw[A1A (a0w T F z0 CDB zA)]),b.getD 0 TU,Off z0 H1 H2,YL (ACX CEF),MQ APT CD,MQ CD9 SE,QE a.1 hi,bE xs.zip ys,XI MethOk base C z0 zA ps sp,bG a0r h,bG (A5 z0) A0,Nat.lt_of_lt_of_le (BGA (ABH z0)) PF,C9 m++bk++CMH,d-BJ D.length<0,(by rw[KK List.getD_eq_getElem?_getD z0 List.getElem_mem zA]),(by .rw[W2];rw[AZ CKI rfl]),s.heap.IsTuple t items,hT t ht,a3C (AUM a),(a.extract i n).z0,(Nat.toDigits 10 n).z0,AL4 (.seq its'.toArray c),VJ p (xs.set j v),s.TypeIs v T,kQ z0 [] {args:=zA},(by rw[WF (wpAny_sequenceKey z0 AK ?_) zA]),WH x y,.Name y m,kW (C9I r.length),C0 (BBO 3),bK R k,bK qP (base+i),A8P (ds.map V.ref) z0,absurd rfl z,compEnvC scope z0 zA X.env,kf (z0 i TU),(by subst z;rw[z0]at e;injection e with e),.List es pos,RelV QH DM,sK .BoolOp z0 vX zA,gD (XX (KR+1) 0),(by have z0:zA:=List.getElem?_zip_eq_some.mpr ⟨zB,b1⟩),z0 (kf x) (kf y),A91 PySem.W.tailIn BDM z0,gH (APZ b7O),gH (kM b1B d),λDe σ H=>tx De z0 σ H,C8J (z0:BH).length,(⟨BC3,by rw[CPI]⟩),a4p ρ r,C0 (F8 K z0),a1U lo KR a,dpO lo QF a,gN (APZ a9w),gN (kM b1w l),lN z0 "_law_one" zA "_law_one" zB,ALZ "range" KG,A9D DR 1,RelV o ov,tN (a3t p q),cL z0 (GZ l B.mono (YC (AOL zA))),(r-l) / 2,cM 5 b8g,cN (RC call z0 us),IspLeast D vs H Q E,d q List.mem_cons_self,iA C CGW,AMH p AR3,z0 S c λa=>b a f,entryFor table z0=AC zA,iC b1y m,tY (∃o,z0/\CG6 o.data),(by rw[MY (decide_eq_false (by rw[jY])) C4 z0];rw[BO zA C4 zB]),(by .rw[A9X];rw[EH (GQ a0b z0 zA)];rw[YA (GO zB h1 h2)]),(by rw[A9Z PySem.W.kitx_list (PN h1)]),(iM (λq=>nomatch q)),(by rw[List.getElem?_map,z0,List.getD_eq_getElem?_getD,zA];rfl),(by rw[List.take_add_one,d];simp),Rs3 ns.length rss,z0 DA rfl A3T,b5E (B9R d d),A1P z G,p::p2::r,AA6 (b && BIO),uI CMul (i*j),C97 e none,b7N (2*i+1),(by refine TQ (R7 lL lL)),((∀f,CPM)),h qL _ σ z0,A26 d.2 g,AND sl "slice",b9Q o i j,h1 x c q,MU t xs (ATX (∀p,ALC->z0)),nG "zip" "zip",rS σ[2]? v,AAL "told" b0z,AAL "paper" a7s,AAL "ended" a7v,AAL "whole" c8h,(by rw[ANQ (updateSeq S z0)];rw[bO]),A2F "sign" (b3l (jv 0)),BA6 s.heap .none,A2J List.length_take List.length_take z0,AAQ List.length_append List.length_append z0,(by rw[e,List.mem_range'_1];omega),(by rw[FZ,CF (BA0 h1.trans)]),z.sameBut hs (cne y c e),bubble z0 src CLU,AAT qJ qJ,AY (Q8 N src M a),y=kV k,vJ s1.trans s2.upd z0 zA,∃k,z0/\d=most-W.length,FC (AN4 w cs),OE*3+l,BG O1 vs (BB2 z0) as zA zB (VZ CEV) zC zD (ZK zE) rfl zF,BAV e CDW,BAV CHS CGE,BAY H' rows,AOJ (RD "__getitem__") z0 PyProof.Rows.slot_tuple_getitem,∃v∈L,CM2,(A0V s)[AT]?,AOR W4 h',c7Q mask z0 n,.int (g i),∀o,ASZ z0->BCF zA,∀j,j<k->CMX,BBH n hi,aO "tuple" .seq #[z0,x],ZD _ _ 0,ZD _ e e,ZD _ h tG,VA H a .dT A3I,bQ ["one"] "one" z0,bQ ["width"] "width" z0,bQ ["word"] "word" z0,∃x,BIA y/\(z0),AMX HJ "__setattr__" CBY,APG GE [],APK (z0++bk) b9b zA,ANR zs h ⟨AQE z0,AQE zA,zB⟩,(by rcases CIB (show z0 from zA)with z|z),APL i D,Cov l H' h0 z0 B,(CNM qM.any)=z0,AD2 BHJ BHK,BC9 lo VW,backToKw pos C8E,APX l.map all,scope.names.lookup HH=AC bW,GK σ 4 BCD,APY f t,~~~b8A c e,~~~b8L c p,VB d .dT qM,GN (eW xs.take i) t,h z0 a st' b,kp b o h hb,BCV "_law_j" CKO,sS h' it AT,rG (S1 (z0 K b) f g zA) c.h d,AMZ "below" "other" b2P,AR1 d d,AR1 e2 e2,TN [] I .nil h,AOJ ALF p F.slot_enumerate_next,AOJ ALF C F.slot_zip_next,BB6 n w a,BD3 out ib,BD4 sp t,ARG (neg z0 i h1 h2 zA),fnOf x x ANA A0B,(by rw[AMC h1' us us.toArray h1]),CB8 z0 a2J a2J,CB9 f y,AS2 a0p O6,∀u∈z0,HK zA (XR u v),BDQ b8R z0 q,k∈AA0 qM.map,ASA List.length_map vD z0,R5 g B,a8l s₁.heap H,G5 (a2Q A4),(CNO CX0).nox,PSs X body tb,MtR X id r,xs.any λy=>BJA,tOp z0 zA (b3Q K9),(by have:=z0;have:=zA;rw[List.sum_cons,List.length_cons];omega),ASI sY Y,~~~b1G a q,∀s',AD7->AQ0 z0 s',ASM (BI6 BEJ),z0++[(CS,DM)],HU CL6 p2 [],ASR hx z0 hx,UZ KG=BCJ AO1,(by rw[DN ?_ BIF (bG e g)]),(by rw[CBT List.sum_cons a]),(by rw[e]at h;rw[iD z (ADN h)]),(by rw[ATB (I0 ns z0).length_le];rw[KA h.n7]),(by rw[LN x b z0];exact U9 zA),CBX "nought" a8T,bC "show_vector" 1 "one" a0e,(by .rw[AV none e (λx z=>yZ)]),BEK IW _,(iN (show PV<=BJ z0 by exact b1t h1)),AUA v.mono (VU KY CFL sW),PJ z0 p o b u,A3J X.prog X.w z0 a zA,BF2 vt xs,BF2 c2u o,BF4 g.toArray p,AUR (tCB r t),AUV s.heap.objs.size (BJW z0),(by obtain⟨f,fd,h1,h2,z0,zA⟩:=O.ex),(by obtain⟨f,fd,z0,h1,h2,zA⟩:=O.ex),CCD z0 (.str (Str.ofString zA) zB),Dr->EN z0 Dr,(z0 cK).drop a++o,33<=c/\c<127,(by rw[BG4 List.map_cons];refine .cons ?_ z0),(by obtain⟨o',e1⟩:=YV I.base.there a),(by unfold z0;rw[A06 zA];rw[A06 r];rcases r with _|zB),BG6 A.in1.handled g,k H1 s1,call_meets z0 vO zA (BR zB),s'.trans (s1.upd hp),AE->AE->AE,N (.int z0) H',JX X body tx,(List.mem_append.mp a).elim,(List.eraseIdx_sublist ..).mem,BGI b h,KN (PQ H s.heap.objs.size z0) (HW h2),AAY AMU DT z0 e,z0 b o' BIX e1,FV JM z0 (collect x) n zA s,(z0 R).same S,(x,a)::cs,(x,y)::ps,HU H' qR ys,KO M t b,BHB p9 L.map,((CLN∨ARN ASO)),((CO2 z0∨ARN (m<zA))),YD b z0 c st,BHM h2 (W1 h),fF MS (o++(z0 zA).take k) zB zC,WD (WD (a0q k e)),WD (WD (a0q l e)),A8Q (isTrue e X.env z0) TP,sE .FloorDiv (uI z0 (i / j)),CE7 "is_written" c4v,CE7 "is_name" c8o,(by .rw[BO CJ0 wpS_pure (BJI b)]),a1U lo KR nrem,A0M .FloorDiv (uI z0 (i / j)),BI5 (1*_),CEC k g,CEC OE l,BI9 ZB (BE5 a8i (CZ z0)),AA1 C (CBE qn hd),JV (none,z0,zA,zB,0,AAV),JV (none,z0,zA,zB,AAW,0),BII A4M A4G z0,(by rw[uP (ACG c.fpOk (aU c.hok.fresh))]),(by rw[uP (ACG a.fpOk CDU)]),(by have z0:n≠zA:=λz=>by rw[YK z zB q q]),FH (call z0 args kw),∀l,A2Y->CF3 ys,ABO AC7 js xs,CEW o' o',CEW sl (CMP o),n (f x y) H1,pendingOf st'=pendingOf st,failedOf st'=failedOf st,(by rw[DW (a2x e) b h2]),(by rw[DW (a2y e) b a]),(by rw[XY (A19 (AA4 Value.none))];rw[AR0]),(by rw[BJB bump];rw[CM (List.mem_or_eq_of_mem_set a)]),BJE ACA [],A1M H I (z0 (TN zA VI TM h)),rZ Perm (arrOf st),CFD ANW [BA9 tg],BJT List.getElem?_eq_none List.length_take z0,x++s++RG s fM,x++GH++RG GH fM,BJY z0 zA (AO q (CME zB) A0),AV9 s.heap.IsKeyIter it i,QK s.1+QK s.2,c4x td ty tv,b5Y td ty tx,CFX X.prog X.w,(by rw[EH (GQ a0b z0 zA)];have g:=g.trans zB),BKB l r,b2A C sp [] E0 z0,b2A C sp dvs E z0,gD (none,z0,zA,zB,0,AAV),gD (none,z0,zA,zB,AAW,0),BKJ (z0 (ts:=ALI)),ALT (z0 a b out ia ib),ALT (z0 a b out na nb),CGA y.length y.length,CGA y.size y.size,CGD 1 (YB ns ms),BKS ((z0 BDH).push uD).get?,CGQ "plus" (a+b),CGQ "minus" (a-b),BKU [([AV4],z0),([A4K],zA)],(UL e z (by rw[GU (uA z0 z)])),BL8 z0 (zA it a i),(by rw[CHQ ((glued a ((z::z2::l).map (·.1)))) b]),CI1 BIZ BJF z0,CI1 CLH CLI z0,BLI n (A3W z0 n (zA n)),CI9 x x,CI9 m qn,(by rw[BLN I.list z0 pl.isList]),CIC (z0 _ zA (Heap.SameBut.update ..)),he (FN z),mZ+(AUD+n),(A.under COQ).z0=zA+1,CIF t3 p1.map,(by obtain⟨od,J,z0⟩:=I.look),(by rw[List.all_cons,Bool.and_eq_true]at f),(by have f:=tc_notTuple;unfold excMatches),(by rw[<-z0,List.getElem?_map,hi];rfl),BK1 "sum " z0 " = " ++ zA,bump ys j',s'.heap.FunFrames B X.stack,((BLB u [u] z0)),rA (eW xs.zipIdx z0) A0A (tmP (pre++zA)),lp (lp t),qB->qB->BEH,G1 (b7N j) z0,upd X n AQN,fs.lookup f=AC v,(c6R z z0).flatMap,(by have:=z0;rw[<-zA,List.pairwise_append]at this;exact BGK),z0 ok (.inl e),CIQ Nat.ne_of_lt this z0,eM CLY H s',c1s z0 {nx:=λx H'=>TH V.non,rt:=Q} σ H',Calls.Name_function_global I.ok.kind a z0 hd,Nat.lt_of_lt_of_le z0 (Nat.le_trans AV2 zA),(hB y G).2,(lo,n,0),a7L t _ AUC,HI (AC qQ != AC "object.__new__"),z0 (λz=>CDF) λz=>CDF,IU I.ok.glob I.mod.glob.keeps I.bk,rA (eW z0 zA) (B8U t) λq=>B8U f,FH (A2E "sorted" RW),(show z0=zA+1 by exact b9G),qV UJ KH (z0->ATA->zA),OB ys (ASK H4/\z0),∀n:Nat,0<n->z0,rP .Dict [] [] z0,∃t,v=CM6 t,YW n A0R=AM1 n V.int,(by rw[UG];exact r.inj g),sK .Dict [] [] z0,ALL (lS isSubtype "list" z0),A0L (a1c z0 (AV0 a0u zA)),(λx a=>h.d x (by rw[h.eq];simp[a])),AH (Int.fdiv_eq_ediv_of_nonneg i (AB1 a2j)) q,(by rw[A9Z PySem.W.kitx_dict (UC h1 APT)]),V.int (dot r ys),iQ h.mem x (A2M AG e),vQ (AQK x (DL y)) n,ABO now b xs,BB9 "list" none z0 #[],(by rw[S,List.map_append,List.map_append,z0,zA];rfl),R0 qM k=none,APK CNC b1v g,zS a0 st runs (r++rest),(by have:z0=x:=by simpa[eqV]using e),CLM f f,(by have:=congrArg List.length y;rw[ASC IK]),ATW "name" "self" KY,iP (z0 i=zA j) ((i==j)),OD _ _ rfl _ rfl z0,A4R Builtin.«tuple.__mul__» (MD [FP,A93 z0]) (AVX/\zA),putK qM DT QH,(atKey xs k).isSome,fF MH (x::o) na nb,(by have e:BG1 qR.toArray=A23 BI4:=by simp),hiC a b z0 nb zA mg BIG bc,(by refine⟨"tuple",_,PyProof.Rows.slot_tuple_getitem.lookup,z0,?_⟩),(by rw[QL c r];rw[bX z0 rfl b q]),AEB HO (GL t) ((∀xs,o≠BGO)) z0,c1i c ns zs fs g,(by rw[BLF z0 zA m (id p1)];simp only at zB hd),a4J z0 rss mF zA AJ,CMT wpAny_pure BE1,HR x DA ps sp,(by rw[BL (seqEpoch_at f rfl ?_)]),λσ H qR Q=>XN te v z0,DP R6 0 (AE3 (DP R6 1 a4x)),thn (XS hi) λv s1 h1=>EW h1 z0 s2 h2,fI a2l LI OJ ib,fI a0x MR na IX,CND ["names","words",z0,zA,zB,zC] zD,(by rw[QN v z z0 v (z.keeps λb o q=>zA)]),∀x:Str,A4I->z0 x=bootBuiltins x,CNL s0 CKZ,FH (z0 .Lt BJR (A93 c)),COE g (g+1),(by obtain⟨t,ht,_,xa,rfl,z0⟩:=zA D),COM "__getitem__" id,(by rw[lP zs];have e:A3A (min BID (A1F ys.map))=A05:=z0),z0 fD .none kV zA pm an zB ct,CP1 (z0 q b XP zA),∃f fd,CLF/\ATV/\nM/\z0,CPR a (BT r a iJ) z0,CPS (z0 s.heap a b.toArray),(by refine b5L z0 (by rw[zA]) λx d=>?_;rw[mO (List.mem_cons.mp d)]),CQA qM.map y,A8T MakeOk X.base x C k ps sp,CQS ADJ (PN c),CR3 p CK7,beq_eq_false_iff_ne.mpr (Ne.symm (Nat.ne_of_lt a)),(ATU (λz=>by rw[<-z,z0]at e;rw[CG]) zA),ER BKC-AQ6,BJ items.size*x,(z0 (c+j)).drop c++zA,(by rw[z0,zA,zB,zC,List.map_append,List.map_append];rfl),(by rw[AD1 R0 e]),(by rw[Str.cps_append];show z0++zA=zB;simp),(by rcases BGT with y|y),(by .rw[z0,HT.sIx_nat,List.length_map];omega),v=.non∨CPH,(by rw[z0,zA];have a:=h.perm;rw[zB]at a;rw[RQ ?_]),(by refine ATQ;rw[ACQ AB4]),(by intro hv;rw[CF0 z0 (HV hv)]),(by obtain⟨o,_,_,_,e,_⟩:=x),(by rcases I.ok.stk with e|⟨e,z0⟩),(by rcases List.mem_cons.mp (I.stkSub b z0)with zA|zB),(by cases y<;>exact absurd (C8B hs) Bool.false_ne_true),(by .rename_i z0;have zA:=eq_of_beq zB;omega),(by simp only[bne_self_eq_false,Bool.false_eq_true,if_false]),if neg then ! CEP else CEP,(by obtain⟨z0,zA,_,zB,c⟩:=zC;unfold Builtin.SmallTypes.nextOf;rw[BL zD]),(by rw[List.replicate_succ,List.foldl_cons,z0,zA,zB,zC,List.append_assoc]),(by rw[Nat.add_sub_cancel]at e1 e2 z0⊢),∀{xs ys:qJ},z0,h.elim CAC id,a.extract ia a.size,b.extract ib b.size,O.klt (aP IS n) BIU,W4 h₀ h',Ofl CK4 CKK,rL z0 (S3 cs.length),AQ->AQ->AQ,AR->AR->B8K Array Keyed,elem' (arrOf s) z0,(tupleKind A28).is,(X.wish E).Ok,key _ AK CH,AY (z0 (.inl i) AP5),AY (z0 (.inr x) AU0),wpAny_dictEntries e1 a (z0 zA),(backToKw pos (keywordEach kws env)).z0,a8V (z:=z0) zA zB (λv=>Sub.one),c4z K P w,(by rw[AD z0 zA zB zC];rw[aM wpAny_call codeAny_of_tree]),~~~b8S r0 hroom,((O b A)),spliced (backTo pos z0),I.tuple (SqT.of (K:=X.K) z0),A.under (.builtin "type.__call__" z0),a5t (b2l hp z0),H1 z0=CA .tup xs,Q (.yield CJT) st',CZ (QV a9K T.b_sorted z0),CZ (J0 K (D6 z0) (BE5 a8i (LX a0C zA A4))),VA z0 dx .own x,λz=>tF (AC3 h b _ z),q a H kJ z0,∃qM,CMB/\k=! qM.isEmpty,0<=G1 s ρ,(by rw[D2 env z0 zA List.mem_filterMap.mp zB];rw[TR zC zD]),(by have z0:A1F (B88 zA)=zB:=by unfold cst;rw[BI8]),(tk,tv)::trs,QV a1g T.b_all (BKE z0 a0C zA),A1 (F9 K DR (jv z0)),(by rw[AZ (AH (z0 hi) this) this]),A6 (o:=CC []) A0 a,Its H' zs a,.While c z0 [] pos,u.2 b (λh:b=S=>z0),GX BGM (BA1 (DT).map),(c4 r B).2,z0 X (.Break pos) b6a,(by rw[DG];have:x≠y:=λq=>ne (by rw[q])),λb q z0 z=>AAY zA b zB z,(by have:=Nat.min_le_left rows.length sides.length),subscriptTail_builtinR (x:=w) z0 zA,c3X (n:=z0) zA (λH' N s' k'=>zB),b9R l _ EJ,HOk X.prog X.w H z0,(by rw[DN z0 (FE ⟨RB b,RB (A2M a e)⟩) zA]),z::z2::l,e1::e2::es,z0 (h t List.mem_cons_self) zA,Joins M A E ps,IU List.map_map SqL.of A0,typeIs_str s z t,C8P z0 (AC zA) zB=pure true,IsPair z0 TO x b,(λr z0=>match r with|ForInStep.done c'=>zA|ForInStep.yield c'=>zB),MM (v<0) (max CC4 0) (min v EY),pk b l z k,VR×qE×qB,I.kIn a o d,JT X (CQ8 z0) (tB (zA ty td)),(by have z0:BHZ (ER zA):=A9L (show JR zB by rw[DQ zC zD]);refine zE),MW List.take_of_length_le List.length_zip b8c,wpAny_setField_rec (s:=z0) zA AJ λzB zC zD=>?_,(by rw[GS (a2R z0 HY (zA zB))];refine TQ lD),PY (∃(z0:qE) (zA:zB) (rss:LLI),zC),kE AB8 (z0->uT->QC->KH->zA),Heap.ExtBut b h h',XQ n NW sum=0,l=X++z0/\X.length=zA,List.length_map (f:=ent),K1 f CJR (.k z0::st) rs,(by rw[WF BIW CEE];rw[sH (AO4 z0)];rw[BL zA]),rN k H z0 zA V.str,C0 (DP K3 1 B2),FnScope N ps scope,L9 (rss.drop i) rs,ZD h _ h,CPB z0 F r L',bC "size" 1 "one" b6c,(by .show QK ((glued a ((z::z2::l).map (·.1))))<=_;rw[DW glued_eq_join b z0]),(by show((z0 N5 BEE).1++[(zA N5 BEE).2])=_),gD (none,z0,zA,zB,mg,k,k1),z0 λo e=>r _ o zA e,ys.map λy => -y,Inv z0 zA σ' H' s',HI (VM k 7 && VM k1 7),(by rw[bY z0];rw[List.mem_filter,zA,zB,decide_eq_true_eq]at h),sV rQ CBW ts,C0 (K3 nJ B2),λx a=>A26 EJ a,z0 b o e q r t,lS newExc "StopIteration" [],cN (A2E id (v::us)),(by obtain⟨z,hd,z0,d,dd⟩:=A02 zA;have o:CB zB:=by rw[KP zC z]),tS wplus wds l,k b u (g b n) q,(by rw[GC r];cases(jZ z0 ty);rw[AZ zA (FD e AS6)]),Goes rss xs z0 a xs,A9Q (AM9 "range" .fields CB7),a0I C m sp dvs,Builtin.Slice.sliceAdjust lo hi 1 EY,(show _<=28 by exact b9F hn7 z0 tl zA),.Tuple es h i,s.heap.IsTupleIter it t i,mQ (compareOp z0 u BF),AMZ "raised" "j" a8R,AMZ "often" "rest" b2J,CJ4>>=CO (z0>>=λy=>V8 false y a zA zB zC>>=zD),λi v x H4 Q4 z0 zA zB k4=>?_,(by have f:i<zs.length:= ~~~b9l z0),Td n rss z0 m,l.map λc=>V.bl (p c),h h1 _ os c,UY qB (V×qJ),AAN D Ends (AM->NZ t D->aY (eJ z0 st) COI),AAQ a0r h Int.mul_comm,∃a,env.cells.lookup HH=AC a,a7M r _ _ z0 e,V->V->V->AA5 CK5,ID (a c _ q) q,AO7 m z0 ps sp,kG z0 .Assign ANW e (b3R te g),rG (E5 (z0 c) f g zA) b.h d,Un AC4 [] H H' h0 z0,A3J X.prog X.w z0 zA o,⟨_,rfl,_,rfl,a,b,z0,rfl,zA,~~~a5C n1,COO zB n7,zC⟩,BB6 q r t,BB8 (z0 a b zA zB zC ac bc mg) zD (c0+1),(by unfold V2;rw[HT.sIx_none,HT.sIx_nat,List.length_map,z0,zA,zB]),(by unfold V2;rw[HT.sIx_none,HT.sIx_nat,z0,zA,zB,zC,List.map_take]),AO F.extBut z0 (YF D.extBut zA C.extBut zB zC),AO hs₅.extBut z0 (YF zA zB hs₃.extBut zC (CG4 zD zE zF)),(by obtain⟨i,j,rfl,rfl,z0,q⟩:=h),APK BKF b8K u,List.append_assoc (P++LA),ADF f->f=v,CC1::(us++ds),∀e,a1o AE7 z0 zA,(by rw[AD0];refine a8r r _ _ ?_),IsTup h b its,BCH "row_sum" "row" a8Q,BCH "within" "caps" a8P,BCH "times" "many" b2G,(by rw[ND b a];rw[ZI hs h]),A97=0/\ANT=items.size,kO "take" 8 gL c8i,kO "take_names" 2 gL c4g,kO "take_sum" 7 gL c8j,Inv z0 [] B9D H s1,BCW z0 na IX MR,BCW z0 AVV ZF ib,(by rw[lO F.slot_list_append z0 F.entry_list_append F.args_list_append_2 zA (GD zB)]),(by rw[lO F.slot_tuple_mul z0 F.entry_tuple_mul F.args_tuple_mul_2 zA (GD zB)]),(by rw[AMC f d d.toArray h2]),AA7 "_law_pot" 1 AS1 c4q,AA7 "parted" 1 ["words"] c4p,AA7 "show_numbers" 1 CO6 c4l,h2 u W v t,kG z0 .Assign [CDW] e (BKQ te),A4P k (BKI st.at it),BD5 "read_term" 4 c8l,BD5 "read_terms" 5 c4n,BD5 "read_sum" 6 c8m,CAY ac as BKL,Ask ns rss x zs o,λx c0 x1 x2 a1 b2=>z0,(by rw[AED (BJK OJ) z0 (ALY LI OJ ib) zA]),(by .rw[A5 (z0 c f)];exact(zA c f).1),⟨f,_,z0,CI5,(CI5).binds e⟩,⟨y,tk,e,b,z0⟩,~~~c4X hbig O z0,~~~b9n r0 hroom z0,s b _ q m,d S _ AQ3 C,(by have:=h.v x a;rw[tH topN];omega),qM++[(k,v)],findIn K HJ m=AC B9Z,c7A e f I h,(by rw[GF (UC e ex.1) a e2];cases e2;rw[AV o e ex.2.1]),(by rw[e]at q;rw[EB (A3P ZH) H I TM q]),HR "show_times" 2 ["many","one"] c4e,SyT H' v ns rss,∀i ys H,AMY->A3C->z0/\ys.length<=i,(by rw[nL z0];rw[uL a h];have f1:=AutoSeq1.idx_int),b2t T F o B,(by rw[AUK b a (Q b (BG2 q))]),backToKw pos (keywordEach kws env),(show(lF+1)=ER DA by push_cast;rfl),if g=f then bF g v else(g,x)::AM2 r,AV3 ⟨BW,bP z0 f,ARS⟩,(by rw[BFM a];rw[BK3 A43]),(by obtain⟨v,o,z0,hd⟩:=BHX),(by have l:B7U st:=CNI;split),(by obtain⟨hi,_⟩:=z0;have zA:(AOW zB)[i]?=DL zC:=by rw[BE2 (AT2 zD)]),⟨IC List.length_map List.length_map,A1P v r⟩,(by rw[<-a5Q,<-Array.toList_append]at hbk;split),a 0 [] H1,Slot T name id,.frz o (.lst xs),PC X z0 a b t,V.bl (b5h c x),∀k,k<=n->B9V k z0->zA->Q AMG st,VA H1 a .dK BEC,∀a s,Q a s->b a s,(by have:x≠n:=by rw[W2];exact h v List.mem_cons_self),(by refine gR z0 U.n4 CNB;rw[a9c]),g x r H' _,bC "show_system" 4 "system" c4j,bC "_law_small" 4 "_law_pot_here" c4h,(by have:c=b:=CJ (fZ Array.toList d1)),(by have a:=r.length;exact z0 zA (by rw[BG9 List.size_toArray]) (CLR a5J)),(by rw[BJ6 List.perm_append_comm];rw[CIH List.append_assoc]),Its H' CFO (tss.take 12),CFD IO (BA9 e::(assignEach es X.env).map (·.2)),∀q zs z0 H',BN->ACE q->zA->zB->zC->AQQ,sp (CO1 ASF) z0 (λv H2=>v=.non/\LV x H2) E,ARU (g z0 fY H) h zA zB j (a AT A3D j) zC,RO (n-(AT)) (YT a9x) a p',(by rw[ND a b];rw[ZI rfl h];cases b;refine z0 (zO ?_)),(by rw[z0];rw[EH (JL C2 zA x' zB c)];rw[AU f2 c c]),(by .rw[QN o' e1 (YV I.base.there l) o' (BDE z0 e1)]),(by .rw[QN sl e1 (mG I.base.slot B l) sl (BDE z0 e1)]),(by rw[CL us O N zu I.sqk j]),CGH n ((m+1)) b9I,CGH FJ m b9J,CGP "steps" "caps" b2H,CGP "next_place" "at" c4r,(z0 a b out ia ib).toList=out.toList++zA++zB,(z0 a b out na nb).toList=zA++zB++out.toList.reverse,CH0 X.length 0 c4P,CH0 CIL 1 c4R,CH2 h2.extBut D.i2z D.i12.symm,BKX tP tP CER,∀(i:Nat) x,OZ z0->D x,BL1 (c∉z0) uG h2.get?,(by rw[CHQ (glued a []) CH7]),(by rw[CHR];rw[A3S B d];rw[CI7]),∀j x y,BES->MA ys y->BJG (e j),λn _ b=>z0*b,(by obtain⟨c,a,h1⟩:=b),(by have D:=(z0 f).symm.trans z;cases D),∀xs ys:qJ,CQU,(match c with|none=>true|AC c=>z0),W AT m' z0 H',a9n U e1 (z0 ▸ hi),B8L UH s2 H2 fp,((if OE<0 then BJN DictEntry else es[(OE).toNat]?)),(CMZ h out).get?,(by exact Heap.lt_size (show ZO _ from x)),O4 L/\L.Nodup/\(vT L z0)/\(zA)/\zB,J8 ns x=A1H,List.countP f a=List.countP (λz=>CGC) xs,(by .exact h1 (List.mem_filterMap.mpr ⟨env,z0,zA⟩)),(by have o:=Nat.lt_of_lt_of_le a CIS),BS u t v hv,(by rw[CK rfl rfl rfl rfl]),NU (TK (AE4 BH6 bm) D),Meth X.K C m f,EX r1 H1 z0 zA P1 f1,(by have z0:atI (zA V.int) zB=CA V.int zC:=J4 (by rw[BE2 zD])),(by rw[e];exact EO bI H (I.kept (a2N o)) q),kG PG .Tuple es k z0,wpAny_field d hd (x:=z0) rfl,(x=wd "way"/\z0)∨(x=wd "lay" /\ ∃(m:Nat) (xs:qJ),zA),Ofl (r.take i) (rest.take i),MU td x (∃a,x=BF/\IsD H1 a/\QM ty y z0),(by rw[EC (a5e z0 a (iS zA) (ZA kJ)) (AEE zB) ?_]),λt ht=>AH (BCU ht) (a2h e n7),sV (v<0) CJQ (min v.toNat n),z0 x u _ zA r5 (step x zB y5),(by have z0:zA=BCO zB cs.length:=by rw[Nat.add_mul,Nat.one_mul]),.FormattedValue e (-1) none pos,KO M (storeName X.env x u) Q,(by rw[QL z0 r];rw[WC p ys rfl zA q];rw[BJX zB]),(by refine⟨?_,?_,CHI,CHI⟩),CL0 PySem.F.slot_str_join PySem.F.type_str_join (z0 K f),EX i x v e1 e2 z0,(by rw[hJ z0 (upd H dx CIV x) none (A5 zA) zB]),cJ 3 z0 (N:=["j",zA,"one"]) (src:=[none,rX,AMV]) zB,z0/\zA/\o.data=B8C its/\CB its.size/\zQ its.toList,(by rw[AQW (L (pos u))];rw[AQW COA]),BDG tl x (∃a,x=BF/\(∃xs,z0 K H1 a xs)/\R zA H1),vs.length=rss.length/\KC i Nat v z0 ABG zA,λb u q n _=>AH z0 n,AU9 MX (CZ (ADE d (FU B2 z0))),ZM _ rfl z0 _ rfl zA _ rfl ?_,(by rw[BG5 hR z0];obtain⟨hN,zA,n1,zB,_,zC⟩:=BHY),YE b7a (z0 K c) d.h e.h hs,(by rw[List.all_cons,Bool.and_eq_true,decide_eq_true_eq]at h;rw[List.map_cons,List.zipWith_cons_cons,List.sum_cons,z0,zA]),XI MakeOk base z0 C 1 zA (zB C),⟨CPE z0,AE6 x (H'=H/\CMV zA),CKY zB⟩,CMI X.env aN aN,(by rw[e2,G9 p q,G9 (d b a p) q]),(by .exact b2s T g ⟨z0,h1,zA,C,zB⟩ (λx' ex'=>f x' ex' _ zC) zD),(by have h1:NW<j:=a.1;have h2:z0:=a.2),G3 src g l te σ Q z0 H1,(by .show PV*n<=_;exact b8I h2 b),CNH (BLG (LX M9 B2 CN7)) j AOV,(by rw[rW n rfl (BJS na) LH (AB1 b9y)]),(by rw[A21 σ7 a y q];exact j c y),(by have:=ARQ z0 X.A p1.isList p2.isList AQ3 ARF ARL),BI1 e AVD (tSl (z0 K) te tl th),CP0 (a9L K z0 G6 (G5 (jv zA))) K4 zB,CPK (rN k2 H' b ys.map V.int),(by rw[CPU ⟨xs.length,AJ,FF,h0⟩];have q:=f i σ H hi p;rw[CNJ]),CQT "tuple" z0 zA Z1 a2D,CR1 t U.n1 AC8,c0P (~~~N6 hcl hj'),[.Assign [CGE] CHS pos],∀(ns:AA) (cs:BY),z0,⟨rB BGL,z0,.cons zA (.cons zB .nil),BEK zC 0⟩,(let ⟨c,h1,z0,zA⟩:=b;⟨c,h1,h2⟩),(by refine TN WP z0 ATP (GQ (q _ ?_) a zA)),(by refine OX hσ rfl _ rfl ?_),(by obtain⟨mi,z0,zA⟩:=two_at zB zC (decide (A2A zD));rw[AA2 zE]),(by unfold frs;rw[DW List.filterMap_cons d z0]),⟨od,es,ep,z0,c⟩,(by obtain⟨_,_,_,q⟩:=hs;rw[NI q]),∀(z0:Around) (zA:qI) (zB:CDL),(∀h1:Heap,BD9->zC)->zD,~~~c4U c q m,(by refine z0;have zA:=AVH zB qN zC zD;rw[hs]at zE⊢;refine Calls.callWith_builtin zF (Calls.evalArgs_plain ?_)),(by obtain⟨mA,O,r,_,_,_⟩:=CK2),show PV=ER 1 from rfl,show(z0:qC).heap.objs.size=zA from Heap.size_push ..,(by rcases hs with r|⟨f,_,_,e,_⟩),∀{h h':Heap},z0->(A1T (b∉[zA]) UJ)->zB,(by rw[<-Array.getElem?_toList,j,TL List.getElem?_append_right z0 a,zA];rfl),(by rcases c with⟨_|q,n,z⟩),Mod X.K X.mg X.base,M0 (a7n z0 zA ta tb tc),A.deeper (C96 qual scope cd),(I0 ns z0).mem (List.mem_map.mpr (ABR q zA)),(zH1 k1 h l1).z0,(a4m scope env).lookup,((Heap.SameBut.update ..).extBut.push _).push _,z0 λh₂ h1₂ hs₂=>ATF,PIE X qL σ tg R,Paired.mapP r λz0 zA z=>⟨ZH,zB,z.2.2⟩,(by .exact a0A b o AV5 fO),pk b z t k,(by have hs:sizeLine=16777216:=sizeLine_eq),HR "next_level" 5 BKZ c4s,(by rw[EF];exact ON (GO p1 A0 (ACO d))),(by refine KeyOrd.klt_of_kle_of_klt (a1w T.sb z0 zA zB ?_ ?_) zC),(by have n:CB (BV A3I):=by have:=a1a qM k v;rw[iB b9i l]),(by rw[CK gT f.2.1 CE2 (ACY (A20 f) z0)]),∀b ps,VB b .tbl ps->∃more,zP b .tbl (ps++more),∀b,b∉ACA->GY z0->b∉zA,∀M,M∈ns->BT a ns z0->QG M,(by rw[EA F4 z0];rw[DO (zA T.sa T.sb) y zB x zC]),uF mF*bL+(-1)*(uF mF*gC),mergeAt' z0>>=λb=>A22 (A4C b) CMA (gD YS),jV "show_term" "many" "name" c4i,jV "_law_listed" "_law_texts" "_law_between" c4u,FH (AOZ getItem t sl),(by rw[z0];exact EO (AL _) _ (I.lnew (t':=s.toks) zA zB) (q _ I.fresh)),(by rw[LC];refine wpAny_Call_method_late z0 zA zB rfl (cE zC zD)),(show lo+(VW)-1-(lo+z0)=lo+(n-1-zA) by omega),MU ty y (QM td x (AVL o (BJV o) (A42 z0 H2))),(by .exact MW (sJ Nat.log2_lt (show(EY).natAbs≠0 by omega)) Int.natAbs_natCast z0),(by rw[YG (listUpdate_at f rfl ?_ FF) z0]),(by have e:z0:=x;show CDV zA;exact k a _ PX e),bC "first_steps" 2 "caps" b2M,bC "read_system" 10 "text" c4o,bC "_law_names" 3 "_law_pot_here" c4t,∀z0 H',zA->zB->CPY true->jU [p,af,aw]->CJS zC,(by have:X.A.in1.units=AN7:=rfl;rw[PR z0 f]),(by rw[YK e1 e2 hi hi]),kO "step_within" 6 ATC a7r,BG z0 K K k1 true (k2:=true) (a:=zA),∀v,assign (CBO o i) X.env v=(z0),(by refine JL codeAny_mono z0 r₂ s₂ hr₂),∀c:VK,RC c b H->te σ H c,q st' g h1 AG,z0 I b hi d r zA c,λc z0 r z=>CKA r j j,(by rw[rW j z0 (∃j,zA=c+j) (zB-c) (~~~c4O zC)]),⟨_,rfl,_,rfl,z0,_,zA,zB,zC,_,rfl,?_⟩,(by .show MK glued a []<=_;rw[DW glued_eq_join CH7 z0]),ALL (swapsWithSole ANW e pos.line X.env),setS_at E λo e=>q.heap S _ m e,(by rw[sM d.length];exact z0 ys trV .non),fin qM g _ z0 rfl zA zB y I h1 zC zD,f x c e z0 z,AL3 "caps" ca "rows" ra [],AA3 base CX0 DA f fd ps sp,∃u,us=[u]/\ZR,z0 z H' _ CJO s zA,(by rw[ZN z0 (vN (CEZ .cell) (CEZ .free)) q]),(by rw[gO];obtain⟨j,e'⟩:z0:=e;subst e'),JV (z0,na,at_,AVP,mg,k,BEU),∃xs:qJ,ys=xs.map V.int/\z0/\uN zA,(by exact List.mem_filterMap.mpr ⟨env,HV h1,h2⟩),IT H v (f j),(by refine wpAny_looks_onW (L:=X.env.locals) (QE z0 I1.ok.frames) zA zB λh4 zC zD=>?_),qM.map (·.1)=IK rss,AMO a (tR l e1 e2 (A07 a) l e1 z0),∀i z0 H,AMY->i<=zs.length->zA->zB,v.length=cs.length/\EQ v (eT B),∃xs,A4Q/\h.DictOfH (CFX P w) a xs,A1V F.slot_tuple_iterator_next z0 F.entry_tuple_iterator_next ?_ F.args_tuple_iterator_next_1,AA7 "show_terms" 2 ["names","numbers","alone"] b6d,AA7 "show_row" 3 ["names","row","side"] c4k,λ_ _ σ H _ I h=>z0,(by .obtain⟨b,r,p,z⟩:=z0;rw[CK b r zA z]),(by unfold z0;rw[Array.toList_append,Array.toList_append,a4D,a4D]),(by .rw[A2O q hq];rw[AV q hq z0]),b2q T m B g,HR "read_figures" 2 ["word","most"] c8n,(by rw[A33 a8e (c:=c) (n:=n) ASP]),VH (c0+1<=OJ+ib) b8V d,VH (c0+1<=ia+(ib+1)) b8p d,(by rw[PZ _ (TK Builtin.Tuple.tupleItemsOf t>>=_)];rw[WF z0 zA];rw[AR0];rw[BL (Y9 hs pl zB ?_)]),SyAt H a c rss cs,∀i x σ H,YY->ANL->A9Y (NZ g x) uE uE,(by .rw[AD h1 BKT h2 (lT l f z0)];exact d.eq (ADS zA)),V.str (nmF g st l k),(by rw[ABQ];rw[DN ?_ z0 (BS x d y b)]),(by obtain⟨f,hw,d⟩:=COS z0 (IU l c.val k)),(F7 (by show EY*1+0=_;rw[YJ (_=EY)])),(F7 (by rw[a4t,a2H,A46,z0,BBK zA i];rfl)),∀i j,rR->j<m->sN z0 zA,thn (XS b) λv s1 (TZ x a d c)=>z0,(by rw[A4T c j (I.lstM i)];obtain⟨z0,a,zA,zB,zC,e2⟩:=zD),(by refine(z0).stay zA CFY λ_ _ q=>q),∀v r H1 j,BIS->CON->IV->A3N (j (z0 r) H2)->zA,(by obtain⟨j,h1,h2,z0,zA,zB⟩:=zC;rw[iR w d zD h2];rw[AD f r.length B a0Y];rw[COP zE]),BG z0 k false ms [] zA KZ,forIn z0 true λc r=>ASB r zA (BE0 r),(by rw[ADA (V u (z0 z)) (O v hv)]),λb z=>absurd z (j b),BCW CO4 MR ia ML,AO7 "say_way" 6 BH9 (b6e C z0 zA),(by rw[ND z0 zA];obtain⟨a,xs,n,rfl,rfl,zB,zC,zD,zE,q⟩:=h),AEA z0 (c0c DR (AOO zA a) CH),BDA j o (j++o) z0 b.toArray,BDB (PU f e (AAY Q.2 b f e)) z0,Turn P w K (.Tuple es kt tp) z0 zA zB (λi h=>zC),AS4 V9 C1 C1 (b9f b c e g),KO JM (BJJ z0 zA) (λfin s'=>∃v,fin=CEA v/\BIB),W1 ((g c z)) x c e rfl,⟨_,rfl,z0,_,rfl,zA,rfl,KU zB,?_⟩,BAD base "way" 5 t7 (b6b z0),(by rw[LF codeAny_builtin PyProof.Rows.F.entry_set_update_loop];rw[CJZ PyProof.Rows.F.plain_set_update_loop];rw[PZ A.in1 (ANE I>>=_)];rw[BL z0]),loC a b out ia ib mg k bc,(by rw[DO (a5d (caps:=[z0,zA]) zB zC rfl (BKR H2 zD s2)) H2 p s2 zE]),(by have d:=z0 T.sa e2 (zA x e2);rw[vG zB d]),Off l H (upd H' p o),PY (∃p ys,xs=VY/\((z0/\∀l,A2Y->LV l (PQ H l ys))∨(zA/\jR H))),(by .rw[NA k' e z (J x _ t) k' e z0]),(by rw[ABN (E6 z0) i t rfl x t rfl]),.ListComp E (ARD t K) scope pos,(zH1 k1 s.heap a).objs.size,(h.swap.stepA hs e a).swap,wpAny_call_entry PyProof.Rows.slot_tuple_getitem z0 entry_tuple_getitem ?_ (BR args_tuple_getitem),x.above y c (PySem.mem_of_lookup h),(by have p:rest=[]:=KS List.eq_nil_of_length_eq_zero z0;subst p),g i vK (~~~b9B q p) (~~~c4S v),iO (cM 3 b1m) I p,xs=[.str z]/\CIR/\QG z.length,(by rw[ND b c];rw[WC i j rfl rfl q];rw[BIE];exact CPC s _ _ z0),(by .rw[ART (b2u T F i n g h1 h2)];cases r<;>exact f),BG Walks.list prog prog w w (A:=A.in1) z0,(by rw[CL z0 rfl zA zB a4A D];rw[BK4 hl zC s7 H6 zD L]),CG5 "_law_drawn_one" "_law_some" "_law_width" c8q,CG5 "_law_long" "_law_system" "_law_some" c8p,CGD FJ (BIT (C9B ys.length) e && xs.length==ys.length),CHF CB2 c0 aX kI,CHF CB3 CGG a.size b.size,(by rw[CHR];obtain⟨u,v⟩:=d;rw[CI7]),CHX H6 P6 z0 P6 (BIP (CHV (BI zA x1) zB)),(by rcases h with⟨h1,h2⟩|⟨h1,h2⟩),⟨o,es,ep,z0,d,r⟩,BLE (t':=s.toks) (ch:=ch) CKC z0 zA (λb u _ e n=>zB),Builtin.Builtins.bindParams "min" ["key","default"] 0 (MD []),z0 c o (fX I.cne) G h y CK9,(by have:=z0;rw[BIQ C d.length f.length r]),z0 c o gT CE2 (TV f) (ABW f) e,λi v=>∃e,DJ es e/\v=e.key,KC z0 qI zA CDL ((KC h1 Heap tk Nat (BD9) zB)) zC,SyAt H' a c rss cs,(by rw[AD z0 (LK zA hP hs hs) zB (Its.pot hI hP zC)]),a2Z (caps:=[]) (AQF (x*y)) z0 zA rfl (λx y H1 j _ zB _ q=>CQY (.inr (hs y zC))),(by rw[WC a b rfl hP k];rw[RP hz]),∀i,LG->∀{R:ATI},R (CA z0 i) st->pV CLS R st,(⟨p2,p3,_,_,rfl,rfl,CKX,A0,by rw[z0],BS p4 H4 W e4⟩),⟨false,p,_,rfl,KZ,GP z0⟩,(by rw[CL g C p N I.tuple l]),(by rw[ABN (E6 hv) j u rfl y u rfl]),(by .rw[AVN (BFE q (JY b)) uE (RO (xs.length-(AT)) CKQ b p')];rw[CHL σ q]),∀{binds:mX}{m:BA},(∀v,(x,v)∉binds)->z0=m x,(by rw[hJ z0 (upd O af (CC APE) zA) (CA .lst zB) (A5 zC) (A3Y zD)]),(by obtain⟨l,b,xs,zs,rfl,rfl,i,z0,zA,q⟩:=h),∀(z0:zA) (zB:zC) (s:qC) (Q:qI) (E:qI),zD,[(BE9,GG),(ABA,BK z0),(ABB,BK t),(ABC,BK zA)],SeqAt.EqAt z0 s y x (f j),(by rw[AU e e' e'];rw[d]at f;injection f with d1 _),ZM _ rfl _ rfl z0 _ rfl zA zB,(by obtain⟨p,z0,ns,rss,zA,rfl,hD,zB,zC,k⟩:=h),(by rw[CNQ (a7l (caps:=[AC y]) (λr=>z0) zA CKE hI rfl (λv r H1 zB zC m s1 q=>zD)) zE]),AT5 a b qE (vs=OG/\LP/\z0),⟨_,rfl,p,dx,_,rfl,t,VQ z0,?_⟩,AVZ z0 U.n1 AC8 tn rfl (KU zA) ?_,λx y H Q=>∃i j,A38 i/\y=.str j/\CB (i.length+j.length)/\A35 (i++j),(by rw[CQC (CDM S) (wpAny_seqItems C rfl ?_) (ANE I)]),CQZ (fnOf m qn ANA A0B),(by rw[List.pairwise_iff_getElem];intro i j hi z0 zA),⟨h.perm.trans List.perm_append_comm,h.sorted,h.rb,h.ra⟩,(by have Z:Inv j CN4 fY S s3:=I3.pins_of λp D=>z0),∀{x:z0},zA n λl=>P BGX,(by refine z0 λc f=>q c _ f ?_ ?_),(by have W:=z0;have zA:vs.toArray.size=vs.length:=List.size_toArray ..),(λg z0 b o e=>zA b o (λz=>by rw[WB,zB]at e;rw[CG]) CJV),(by unfold a0p;simp only[List.length_append,List.length_map,List.length_singleton]),⟨xs,zs,h,j,AG⟩,⟨⟨us,z0,zA,zB⟩,zC,FF,IU List.length_replicate b1n n7,ASH zD⟩,(by first|exact nobehind _ AK AK|rfl),~~~c4Y C S B Y,(by subst z0 hd;have zA:=r.length;have zB:0<zC:=by rw[vF zD List.length_pos_iff.mpr zE]),λ{i j} hi z0 zA e=>?_,(by cases k<;>obtain⟨o,q,r⟩:=x<;>exact z0),∀(a b:DC),a.Nodup->BT x a (x∈b)->u8 b.length,CH2 z0 D.l2z D.l2i1 hs₃.extBut D.l2TO,c1e lt qS key x,CQ7 ca af aw true,((∀(j:Nat) x v,BES->MA z0 v->zA)),z0 (λi=>p (xs.getD i d))=zA p,I.laid (a:=s.heap.objs.size) z0 (h':=zA) (t':=s.toks),(by refine wpAny_Try_except (kL (ZE z0 zA _ I h) (DV f s1 q) e s' q ?_)),(by have e:mV a ys ZH:=by rw[<-b];exact A8U glued_eq_join a [ZH]),(by have:=h _ (List.getElem_mem (h:=hj));rw[APU ADG z];simp at z),List.length_filter_le (λq:Int×Str=>A0A) (xs.zip ns),(by .exact wpS_pure (q st' d h1 h2 b)),IspPot K vs H Q E,a4w B2 z0 (a4w B2 A4 zA),(by .refine z0 z (zA (i:=zB) ?_);rw[<-zC];rw[CIG G];exact List.mem_of_getElem? G),HR "_law_way_due" 6 ["_law_system","_law_one"] c5B,HW (A9J PySem.W.emptyDict (PySem.W.instObj C s.heap.objs.size)),(EqV.at (n:=0) I z0 (by show AN7+0<cLine;exact b9h zA) zB zC),Goes rss xs now a e,(by rw[IR J4];rw[List.getElem?_map,ASQ];rw[vE h]),(by exact k _ z0 _ (B9I p8) zA (λx h=>BGJ (zB x h)) (p.same s8) zC),(by rw[EA z0 (zA λw hw=>kN w hw)];split),swappedStores ANW e X.env=pure none,PySem.seqSlot_of (T:="tuple") (name:=z0) zA zB PF,(by .rw[BHN]at h;have e:z0=j:=CJ2;rw[CK (IC zA e) AG zB zC]),λx y H Q=>∃i j,AUF/\uC j/\z0,λx y H Q=>∃a xs n,x=BF/\uC n/\A4E/\CJF/\z0/\ASG*n<=BJ sizeLine/\CL9 CF5,λx y H Q=>∃p xs i v,x=EZ/\uC i/\z0/\BIH i/\BHH,z0 (ATL).kindOf (ps.zip us) λ_=>none,PY ((∃i,xs=ATN/\QG i)∨∃k,xs=[.bl k]/\QG CL8),ObjOk P w H (h.push (aO "dict" .dict #[])) h.objs.size z0,z0 b a q n c d,(by have z0:vP:=λx hx=>⟨A26 zA hx,by rw[SD (b3c (λy zB=>AD8 zC zD) x hx) zE zF]⟩),.ListComp j (ARD f l) scope pos,(by rw[UO];refine wpAny_execs_cons (EW (ZE h1 z0 I h) f s1 q)),(by rw[cI (iV z xs CKG (AUX AVW))]),λx y H1 z0 _ _ s1 q=>zA,AKB base "take_all" 9 ["draft","lines"] (c4f C),(by rw[rW m rfl (∃m,nb=m+1) IX (~~~b9O h2)]),∀os:AQ,CEB->CHO->P (CEA .none) z0,(by rw[AA9 z0];obtain⟨zA,zB,_⟩:=c0s c d;rw[DN zC zD ?_];rw[m.trees];refine Calls.callWith_builtin rfl (Calls.evalArgs_plain (Calls.spliced_cons zE))),(by .obtain⟨o,es,ep,ho,r⟩:=z0;rw[CQF zA]),(z0 a o e).stay zA CFY λ_ _ q=>q,(by rw[A2O u f];rw[vB f];obtain⟨_,c,e'⟩:=z0),(by .rw[lP ys];rw[AF (TL List.take_of_length_le b8f g) B9W]),(by have e':CS=k:=h1.symm.trans e;have b:z0=AC DM:=by rw[zA]),thn (XS d) λv s1 (TZ x c g f)=>gQ z0 x v Q c g f,∀b o u,A0T AR7->XJ H' AR7,HR "take_number" 4 ["names","words","kept"] c8k,(by rw[lO PySem.F.slot_str_join CBZ PySem.F.entry_str_join PySem.F.args_str_join_2 (z0 a t p l zA) (GD zB)]),(by rintro i v ys H' hv ⟨s,rfl⟩;have hi:i<as.length:=by rw[<-g];exact LM hv),(by .obtain⟨p,ar,as,ac,ap,l,z0,zA,zB,rfl,_⟩:=h;rfl),(by rw[AE1 e' e' z0 e'];rw[nF];rw[EH (ACS zA (GO l zB zC))]),(by rintro x c z0 _ zA ⟨g,e1,m,zB⟩;rw[CI0 zC zD ?s1 ?f1 m zE ?p1]),(occurrences a b 0 a.length CBI).isEmpty,BDA b c (b++c) x.toNat items,vU (BG O1 vs (zN d.names.map) as d.names (caps:=[WA]) (λn=>z0)) (CN9 hnl) (ZK zA) zB,AEC (N1 H k2 z0 zA) (zB i hi).1 zC m a hb zD,(by rw[AS7 n];rw[BH4 q D n]),(by rw[e2,<-a5V f b r _ e,z0];rfl),a2R (BIC 5) mC (Q5 jaN),(by have y:N5 st d=z0:=by rw[EA N5 zA]),(by rw[CL B C p N I.list j]),HR "_law_lay_due" 9 ["_law_system","_law_one","_law_most"] c5D,(by have e':¬CS=k:=λz=>qY h1.trans;have b:z0 AE0 k=zA:=by rw[zB]),(by obtain⟨i,hi⟩:=List.mem_iff_getElem?.mp (p1.mem_iff.mp z0);obtain⟨r1,r2,zA⟩:=t4 i t hi;obtain⟨a0,zB,q2⟩:=zC;rw[AU zD zE zF]),(by rw[D2 o h1 h2 id z0];rw[AV o (AI g h1) h2]),(by rw[e]at e2;have g:AT9=z0:=e2),(by obtain⟨hi,_⟩:=CJH;rw[FQ b BGR d.length hi]),(by refine PyProof.Rows.SetOf_congr a (RB k) (JY c);rw[KB k x]),(by have z0:(toString "min" ++ toString ".loop" : String)="min.loop":=by decide),thn (z0 zA) λd zB ⟨z,j,l,zC,k,e,m⟩=>?_,(by have lst:∀{h:Heap},z0->BHF h.IsList:=λg=>zA),HR "pull_of" 1 ["rows","totals","j"] a8S,HR "is_line" 1 ["word","numbers","width"] c4w,(by show z0=_;unfold zA;exact zB (i:=i) (List.nodup_cons.mp nd).2 A2Z A30 a),AO7 "say_lay" 8 (lK "most" "one") (b6f C z0 zA),AO7 "say_by" 9 (lK "word" "numbers") (c4m C z0 zA),∀q zs H',BN->ACE q->fV zs W->AQQ,forIn [:sz] (YS:APA) λ_ _=>get>>=λg=>z0,(by rw[CI8 I.list I.list];rw[BP r d.length f.length]),λp' n=>AO k Y (bH S.trans s' n),(by obtain⟨l,g⟩:=st.en;have p:AND e "enumerate":=BE4;rw[BD7 z0]),H z0 e (λc o i zA p zB x=>zC) ⟨G,AO zD g d,f⟩,(((A0O=false/\o=.na)∨(vI/\z0/\o=.tm)∨(zA))),∃od,z0/\∀name,PySem.W.lookIn name od=CA mA name,∀r st',ALT r->RK->tK r,BG z0 base base P l.prog (w:=w) (KQ zA),(by refine BG PySem.W.callWith_K first OG h₀ X.base I.ok.mod.kin z0 zA zB zC),EX j y T e1 e2 K,(by rw[XY z0];rw[cA ⟨Code.quiet_builtin _ PF,CKF zA⟩];rw[Around.under_plain (weight_type_call_type zB zC zD) zE]),(by exact c7V rfl ha hx hl k),aY AO1 (λv s₁=>v9 BAF (λu s₂=>v9 z0 zA s₂) s₁),(by rw[z0];rw[EH (ACS zA (VX rfl 0 1 AG AG zB v))]),(by have key:∀x:Str,z0->HI (x.cps.toList.all λc=>GM zA)->zB:=λx h1 h2=>zC),(by .subst d;rw[AV8];refine z0 CJM hd dd.mapOf ?_;rw[CGO CF7]),(by rw[mW KJ (VX rfl o (2*o+1) (~~~b8l) (~~~b9k r) z0 t)]),(by rw[A33 congrArg COF h a1e];rw[FO (AH (show z0=_ from zA) CK1) zB]),((forIn [:n] (XX 0 1:BAS (qD AKU)) (FD c (A22 (OW ≥ z0) BFJ (CCT zA>>=λr=>zB)))>>=λc=>zC)),(by have hTO₂:CG0 h₂:=CG4 D.TOi1 D.TOz z0;rw[WF (ACL hTO₂) (CIY hTO₂ h₃ hTO₃ hs₃)]),⟨z0 a6E a6E d.h e.h f.h g⟩,(by rw[AVY YQ (TC ys.map) (AH K6 (O7 o q)) (zs=A3A i) (AH EJ YX)]),BLC ys AE (xs=VY/\SqK k K H p ys/\BGU ys.all/\Q (.bl (z0 trV)) H),LqE.rec (λi=>z0) (λn=>zA) (ZD a b (a+b)) (ZD a b (a-b)),c.h qL _ σ H1 _ Q (b.tok _) q,(by rw[WC n rfl h1 h2 k];rw[GS z0];rw[SF b]),BKY y ys ha hI hy z0 zA hs (BS v H1 s1 zB),BG EqV.flat K K H H (n:=0) (x:=z0) (y:=zA) rfl rfl,(by rw[CR5 l h2.ex j (CQN E j d) h.h]),CR6 x y v u (BEZ LO z0),(by refine⟨_,rfl,z0,_,rfl,zA,_,_,rfl,rfl,_,rfl,lD⟩),∀(X:Cx),ADY->ADZ->AS->ED->BLM i Nat E qI (AM->A1L AOP->CKT->z0),(by have ty:=D.typ;obtain⟨z0,e1,_,a⟩:=D),(by have tm:=z0;have zA:hY YN AEF:=λt zB=>gB tm zC;have tl:=B7V a8L),(by have J:=C.length;exact z0 (I.ok.hd D) st zA (BDQ N7 zB J) λh' G=>FN zC),λb u q n _ _=>z0,∃(o:Obj) (its:DI) (n:Nat),z0,∀i x z z0 H p,YY->DJ zs z->zA->RH->zB,(by .obtain⟨_,_,_,_,o,_,_,e,ex,_⟩:=CLQ;rw[AV o e ex]),(by rcases a0a r _ _ h with⟨d,e⟩|z),(let ⟨z0,b,zA,e1,e2,e3,e4⟩:=zB;⟨zC,b,zD,e1,e2,zE,zF⟩),(by obtain⟨⟨rest,e⟩,_⟩:=z0;have z:now=xs:=zA;rw[z,b2W]at e;rw[CG]),if 1+O<MV then 1+O else MV,power' sz (2*s1+n1) (2*s1+n1+n1+n) sz,BG M8 c 32 B 60 (ys:=z0) zA,(by .exact wpS_bind (z0 λr b hr g=>fin r b hr g)),(by rw[EF];refine GQ (c3W rfl rfl rfl z0 zA zB) HC sC),(a2U z0 a h0 (CCK ⟨hi,by have:=zA;exact a5A f hi this,λzB H' y=>by rw[zC]⟩)),(by have:=KeyOrd.kle_trans (a1w T.sa z0 zA zB (BDX (gN zC)) (BDX (gN zD))) hle;rw[tH KeyOrd.kle];rw[CNZ]),(by rw[FQ h2 (EI xs.zip ns<=xs.length) List.length_zip CD8]),KC w World h Heap (z0 w h) (BDF h),z0 t b vs.toArray a.toArray n p dd d,AKX [AL n,AL r,AL s,fS,EZ],(by rw[kH];have e:=CDB;rw[BGH (C rfl λz0 zA z f=>KeyOrd.kle_trans zB (zC z zD))]),HR "is_barred" 2 ["found","one","j"] a8U,BD9->(t8 (GL h1.get?) h'.get?)->AN8 h1.objs.size (pZ os.toArray c)->CEB->CHO->z0,(by rw[QL us rv];obtain⟨z0,zA,a1,rfl,zB,zC,hw,q⟩:=h;rw[cR ru rv.one ru]),M1 X o "get" qO e qN,∀{xs:AE}{us:AQ},ZG->ADT->z0,(by rw[WR P8 P7.same s8 o8 o7.trans s8.off]),λb o _ d _ e n=>mG z0 d AJ,tR t d r z0 t d.h r,M2 X o "get" qO e f qN,b0V XB i lx_TooMany I H F,(by rw[A9X];rw[ADM];rw[CI0 z0 zA ?s2 ?f2 h1 h2 ?p2]),z0 zA (.Raise (AC (pR (AKL np) IO qN)) none pos) (b5V C E t),(by rw[nE Z r r];refine BLA z0 zA zB zC rfl (EU (DX (EU zD))) _ (DGet.k (k:=Sum.inr x) zE);rw[a2M];have:=SG),⟨_,rfl,_,rfl,z0,zA,_,_,rfl,rfl,zB,zC,zD,zE,rfl,zF⟩,(by rw[show JP Builtin.Dict_items.ownsTuple "dict_keyiterator" by decide,CF Bool.false_ne_true];rw[XY (A19 (AA4 CDS))]),EqV X.K H n x y b,(by obtain⟨o,ho,f⟩:=z0;rw[CQW (UC ho f)];rw[cA (FN (zA (BS c o f zB)))]),(by obtain⟨G,d,f⟩:=t;have z0:AR5 zA:=zB;have g:e≠z:=FE (by subst x;rw[AU zC d d];simp at f)),b a A outer s H vs Q E z0 zA,(by rintro c st' ⟨g,r,e1,e2⟩;obtain⟨z0,zA⟩:=c;rw[A9X];rw[YA (AO q e2 g)]),(by refine a6s (m':=z0) zA (wpS_mono (t _ zB zC zD zE zF) λr f p=>CIE p)),aQ (rN k1 H' a xs.map ca/\rN k2 H' b ys.map z0),(by rw[BFW d];refine z0 (EW (ZE b Q I h) c s1 e)),(by unfold a2s;rw[A06 g];rcases CN6 with _|⟨s1,n1,z⟩),(by rw[A1B M L f r N M L]),(by rw[A1B G D f B L G D]),(by rw[A1B y t D g A y t]),(by rw[A1B A y D j B A y]),λH6 S ys hl D P6 f6 L=>?_,(by obtain⟨d,f⟩:=k i ys H (Nat.le_of_lt hi) p;rw[DN (BFE d cC) (~~~a5A j hi f) BB4];rw[CHL ys d]),(by obtain⟨d,f⟩:=k _ ys H BW p;rw[AV (AUQ d) (~~~b1u j f) ARS]),(by rw[CGB z0 wpAny_dictEntries];rw[CGB KJ wpAny_dictEpoch];rw[KJ];rw[ADI];dsimp only;rw[show zA by rw[CJ7,Int.toNat_natCast,zB hi]];dsimp only;rw[bO]),(by rw[CGJ 0 z0];rw[ATM (AA4 CDY)];rw[CF (show ¬(AA4 CDY)from Bool.false_ne_true)];rw[CGJ 1 zA];rw[PZ _ (CDM t>>=_)]),(by rw[CI8 I.tuple I.tuple];have:=ARQ z0 X.A (BF4 d.toArray p1) (show s.heap.IsTuple c f.toArray from p2) ARF ARL),λA i s Q E st h=>z0,(by obtain⟨z0,b,zA,f1,f2,zB,f4⟩:=TT.2 i _ zC;rw[AU zD f1 f1];rw[AV r1 q2 (AH f2 (G9 zE f4))]),(by simp only[sliceBounds,HT.sIx,Option.getD_none,B8E CJL,if_true];rw[lQ h 0]),h n st Kept.refl l b q,AMH DT QH/\DK DT/\DT≠X.env.locals/\DT∉X.fs/\CG6 (QH).data,HI (CJA==0 && PV==1 && (ANT-A97)==items.size),(by exact g i qL s1 σ H1 Q d e),(by have z0:=BG O.laid h' h' a h1.objs.size (o:=CC zA) zB k2 BW ⟨zC,os,c,zD,e⟩;refine EO (AL h1.objs.size) _ zE zF),(by .rw[NA j a e ((h.mem x).mp z0) j (YT b8n) e]),call_meets F.slot_int_rmul (AP0 s z0) F.entry_int_rmul (BR F.args_int_rmul_2) (a5b zA t a zB m dd sl) (GO zC zD ?_),(by exact⟨_,_,_,[],[],z0,AJ,AJ,A3V,λz=>AG⟩),(by rw[AW2 CEY CEY BGN (kS d) (BK d) g (AQK x' (DL d))];rw[A4F]),(by rw[ZP (CC A0R) z0];rw[JH e1 H p1 A0R p1 A0R];rw[AE2 (BBJ A0R) e1]),(by simp at h1 h2;subst h1;subst h2;show z0 kindOf BL2 m p=_;unfold zA;rw[zB λv b=>(List.nodup_cons.mp nd).1 (List.of_mem_zip b).1,zC];simp),(by obtain⟨a,n,r,t,c,p,us,rfl,e1,e2,e3,e4,e5⟩:=hS.ex),∀(w:World) (mg:BA) (fa:qE) (h:Heap),BDF h->AU6->z0,⟨_,rfl,p,_,_,_,rfl,rfl,A2X,a6r,_,rfl,z0,_,rfl,zA,zB,zC,?_⟩,(by intro A u v g m o;rw[mK m o];rw[BP c a b]),(by rw[CQP (CP9 z0 ec i _ s3) Z CNG zA]),wpAny_Dict_empty (EO TY _ (I.laid (a:=s.heap.objs.size) z0 (t':=s.toks) BIY BW zA) (h _ bR)),List.foldl (λb c=>b++c) qR.toArray (BH0 a.toArray)=A23 (qR++CM4),∀(qs:WQ) (d:Dr),BT q qs (COY (CBG CS))->(z0).Nodup->JR (zA+qs.length)->A4H (CN3 qs.map zB) zC,(by rw[List.mem_singleton.mp D];rw[EB a8 L CMU A ADP]),(by obtain⟨m,⟨o,es,ep,z0,r⟩,_⟩:=id I.loc;rw[uL sl zA]),∀{st':SortSt}{runs:nA}{rest:LJ},CFM->z0=sz,(by unfold z0;rw[Array.toList_append,Array.toList_append,a3E,a3E,Array.toList_reverse,List.drop_zero,List.drop_zero]),(by obtain⟨_,v,e2,m⟩:=p.mem c;rw[AU q e2 e2]),(by clear S6 S7 s7 e7 S U P8),(by rcases h with h|⟨t,zs,z0,e,h1,h2,zA⟩),V8 qS key qP base n a,(by .rw[AF List.length_replicate (bP (Nat.add_le_add_right (Nat.mul_le_mul (BER (m+1) 2001 b8v hm) (BER z0 9 b8Q n7)) 200) AK)]),CE outer P w H s Q u s',(by rw[AD w (N u p).len q (b0x t)]),kk _ _ (Int.emod_nonneg _ (~~~a3n hm0)) (Int.emod_lt_of_pos _ hm0) ⟨ne,r,_,_,_,A0,ID ne.symm z0⟩ zA,(by refine call_meetsIn PySem.F.slot_dict_get dd.typeIs PySem.F.entry_dict_get (BR PySem.F.args_dict_get_2) z0 zA;rw[l];exact CAK getD rfl),z0 a m g st l C d b H,(by rw[mY G z0 zA p];rw[AVR I (zB G) (E2 zC p) 3 3 zD];rw[CPQ B B]),(by rw[ABN (E6 hb) j u e y u e]),(by rw[AQD z0 CM9];rw[RX x e i d j];rw[DU c d d];cases i;rw[BH5]),(by obtain⟨dx,z0,r,s',c,q,us,e1,_⟩:=hD.ex),ATG v (SysAt H' v d.names d.rows d.sides d.capsL d.pricesL) kX,(by rw[BFW i];refine z0 (YI f c j);rw[ACZ H1 d j]),(by .obtain⟨its,r',pl,hz⟩:=z0 b;have a:=r'.length;exact zA zB (by simp only[List.size_toArray]<;>omega) (TN (BK ys.length) VI ⟨eV,IC List.size_toArray a⟩ q)),⟨_,rfl,_,rfl,p,C,dx,_,rfl,z0,U.cl,zA,zB,?_⟩,⟨I.ok,I.os,I.bare,⟨CGS,CGS,I.base.free,ACJ e l,I.base.tups,I.base.frzs,I.base.tbls⟩,z0,zA,I.free,I.freeC,A41 P,f ⟨zB,zC,zD⟩ hs,CJ I.len⟩,(by have:L=a:=a2C d l e m λv=>GI f v (fR n v);rw[UG];rw[AV (i.trans o.symm) (j.trans p.symm) rfl]),(by .rw[ART (b2r T i n g h1 h2)];cases r<;>exact f),(by rw[jT _ _ z0];rw[ATE (A1V slot_list_sort BE4 entry_list_sort (a1Q (s:=zA) g T2 hw zB λos k hs=>tW) args_list_sort)];obtain⟨c,zC⟩:=a1O (out:=os.toArray) g;rw[cA (DS zD)]),(by rw[BL0 _];rw[BDR y];refine ite_congr rfl A1E (CO (jO AUG _));rw[A06 g];rw[kY (A3M c) r]),(by rw[Bool.eq_iff_iff];simp only[Bool.and_eq_true,List.all_eq_true,List.mem_range,decide_eq_true_eq,beq_iff_eq];constructor),(by rw[List.getElem?_set_ne (Ne.symm hj)]at e2;obtain⟨S,R,q⟩:=W j y T e1 e2 K),BQ _ (∃(nt p:qE) (ns:AA) (xs:qJ),WH A3X EZ/\A4L/\z0/\OP/\xs.length=fE/\ZQ/\zA/\zB/\zC),nH M0 (tOp rNe (CAM "say" b2I E0 (J7 4) (J9 (tOp a2E z0 (BD4 a0e (v8 7))) K9)) (BD4 zA (J9 (J7 2) zB))),(by .refine⟨b.toList,r,z0,?_⟩;have e:=r.length;simp only[Array.length_toList]at e;exact b8h f e),(by refine z0 st zA (x:=u) (CJ L) λh' st' Q=>?_;have F:ASN:=zB;rw[CQG];rw[iD u (CQM (s:=VT) x F O (FN (λys M=>zC)) zD)]),(by obtain⟨m',hm,z0⟩:=AI hN zA;obtain⟨b1,b2,b3,b4,b5⟩:=back (pl:=[]) zB),∀(qL:CV) (s:qC) (σ:St) (H:Hp) (z0:zA) (zB:zC),AM->zD->zE,(by rw[AA8 JZ c (BJZ (d i v as[i] H' _ hv cC s) nD)];rw[CLO cC]),[MB,CEO,ADB,DL fi,DL st,DL gi,DE p9,DE p11,o8],b5R rfl S6.F a3 λsv zs a7 H7 s7 e7 S b5 hT=>?_,["enumerate","zip","dict_itemiterator","dict_reverseitemiterator","odict_iterator","itertools.zip_longest","itertools.pairwise"].contains,(z0 zA (COT zB []) zC (by show([]++_).Nodup;exact(I0 ns zD).nodup h.nm.nd) (b _)),(by obtain⟨z0,p1,p2⟩:=a2G (f:=CCQ t.1) hp zA;have O:=I.kept zB k1;have zC:hY zD (BKN/\IT H ANZ A2R/\K0 s.heap t.1=A2R):=λt zE=>zF),(by obtain⟨hf1,n⟩:=z0;have lv:=l f hf1;rw[DN ⟨lv.len,lv.nn,n,zA⟩ CNR zB]),(by .subst hj;rw[ACN hi];rw[AU (List.getElem?_set_self hiσ) e2 e2];rw[AV u r z0]),(by refine ON ⟨rfl,z0,zs,a9,A0,ID a7.symm zA,a4z zB zC uS,J,zD,zE,tU hv⟩),⟨xs,zs,ANG,zs[i],h,j,LZ z0,AT1⟩,∃v L z0 l,σ=[MB,DE za,JZ,DE n,L]/\zA/\BN/\A9G zB/\zC/\zD/\ABO AC7 l zE/\zF=l.length/\KW n (ALK l),z0 (CG2 sa sb) (CG2 sb (sb+n))>>=mgC sa,(by have e0':BDA p w (p++w) n.toNat d.toArray=AT3 n.toNat d:=e0),BG (BG a2T P P w w (l:=outer) (H:=z0)) H' zA h0 zB (h1:=zC) (h2:=zD),(by .have:=(z0 e i k r).same I (W0 c);rw[this,c];exact SeqAt.EqAt.same _),(by refine call_meetsIn PySem.F.slot_dict_get dd.typeIs PySem.F.entry_dict_get (tJ PySem.F.args_dict_get_3) z0 zA;rw[l];exact(c.val k).getD i),(by have c:=f.length;obtain⟨o,j,i,n,hd⟩:=z0;exact call_list_seq p zA j i hd (λh' c' kp e=>fin a f d h' c' kp e) (CMJ (N7 d c))),(by rw[AOG us r1 z0 d l (zA k)];rw[r1.length,l.length];rw[LF SeqAt.EqAt.of_refs c]),(by rw[nC z0 zA zB];obtain⟨a,p,ys,B,rfl,rfl,hs,zC,zD,zE,q⟩:=h),(by rw[gF S KZ p8 a6];rw[GA s8 s7.upd z0 a6];rw[NF e8 (upd H6 S zA) p8 zB p8 zC];generalize ASX H6 S zD p8 zE=H8 at s8 e8⊢),PySem.W.fnOf name qual c body scope G kV h pm an a ct,(by obtain⟨i,h1,h2,a,b⟩:=z0;rw[EB AT A2Z A30 a b]),(by rw[gX c f (ANH q)];rw[CJY];rw[OA (z0 qs zA (λr g=>h r (HV g)) BGS (by rw[BG3];show CJ9;exact b9c a)) List.append_assoc];rw[iB .cons (zB c (λz=>(List.nodup_append.mp b).2.2 _ z _ List.mem_cons_self rfl) (YT b8M) e f)]),∀i x ys H,YY->A3C->ARU (g x fY H) l h h m (c AT A3D m) (c AT ys h),(by rw[CL us W U zu I.sqk m];rw[CL ws B V zw I.sqk n]),(by rw[BLL g m q];dsimp only;refine BG b2w lo z0 hi zA d p mono neg zB (AD9 zC) zD zE h;rw[SC q]),∀{P:AA}{vs:AQ}{i:Nat}{m:BA},P.Nodup->OZ P->ABG->z0,z0 X rfl rfl rfl P i qL Q σ3 C X.xe O (p w) z zA,(by rw[EV (A8I 1 b7U b) (λp d=>⟨_,rfl,p,z0,n,rfl,rfl,A0,AJ,h1,?_,CQ3⟩)]),((List.range (min ns.length ms.length)).all (VZ z0) && ns.length==ms.length)=decide (ns=ms),(by refine AUW va 0 (FB v1) rfl sn _ rfl (UA v2) ?_;rw[List.length_map];rw[CW z0]),(by .subst d;rw[AVI f];refine z0 (tupleKind_room_in1 j) (a2m I.hok i) hd dd ?_;rw[AU3 CF7 Option.isSome_map];rw[CGO q]),(by rw[BLK l.held z0 zA zB];refine P0 zC r n zD ?_;rw[CP3 d Q m u];have O:eM σ1 (CAR c) (A1U Q):=CQ4 P m j.trans u;refine BJC ((zE p).h qL _ _ _ N (O.held p) CN1) COB),(by rw[ND c d];rw[RZ p xs rfl a b fs q];cases d;rcases a with a|a),(by .unfold a1f;refine jS (B8Z (B8Z (jS (AKE g))));generalize CQ9=o;rcases o with _|⟨a,b,o⟩<;>rfl),A92 {s with heap:=h',gens:=g',drawn:=d',toks:=t'},(by intro i v s' Q' E' hv hq;rw[ZN c (rY a) hv]),(⟨0,rfl,z0,y _ zA,CIN,ARG (by clear z l ex o e f v;congr 1;exact c5a h1 h2)⟩),(by intro i s D C hi f E B hR),(by obtain⟨_,e,l,t,k,h1,h2⟩:=h;rw[AVS];rw[AZ z0 zA]),(by obtain⟨⟨a5,ah,hs,h1,h2,h3,h4,h5⟩,_,_,_⟩:=id N),(by rintro i σ H' hi ⟨z0,zA,zB,rfl,c1,c2,zC,zD,zE,P',o'⟩),BBW ⟨_,_,rfl,rfl,z0,x,zA,ns,rss,zB,?_,(S.D).same s1,zC,zD,BS o H2 zE s2⟩,nB (∃(sep:Str) (p:qE) (ys:AA) (B:Nat),A38 sep/\AT0/\z0/\BI7 B/\ys.length*B+ys.length*sep.length<=16777216/\CB (BI3 sep)/\A35 (RG sep ys)),(by obtain⟨p,ar,as,ac,ap,l,ws,d,z0,zA,zB,zC,zD,zE,k⟩:=h),(by rw[AQD wpAny_Call_Name_kw (a3w I i j l ?_ k a)];exact z0 (BL3 o n m (gQ f vs o Q c n m)) g b),(by rw[jQ Q d];refine z0 (thn (AMR h pos d) λf s1 ⟨xs,H1,a,r,z,q⟩=>GD (BHO z));have c:AD5 s1.heap.objs.size:=CDU;refine EO (AL s1.heap.objs.size) zA (a.laid (t':=s1.toks) (GR u fO) BW ?_) (q _ c)),(by .obtain⟨d,m,pl,j⟩:=z0 z;obtain⟨o,L,J,n,hd⟩:=zA;have g:=m.length;rw[CK d m j (λE F C k=>wpAny_collect_seq p zB L J hd (λh' k'=>k h' k') (by simp only[List.size_toArray];exact N7 j g))]),JN (XW (names.map λAQL=>if (k==NameKind.free && env.scope.kind==.function && CJD==CIK)then(n,NameKind.cell)else AQL)) k,(by .rw[CJJ O4];rw[<-p2,List.pairwise_map]at hs;rw[CMY hx hy A];rw[z0,zA]at A;exact A),(by rw[LC];refine wpAny_Call_method m.base m.few m.line PySem.F.plainAttrs_dict PySem.F.slot_dict_get PySem.F.type_dict_get (YI z0 u zA);obtain⟨x,H1,c,zB,a,ex,d,zC⟩:=zD),(by rw[ASY];refine z0;rw[RX x c k j m];obtain⟨a,e,⟨xs,zA⟩,q⟩:=j;rw[DG];cases k;rw[CL zB r p n zC zD]),(by exact⟨_,_,qM,g,rfl,z0,zA,y,I,h1,h2,a0 g (FD z z) zB,~~~b7Z B,λm e=>by have:=O m e;exact b9C this⟩),(by rintro i v ys H' hv ⟨h1,h2,P',o'⟩;rw[CQQ JZ (f v H' _ P') z0]),⟨_,rfl,p,C,dx,_,_,rfl,z0,U.cl,zA,rfl,_,rfl,zB,_,zC,zD,zE,rfl,zF,zG,zH⟩,(by .obtain⟨_,hd,z0,_,dd⟩:=zA;rw[DN dd.typeIs CKD hd];cases q;obtain⟨c,_,_,h1,h2,_⟩:=dd;rw[AV c h1 CD9]),BQ _ (∃(p ar as ac ap l:qE) (z0:zA) (d d':Dr),zB),(by obtain⟨_,xs,rfl,⟨a,rfl,ha⟩,hx,hl,k⟩:=h;rw[GS (A4N (kB z0 (AE8 NB)))]),∃f oc od sl kV dc pm an cd ct,z0,(by rw[OK (List.nodup_cons.mp e)];have c:=vR;rw[OA (z0 a (b.erase x) h2 λy d=>sJ List.mem_erase_of_ne (λz:y=x=>h1 (z ▸ d)) (h y CJ5)) (List.length_erase_of_mem c)];have:=List.length_pos_of_mem c;rw[PM List.length_cons]),(by rw[bO];simp only[newExc,newTuple];rw[BL (wpAny_newObj_type ?_ CCZ)];refine wpAny_bind (m:=BR firstArgMember) (wpAny_of_eq (a:=Value.none) (by first|rfl | (rw[AS9 firstArgMember])) ?_);refine wpAny_newObj_type ?_ CCZ;simp only[raiseNew];rw[MC wpAny_handled]),(by rw[A39 z 2];rw[MC z0];rw[A39 z 3];rw[A36 zA (ACL zB)];rw[sH (TK Builtin.SmallTypes.ownedTupleIsFree z)];rw[CR0 zC];simp only[if_true];rw[MC wpAny_rule];rw[A36 zD (AVB zE h₁ hz₁ hs₁)];replace hz₁:AR5 h₁:=hz₁;rw[bO];simp only[List.zipIdx_cons,List.zipIdx_nil,List.forIn_cons,List.forIn_nil];rw[BL CEE]),(by rw[A1B m l p c q m l];rw[A3O d f g j c]),(by rw[A1B q p u g a q p];rw[A3O j l m n g];have a:z0:=a),∀(i:Nat) (v:V) (x:α) (H1:Hp) (e:VK),ABG->OZ as->IV->A3N (e (f x) H2)->te AB9 H1 e,(by rw[cQ ⟨_,rfl,true,C,xs,rfl,AQ2 g,_,_,rfl,rfl,_,rfl,?_⟩]),(by obtain⟨nt,p,ns,xs,rfl,hn,hp,hN,hl,hnl,z0,hwl,k⟩:=h),⟨_,rfl,p,C,dx,_,_,rfl,e1,U.cl,U.n2,rfl,_,rfl,r,z0,us,rss,xs,rfl,e3,e4,zA,AOD,zB,zC,BJ3⟩,(by obtain⟨σ3,a,i,l⟩:=g;rw[A3R k m (p σ3 a l)];rw[NG k j σ3 a i m]),(by obtain⟨z,y,z0,r,g,es,ep,e,c⟩:=x;exact⟨z,y,zA,zB,g,es,ep,cS,c⟩),(by intro j h t p c u T y g n C),(by rw[jY];have q:=z0 c d;subst q;simp only[Nat.min_self,Bool.and_eq_true,beq_self_eq_true,and_true,List.all_eq_true,List.mem_range];intro j a;exact f j _ _ AB4 AB4 rfl),(by rw[CL z0 f1 f2 zA id I];obtain⟨od,e1,e2,e⟩:=D;rw[BD7 (COZ ALF I.typeIs PySem.F.slot_dict_keyiterator_next PySem.F.slot_dict_keyiterator_next I.typeIs PySem.F.entry_dict_keyiterator_next PySem.F.args_dict_keyiterator_next_1)]),(by rw[AAB ex w (G8 r1 h1')];obtain⟨y,q,z⟩:=G8 l f;exact t j x y ex q (VH (AO6 (A.units+1)) b8X g) w z),(by have g:DJ ys ys[i]:=CJ1;rw[D2 y e1 e2 d.get g];rw[ACN c];rw[EC a3L e2 (BKP m b)];rw[BGB g hq]),(by rw[ND o p];obtain⟨n,b,B,i,⟨a,c,rfl,rfl⟩,q⟩:=h;rw[mK o p];rw[PZ _ (richCompare z0 BF fS)];have key:zA X.A s BF fS zB:=zC),(by rw[LC];refine thn (XS hi) λq s1 (TZ y b n k)=>A4J e b k u p;rw[CR2 x m j];exact z0 f c g n λr d=>EO (.bl zA) H2 d l),(by rw[CM5 kind_sorted plain_sorted entry_sorted args_sorted1];rw[CNV Builtin.«sorted» (checkCount "sorted" 1 1 _)];rw[WF z0 (wpAny_newList ?_ AG)];have g:(h1.push ALS).get? h1.objs.size=AC ALS:=IW;have d:CP2 s.heap BAZ:=λb a (UC zA zB)=>UC (QX (AI k1 zC)) zD;have T2:=T.keeps d;rw[CQB f h1.push ALS zE zF]),(by rw[QL x t];rw[RZ k p ys rfl hs m q];rw[DU u r t.one];cases r;rw[CL a d f w I.sqk hs];rw[BJP n (I.ok.hd j)];rw[BK7 z0 f ⟨s.heap.objs.size,_,_,_,_,_,BL6,rfl,CI6 a.toArray n f,a8j f,?_,DV h' tk o⟩]),∀(h:Heap) (tk:Nat) (i j:Nat) (z0 zA:qB) (Q E:qI),zB->DJ vs zC->MA vs zD->AQ0 (zE i j) (A9Q h)->FV JM A.in1 zF Q E (A9Q h),(by .rw[AT8 (AVO EY)];refine a9W (caps:=[MB]) (λu=>AVF BH8) AUJ rfl P3 (CHX r p z0 p (CHV AG zA)) λr W ys Z a7 p G J=>?_;obtain⟨xs,rfl,l,d⟩:=M Z a7;rw[CK W _ rfl (zL KZ (tup J l d p G))]),(by obtain⟨it,fp,tn,J,H2,e,z0,T,zA,f2,W,⟨m0,w0⟩,zB⟩:=h2;rw[DG]),(by rintro x c st' _ H ⟨rfl,l,o,rfl,f,r,g,m⟩;dsimp only;by_cases b:o ≥ z0),(by obtain⟨p,ra,ca,af,aw,b,L,F,W,rfl,D,k⟩:=h;rw[AW3 z0 zA zB zC zD zE tZ];rw[GS zF]),(by rw[cI ⟨_,rfl,_,rfl,p,_,_,_,rfl,rfl,A2X,z0,_,rfl,nt,_,rfl,BHV,rfl,Z8 ns,?_⟩];rw[a8k,zA]),∀(a:qB) (A:Around) (outer:HL) (s:qC) (H:Hp) (vs:AE) (Q:VK) (E:XK),BB5 qual fD z0,⟨ok.mod,ok.kind,ok.glob,ok.blt,ok.above,ok.inj,ok.has,ok.cab,ok.hd,ok.frames,ok.stk,ok.exf,ok.bs,ok.bsz,ok.noex,ok.exfs,ok.funs,ok.frf⟩,∃nm q N bs bm hdct sn sub ab col dd k0 k1 k2 k3 k5 qQ,AA1 C CGW/\BIM/\z0,(by have ap:A2K A2H (a≠c/\GY c):=λc f=>⟨I.apart (o:=default) m CG9,I.apart (o:=default) n CG9⟩;have J:CPD g j a b:=⟨D.TIz,D.TOz,D.i1z,D.i2z,D.TITO,D.TIi1,D.TIi2,D.TOi1,D.TOi2,D.i12,AOH z,AOH TO,AOH g,AOH j,AOI z,AOI TO,AOI g,AOI j⟩;obtain⟨ua,ub,p⟩:=st.to;have C:AND z "zip":=PN st.zz;rw[BD7 z0]),∀(qL:CV) (s:qC) (σ:St) (H:Hp) (x:V) (xs:AE) (v:qB) (us:AQ) (Q:VK),BEZ ZG z0,(by rw[BLH ⟨_,hi,p,dx,_,rfl,g1,YO z0,p,ra,ca,af,aw,b,L,F,W,rfl,D,k⟩]),(by refine BL9;rw[List.map_cons,a1H];rw[ZP CCA j];refine⟨_,rfl,p,C,dx,_,_,rfl,HZ t,U.cl,z0,zA,tn,p1,zB,_,_,_,_,rfl,HZ M,A0,zC,u,r,h1,h2,q,BLD e2 ((D.same s1).putK zD c rfl rfl rfl zE zF) (by rw[CJW];unfold L5;simp)⟩),⟨rfl,_,rfl,p,C,dx,_,_,rfl,z0,U.cl,U.n2,rfl,_,rfl,r,z,us,rss,xs,rfl,zA,zB,zC,AOD,CQH,F,zD⟩]
local macro_rules|`(~~~$t)=>`(by exact $t)
abbrev LLI:=List (List Int)
noncomputable section
inductive LqE where
 |v (i:Nat)|k (n:Nat)|a (x y:LqE)|s (x y:LqE)|m (n:Nat) (y:LqE)|t (y:LqE) (n:Nat)|n (x y:LqE)|x (x y:LqE)|c (x:LqE)|g (x:LqE)
inductive LqR where
 |r (z:Bool) (o:Nat) (x y:LqE)|no (f:LqR)|F
def c2V{α:Type}(d:α)(l:pP α):VF α:=List.rec (CO ((λ_:OQ->OQ=>d) λl=>l.mergeSort)) (λx _ f i=>Nat.rec x (λj _=>f j) i) l
def J8(ns:OQ)(e:LqE):Nat:=EJZ (c2V 0 ns i) n (E99 n) (λ_ n a=>a*n) (ZD a b (min a b)) (ZD a b (max a b)) D22 D22 e
def a8d(ns:OQ)(zs:CP)(e:LqE):Int:=EJZ (c2V 0 zs i) EY (E99 EY) (λ_ n a=>a*EY) DTJ DTJ (λx _=>ER lI) (λ_ a => - a) e
/---/def b4D(ns:OQ)(zs:CP):WJ LqR
 |A10 true 0=>B0Q<=BSQ
 |A10 true 1=>B0Q<BSQ
 |.r true _ x y=>B0Q=BSQ
 |D26 0=>DKP
 |D26 1=>DKT
 |.r false _ x y=>E9L
 |AYQ=>¬B2S
 |.F=>False
/---/def G1:CP->(HN)->Int
 |[],_=>0
 |dY,ρ=>a*ρ 0+G1 l (VZ (ρ JC))
/---/def a3t:CP->CP->CP
 |[],m=>m
 |dY,[]=>dY
 |dY,b::m=>(a+b)::a3t l m
/---/def a9v(k:Int)(l:CP):CP:=l.map (k*·)
/---/def a0F(l m:CP):CP:=a3t l (a9v (-1) m)
/---/def b7N(j:Nat):CP:=List.replicate j 0++[1]
theorem N8:∀(l m:CP) (ρ:HN),G1 (a3t l m) ρ=ABM+C27
 |[],m,ρ=>(fR Int.zero_add _)
 |dY,[],ρ=>(fR Int.add_zero _)
 |dY,b::m,ρ=>by rw[a3t,G1,G1,G1,N8 l m,Int.add_mul];omega
theorem a0r(k:Int):∀(l:CP) (ρ:HN),G1 (a9v k l) ρ=k*ABM
 |[],ρ=>(fR Int.mul_zero _)
 |dY,ρ=>by rw[a9v,List.map_cons,G1,G1,Int.mul_add,<-a0r k l,Int.mul_assoc];rfl
theorem G4(l m:CP)(ρ:HN):G1 (a0F l m) ρ=ABM-C27:=by rw[a0F,N8,a0r];omega
theorem a4t:A4U j ρ HN (DZ9 ρ=ρ j)
 |0,ρ=>A98 (1*ρ 0+0=_)
 |JC,ρ=>by show 0*ρ 0+DZ9 _=_;rw[PM (a4t j)]
def a2H(ns:OQ)(zs:CP)(j:Nat):Int:=BA8 (j=0) (if j % 2=1 then ER (c2V 0 ns (j / 2))else c2V 0 zs (j / 2-1))
abbrev LqA:=pP (LLI×CP)
/---/def b1J(f:DIW)(p q:LqA):LqA:=p.flatMap λx=>q.flatMap λy=>(f bW y.2).map λz=>(HH++cF++ZH,z.2)
/---/def a6G(f:DKJ)(p:LqA):LqA:=p.map λx=>(HH,f bW)
/---/def Z3:DKG
 |AG0=>(tN DSA)
 |A4B=>D2J
 |AGB=>BKU DRJ
 |AGC=>BKU [([A4K],A4K),kT [AV4]]
 |AJF=>DDJ
 |AJG=>DDJ
 |BPZ=>DYJ p q
 |BQ0=>DYJ q p
 |.c _=>B0P
 |.g _=>B0P
/---/def a2J:DKG
 |AG0=>(tN (b7N (2*i+2)))
 |A4B=>D2J
 |AGB=>DUR DRJ
 |AGC=>DUR (tN A4K)
 |AJF=>DDK
 |AJG=>DDK
 |CT9=>B0P
 |CTA=>B0P
 |.c x=>Z3 x
 |.g x=>a6G (a9v (-1)) (a2J x)
/---/def a1o(ρ:HN)(p:LqA)(i:Int):Prop:=∃x∈p,BT l HH AXA/\ACF bW
theorem F7{ρ:HN}{l:CP}{i:Int}(h:BVG):B55 (tN l):=(UB AWZ ((B4F)) h)
theorem a0V{ρ:HN}{f:DKJ}{p:LqA}{i j:Int}(h:B55 p)(a:∀l,BVG->G1 (f l) ρ=j):a1o ρ (a6G f p) j :=
 let ⟨x,hx,h1,h2⟩:=h;(UB (yJ x hx) h1 (a _ h2))
theorem Z2{ρ:HN}{f:DIW}{p q:LqA}{i j k:Int}(h:B55 p)(h':a1o ρ q j)(g:∀l m,BVG->G1 m ρ=j->a1o ρ (f l m) k):a1o ρ (b1J f p q) k:=by
 rw[bX x n h1 h2];obtain⟨y,o,b,c⟩:=h';obtain⟨z,r,d,e⟩:=AO g h2 c;refine UB (AGQ x n (AGQ y o (yJ z r))) (BB l a) e;rw[BXV]
 .rw[BXV]
  .exact h1 l a
  .exact b l a
 .exact d l a
theorem a3s{ρ:HN}{l m p q:CP}{i:Int}(h:(AXA/\ACF p)∨(0<=C27/\ACF q)):B55 [([l],p),([m],q)]:=by
 rw[EFQ]
 .rw[CK _ List.mem_cons_self (BSN h1) h2]
 .rw[CK _ BOB (BSN h1) h2]
theorem O8(ns:OQ)(zs:CP):E6G (Z3 e) (BJ (J8 ns e))
 |AG0=>EEB AFJ ((2*i+1) / 2)
 |A4B=>EEA
 |AGB=>(ARX O8 AQS DJ9)
 |AGC=>(C7P (_=ER DKO) (NW=ER DKO))
 |AJF=>(AK4 AQS DQ5)
 |AJG=>(AK4 AQS E5U)
 |BPZ=>C7P DDV DDV
 |BQ0=>C7P DDW DDW
 |.c _=>AWY
 |.g _=>AWY
theorem a0W(ns:OQ)(zs:CP):E6G (a2J e) DCY
 |AG0=>EEB A46 ((2*i+2) / 2-1)
 |A4B=>EEA
 |AGB=>(ARX a0W B0I DJ9)
 |AGC=>(ARX a0W B0I (CNW G4))
 |AJF=>(AK4 B0I DQ5)
 |AJG=>(AK4 B0I E5U)
 |CT9=>AWY
 |CTA=>AWY
 |.c x=>AM7 O8
 |.g x=>AK4 (AM7 a0W) (by rw[a0r,h];rw[YJ (_ = - B0Q)])
/---/def c8U(z:Bool)(o:Nat)(p q:CP):AFS :=
 match z,o with
 |true,0=>[[AV4]]
 |true,1=>[[B6E q p]]
 |true,_=>[[AV4,A4K]]
 |false,0=>[[B6E p q]]
 |false,1=>[[A4K]]
 |false,_=>[[B6E q p],[B6E p q]]
/---/def c6R(z:Bool)(e:LqE):LqA:=if z then a2J e else Z3 e
/---/def c2W(b:Bool):LqR->AFS
 |C1V=>DZC x λp=>DZC y λq=>FC (c8U b o QH DM) (p.1++q.1++·)
 |AYQ=>c2W (! b) f
 |.F=>if b then[] else[[]]
/---/def a4p(ρ:HN)(c:LLI):Prop:=∀l∈c,AXA
def c6O(ns:OQ)(zs:CP)(z:Bool)(e:LqE):Int:=if z then DCY else J8 ns e
/---/def b9Q(o:Nat)(i j:Int):Prop:=match o with|0=>rR|1=>i<j|_=>i=j
theorem b9P{ns zs z o x y}:BCK C1V↔b9Q o (BY0 x) (BY0 y):=by
 match z,o with
 |true,0=>rw[BLZ]
 |true,1=>rw[BLZ]
 |true,_+2=>rw[BLZ]
 |false,0=>rw[YJ (DKP↔BJ lI<=BJ A1H)]
 |false,1=>rw[YJ (DKT↔BJ lI<CSY)]
 |false,_+2=>rw[YJ (E9L↔BJ lI=CSY)]
theorem a3r{ρ:HN}{l:CP}(h:AXA):AIZ [l]:=BSN h
theorem a4u{ρ:HN}(h:B5F):G1 [-1] ρ = -1:=by show -1*ρ 0+0 = -1;rw[h];rfl
theorem c2X{ρ:HN}(h0:B5F){b:Bool}{o:Nat}{p q:CP}{i j:Int}(hp:ACF p)(d:G1 q ρ=j)(h:if b then DSG else ¬DSG):∃c∈c8U b o p q,a4p ρ c:=by
 match b,o,h with
 |true,0,h=>rw[AHA (a3r (by have h:rR:=h;rw[PM G4]))]
 |true,1,h=>rw[AHA (a3r (by have h:i<j:=h;rw[BL5]))]
 |true,_+2,h =>
  have h:i=j:=h;rw[AHA (λl a=>by
   rw[oX]
   .rw[PM G4]
   .rw[A2W,G4];omega)]
 |false,0,h=>rw[AHA (a3r (by have h:¬rR:=h;rw[BL5]))]
 |false,1,h=>rw[AHA (a3r (by have h:¬i<j:=h;rw[PM G4]))]
 |false,_+2,h =>
  have h:¬i=j:=h;rw[lQ z j]
  rw[DBJ List.mem_cons_self]
  rw[DBJ BOB]
theorem a9z(ns:OQ)(zs:CP)(z:Bool)(e:LqE):a1o AE7 (c6R z e) (BY0 e):=by
 cases z
 .exact BJQ O8
 .exact BJQ a0W
theorem a2I{ρ:HN}{c d:LLI}(h:a4p ρ c)(h':AIZ d):AIZ (c++d):=λl a=>DWD (h l) (h' l)
theorem a4s(ns:OQ)(zs:CP):KC b Bool f LqR (MM b B2S (¬B2S)) (∃c∈c2W b f,a4p AE7 c)
 |b,C1V,h=>by
  obtain⟨p,i,h1,h2⟩:=DA0 x;obtain⟨q,j,a,d⟩:=DA0 y;rw[ACZ c g (c2X (b:=b) (o:=o) rfl h2 d (by rw[b9P]at h;exact h))];exact EM (AGQ p i (AGQ q j (yJ c g))) (a2I (a2I h1 a) e)
 |true,AYQ,h=>a4s ns zs false f h
 |false,AYQ,h=>a4s ns zs true f (Classical.not_not.mp h)
 |true,.F,h=>h.elim
 |false,.F,_=>⟨[],AWZ,B4F⟩
/---/def c6Q:A49->LqR->AFS
 |[],g=>c2W false g
 |BX4,g=>(c2W true f).flatMap λc=>(c6Q fs g).map (c++·)
/---/def b2n:DAX OQ
 |0,P=>P []
 |FJ,P=>EGS Nat b2n
/---/def b2m:DAX CP
 |0,P=>P []
 |FJ,P=>EGS Int b2m
theorem b9T{P:WJ OQ}(h:DLA):∀n,b2n n P
 |0=>h []
 |FJ=>DO4 b9T
theorem b9S{P:WJ CP}(h:DLA):∀n,b2m n P
 |0=>h []
 |FJ=>DO4 b9S
/---/def K1:Nat->Nat->pP LqE->A49->DEF
 |0,c,_,rs=>(c,rs)
 |f+1,c,st,rs =>
  match A2C,st with
  |0,_=>(kA,rs)
  |1,st=>E4L BSS
  |2,D1E=>E4L (n*28+BSS)
  |3,dG=>eE AGB
  |4,dG=>eE AGC
  |5,y::D1E=>eE AJF
  |5,A4B::y::st=>eE AJG
  |6,dG=>eE BPZ
  |7,dG=>eE BQ0
  |8,ALW=>eE (.c x)
  |9,ALW=>eE (.g x)
  |10,dG=>BWQ 0
  |11,dG=>BWQ 1
  |12,dG=>BWQ 2
  |13,dG=>BWP 0
  |14,dG=>BWP 1
  |15,dG=>BWP 2
  |16,st=>(match rs with|AZT=>AOK (.no r) | []=>(kT c))
  |17,st=>AOK .F
  |18,ALW=>eE (.a x (.k 1))
  |i+19,st=>eE AG0
  |_,_=>(kT c)
/---/def c5c(c:Nat):DEF:=K1 99 (if DEA then kA else CJR) [] []
/---/def c2R(c:Nat):A49×LqR:=match (c5c c).2 with|g::fs=>(fs.reverse,g) | []=>([],.F)
/---/def c2S(rows:LLI):VF (Nat->CP->CP×Nat)
 |0,c,s=>(s,c)
 |f+1,c,s=>if A2C=0 then(s,kA)else c2S rows f kA (a3t s (rows.getD CTX []))
/---/def c6P:A0Q CP
 |[]=>false
 |dY=>VM a 0 && l.all (· == 0)
/---/def c2T(a9u:LLI):AAT AFS Nat
 |[],_=>true
 |AZT,c=>let p:=c2S (r++a9u) 99 c [];c6P (if A2C=0 then r.foldl a3t [] else DT) && c2T a9u rs QH
/---/def a9u(n:Nat):LLI:=AQV DSA
/---/def c5d(c:Nat):Bool:=c2T (DKF a9u) (c6Q DFJ DGE) (c5c c).1
theorem c2Q(ns:OQ)(zs:CP)(n:Nat):a4p AE7 (a9u n):=λl a=>by
 rw[lR i A43];rw[a4t,a2H,A46,AFJ];exact Int.natCast_nonneg _
theorem b3e{ρ:HN}{rows:LLI}(h:AIZ rows):∀(f c:Nat) (s:CP),E3B->0<=G1 (c2S rows f c s).1 ρ
 |0,_,_,hs=>hs
 |f+1,c,s,hs=>by
  rw[c2S];split
  .exact hs
  .refine b3e h f _ _ ?_;rw[N8];rw[LF Int.add_nonneg hs];rw[List.getD_eq_getElem?_getD];cases e:rows[CTX]? with
   |none=>exact Int.le_refl 0
   |some l=>exact h l (List.mem_of_getElem? e)
theorem b3h{ρ:HN}:∀(r:LLI),DR9->∀s,E3B->0<=G1 (r.foldl a3t s) ρ
 |[],_,_,h=>h
 |l::r,o,s,h=>b3h r (λx a=>o x AB7) _ (AH N8 (Int.add_nonneg h (o l List.mem_cons_self)))
theorem b9R:KC l CP ρ HN (EG l.all ((· == 0))) (G1 l ρ=0)
 |[],_,_=>rfl
 |dY,ρ,h=>by
  rw[List.all_cons,Bool.and_eq_true,beq_iff_eq]at h;rw[G1,CD,E3U,Int.zero_mul];rfl
theorem c2U{ρ:HN}(h0:B5F):∀l,EG c6P l->ABM<0
 |[],h=>tG
 |dY,h=>by
  rw[c6P,Bool.and_eq_true,decide_eq_true_eq]at h;rw[G1,h0,E3U];omega
theorem b3g{ρ:HN}(h0:B5F){a9u:LLI}(b:AIZ a9u):KC d AFS c Nat (AY (c2T a9u d c)) (qW d (¬DR9))
 |AZT,c,h,x,a,o=>by
  rw[c2T,Bool.and_eq_true]at h;rw[oX]
  .have h1:=c2U h0 _ CD;split at h1
   .rw[KA (b3h _ o [] (Int.le_refl 0))]
   .rw[KA (b3e (a2I o b) 99 c [] (Int.le_refl 0))]
  .exact b3g h0 b rs _ EJ x a o
/---/def c1i(c:Nat)(ns:OQ)(zs:CP):EN A49 LqR
 |[],g=>∀(_:DNF:=by rw[pS]),BCK g
 |BX4,g=>B2S->E0U
/---/def c9e(c:Nat):Prop:=DKF b2n λns=>b2m (if DEA then 0 else BSS) λzs=>c1i c ns zs DFJ DGE
theorem a9y(c:Nat)(ns:OQ)(zs:CP):KC fs A49 g LqR ((DNF->∀l∈c6Q fs g,¬a4p AE7 l)) E0U
 |[],g,h=>λe=>Classical.byContradiction λn=>let ⟨l,hl,o⟩:=a4s ns zs false g n;h e l hl o
 |BX4,g,h=>λa=>let ⟨l,hl,o⟩:=a4s ns zs true f a
  a9y c ns zs fs g λe d hd o'=>h e _ (AGQ l hl (yJ d hd)) (a2I o o')
theorem lq(c:Nat):c9e c :=
 b9T (λa=>b9S (λzs=>a9y c a zs _ _ λh=>b3g rfl (c2Q a zs _) _ _ h) _) _
def c8T:=AB 0x8684bb0636922db39563722fa610b2c42deee882325fde598703a356224e39f8055f80da782c0d7
def a9x:=AB 0xa4ba10f8b9aaa23fe6745df3696
def b9B:=AB 0x40c03c4e71f96fe215312af5b915bbd6
def c5b:=AB 0x1165b1b3ce034b06367ef41c7896aedeb826db0b5a84e01b6d7
def c5a:=AB 0x142fcd33c82b7d025b28e69ffdb926a9ec46219f34927368264b6fec1e3085d7
def a9w:=AB 0x7b1059a48b54dd5c1017
def b8Z:=AB 0x4651e1a7f355be02396
def c4Z:=AB 0x39284eb56472d89d7
def c4Y:=AB 0x82909b1bf94efd60bce181690b8db1a
def c4X:=AB 0x8cf0de420ea427dbcfbe9eea359306f49a480092148447f68
def c4W:=AB 0xa271fecaa534fa5b9e6f50e12e87ae18
def b8A:=AB 0xbc72b1b9c00ace46cb5996
def c4V:=AB 0x9f9415d05e925b361387d0d957
def b8p:=AB 0x20a633adcd393317
def c4U:=AB 0x4e93565b5d5f2a451ce51cf413170126c9af02cc397
def b8c:=AB 755788541398
def b7Z:=AB 84022310212842263
def c4T:=AB 0x7c2d8ee31be32e932d97
def c4S:=AB 0x7c2d84eaf7022fc3b636
def b7O:=AB 0x178e21287eab2fe27a4fa17
def a3P:=AB 5175046550
def c4R:=AB 0x7c24648964ffd8aff7ff870056
def c4Q:=AB 0x34707e139947367d237
def c4P:=AB 0xd3d8b0281923d3aaf6c56
def a1P:=AB 0x2289b5b3c93a8b65
def b3f:=AB 0xa09421c7e155bf06b85d6
def c4O:=AB 0x366b99578181ec4039d5f40d6
def a2k:=AB 0x69c5bc76984c8a6865
def b9O:=AB 0x3f1f0b1fb2fa055ac16d2cb17d
def X9:=AB 144439500438
def b1I:=AB 0x1e4f6aa80f23844bc76142f20ae18
def a2j:=AB 0x839a5686ce36
def b9N:=AB 0x7a12c98bd94c4b1d37eb07fcc72267
def a5C:=AB 0x89ad3f90066d
def a8c:=AB 0x7f7eb796fb65
def a8b:=AB 144888813974
def b9M:=AB 0x1d8dc0517c7b2c43d6e3d57
def N7:=AB 0x172b971a68aea17d7
def a8a:=AB 0x9e70310ce195236
def a3q:=AB 144900688438
def a2i:=AB 143959432150
def b9L:=AB 0x145201e96cf31d3fc0d7d8
def b9K:=AB 27169787094
def a0U:=AB 769280510573
def a7Z:=AB 0x366b6479d44cdfc1cb3661236
def b9J:=AB 0x2260e846e79fb701c9bd2f752239
def b9I:=AB 0x2260e846e78cae5237ba47752239
def a5B:=AB 0x5bc25c72379eb64cabd6
def b1H:=AB 0x346f0d4f75f31a9ec5d
def b9H:=AB 0x141265e731a4c9e605a357
def a7Y:=AB 206570917141
def a5A:=AB 0x25d7e66cf7d551d8
def b9G:=AB 0x79aef5b07dd6
def b1G:=AB 0xbc72b1b687f8bfdcaa64d6
def b9F:=AB 0xcef898c40917cea9d7d514f2a536f8595658182a8768
def b1F:=AB 0x9c8e1800dfc2125
def b1E:=AB 0x482873c8becb23062183f7e6e
def b9E:=AB 0x74bcaf091dd6
def b9D:=AB 0x46fb2449bf7b0ab5957
def b9C:=AB 0x18c7ff9581b164a5c0b58
def b9A:=AB 0xd9612dd1e40fd00fb5957
def b9z:=AB 0x46f57eb49b9d0268a6e
def b9y:=AB 0x5f3c4c5922a36d32d16d2cae6d
def b9x:=AB 0x5a83856bc27217
def b9w:=AB 0x346f104144506f0a0d6
def b9v:=AB 0x7e46e0972a9db4cd4641e02f66
def b9u:=AB 0x6baf40fa964e95ccdbbd6
def b1D:=AB 0x46fb22660337d800156
def b9t:=AB 0x790e0edda45b5c900756
def b9s:=AB 0x66a26de2f2ac59a147b28b39
def a7X:=AB 0xaa9e3788a11d7
def b9r:=AB 0xd9611f237c5abf9861b18
def b1C:=AB 0x14be69a978ba0e7fb103aae0ede
def a3p:=AB 1147073325638
def U4:=AB 769325994333
def b1B:=AB 0x4217822c9d2a3f237
def b9q:=AB 0x3ca76c7930e00ad98
def b9p:=AB 0x9e702b8f4116236
def b9o:=AB 0x346f0d4f75f31a08e6d
def b9n:=AB 0x1e89567ef79c52acf6ec0e7119239
def N6:=AB 0x172d6f1d49958d957
def b9m:=AB 0x5a894099a5cf96
def b9l:=AB 0x9e5f5b26f203217
def b9k:=AB 0x293bb6fa4570ef6165c82a36
def b9j:=AB 0x293bb70cc9ff404307458766
def b9i:=AB 0xb4da95e581797
def a3o:=AB 0x46f57deaf3540ae6456
def b9h:=AB 0xca63c6d13e45b6b12a6
def X8:=AB 0x2289b5b3c93a35a5
def b9g:=AB 0x3d88b76bacba23f5bbd6
def b9f:=AB 0x44e9554cb418534f367f83935c47365682395abf11f17d70
def O7:=AB 0x6cb97565e8327e160fbc80e6
def b9e:=AB 0x13c5d0795e2eba0dc8226
def a3n:=AB 0xb7c2afa073acae36
def b1A:=AB 0x1ebc78b08b20a222183f817e
def a2h:=AB 0x299847962acf9af35c3e6456
def b9d:=AB 0x6f2c6e74f8f237fda9c2b061f17d6e
def b1z:=AB 0x16f807a4ef7ff25d7
def b1y:=AB 0x714920dbe8d7
def b9c:=AB 0x245826cd69ebe073d9e4319c95d6
def b1x:=AB 4435082775958
def b1w:=AB 0x25c44a62a2f391d7
def b9b:=AB 0x236354bf47898caaae0ede
def b9a:=AB 0x178fd825f76589bc673f558
def a7W:=AB 0x16b5b582023af60fd5e3aa312a7
def b1v:=AB 0x6c602aea18de2c7abaae0ede
def b1u:=AB 0x675856bd81d7
def b8Y:=AB 0xbfb09e935c0822f66ceabefd99
def b8X:=AB 0x25e1be12b2e825d7
def b8W:=AB 0x236354650b65a90eae0ede
def a5z:=AB 0x172b97b4569533d57
def b1t:=AB 0x800e5f2d166d
def b8V:=AB 0x20a93efbe3153317
def b8U:=AB 5190294630258
def b8T:=AB 0x1df6526e7032b02996
def a2g:=AB 0x25d403fe3fab12a6
def b1s:=AB 0x238079d3484c5f55c1de26
def b8S:=AB 0x293bb7095db0e1eb3b119238
def b8R:=AB 0x172d6e8e249bbe357
def b8Q:=AB 0x6352ccff9b65
def b8P:=AB 27474311005
def b8O:=AB 4030852203478
def b8N:=AB 899312715515734
def b1r:=AB 158393616950
def b8M:=AB 0x182b90fcef282f641173ae59c95d6
def b8L:=AB 0x14be69751e0aff9ad45d6ae0ede
def b1q:=AB 0x238079d3484c5f55bd8366
def b8K:=AB 0x6c60235c09d8f0fe16ae0ede
def b1p:=AB 0x172b97b9735581397
def b1o:=AB 0x288f8178d1cb167d57
def b8J:=AB 0x1ba02323979ac16
def b8I:=AB 0x8a3c2a173587bccdacea65aff21917
def b8H:=AB 0xb985cdd2ad21fbb63a7
def b1n:=AB 0xb208e33320b65
def b8G:=AB 0x9eda9cec3cd6
def b8F:=AB 84052912174707479
def b8E:=AB 0x67725e0ff625
def b8D:=AB 0xd9612a41daf4ddc5bf372
def b8C:=AB 6557125
def b8B:=AB 0x20a77db3edc369d6
def a3m:=AB 97357957335552678
def a5y:=AB 158394231606
def b8z:=AB 3886778600293
def b8y:=AB 0x2a517dbc3b0e3236
def b8x:=AB 0x6421a1d3a90ced34e5
def b8w:=AB 32118344927062
def b8v:=AB 0xb4ca45a95cd4b4d6f65
def b8u:=AB 0x14cf7f69699144a231d1f70b826
def b8t:=AB 0x46f5808b701f8d3e85e
def b8s:=AB 5029156809686
def b8r:=AB 0x69679fa28020b17d6d
def b8q:=AB 5406958829974
def b1m:=AB 0x696e11a66fe76e0edd
def a7V:=AB 21542665123925
def a5x:=AB 0x69679fa3dfa56e0edd
def b1l:=AB 0x2289b5b3c93ae125
def b8o:=AB 0xe679fb2f18e36
def a2f:=AB 0xebc0913cf6236
def b8n:=AB 157452382614
def b8m:=AB 0x89ad3f99645d
def b8l:=AB 603129183358885
def b8k:=AB 0xf41b82e06874b6d3252
def b8j:=AB 0x20b2ce15d36a2125
def b8i:=AB 7171781
def b8h:=AB 0x16f80705e67efa1d7
def b8g:=AB 0x697483a900296e0edd
def b8f:=AB 32496130329686
def b8e:=AB 769297720157
def b8d:=AB 0x69714aa7b8086e0edd
def b8b:=AB 234949
def b8a:=AB 0x839a558087f6
def b1k:=AB 0x696ad8a527c66e0edd
def b7Y:=AB 0x6977bcaa484a6e0edd
def b7X:=AB 0x6901786fb26ce6d
def b7W:=AB 0xe0b2e442e8c16
def b7V:=AB 0x4a2342fd30c136f65
def b7U:=AB 0x226afaa958500dad
def b1j:=AB 174587420
def b7T:=AB 177664620
def b7S:=AB 177658348
def a5w:=AB 175202860
def b7R:=AB 175818300
def b1i:=AB 0x25a7241abb8523cd
def a3l:=AB 173971980
def b7Q:=AB 177043692
def b1h:=AB 177049180
def a7U:=AB 174585068
def b7P:=AB 175201292
def b1g:=AB 176433740
abbrev qA:=@List
abbrev qB:=@PySem.Value
abbrev qC:=@PySem.Shared
abbrev qD:=@Option
abbrev qE:=@PySem.Addr
abbrev qF:=@PySem.W.Frag
abbrev qH:=@PySem.Program
abbrev qI:=EN PySem.Value PySem.Shared
abbrev qJ:=CP
abbrev qK:=Option Nat
local macro_rules|`(def $i:declId $b*:$t $v:declVal)=>`(theorem $i:declId $b*:$t $v:declVal)
/---/def L2.nd(l:qA PySem.Str)(h:l.Nodup:=by rw[pS]):l.Nodup:=h
namespace L2
open PySem PySem.Spec PyProof.Rows
variable {A:Around}{C a b dx:qE}{E Q:qI}{K:qF}{M:Model}{P:qH}{base h h':Heap}{body:KL}{c e l tg:Expr}{ch fp:EK}{es:BH}{f:DZ8}{fd:FuncData}{i k n t':Nat}{kw:mX}{mA mg:BA}{qL:CV}{pl:A6P}{pos:Pos}{ps:AA}{s:qC}{u:qB}{us:AQ}{w:World}{x:Str}
abbrev Key:=Sum Int Str
/---/def a6I:AAT Key qB
 |BNN,v=>Value.isInt k v
 |AX7,v=>CTD v
/---/def c9r(w:World):Key->Int
 |BNN=>hashInt k
 |AX7=>hashStr w x
def E6:∀{k:Key}{v:qB},AY (a6I k v)->(∃i t,k=Sum.inl i/\v=AHC)∨(∃x t,k=Sum.inr x/\v=B0L)
 |EU i,v,h=>by
  rw[OM t (Value.isInt_shape (k:=i) (v:=v) h)];exact .inl (NV i t e)
 |AX7,v,h=>by
  rw[OM t (Value.isStrOf_shape (x:=x) (v:=v) h)];rw[wH (NV x t e)]
def b4H(i:Int)(t:Tok):E2Q a6I:=AS2 a6I Value.isInt
def b4G(x:Str)(t:Tok):E2R a6I:=AS2 a6I Value.isStrOf
def c6Z(a b:Int):iP DHQ ((a==b)):=by
 rw[KB a b]
 rw[BOH]
 .have h:¬DHQ:=λq=>e (Sum.inl.inj q);rw[ASP];exact fR beq_eq_false_iff_ne.mpr e
def c6W(a b:Str):iP DHR (YB a b):=by
 rw[KB a b]
 rw[BOH]
 .have h:¬DHR:=λq=>e (Sum.inr.inj q);rw[ASP,AX4]
def c6Y(a:Int)(b:Str):vM (CLK Sum.inr):=DRZ
def c6X(a:Str)(b:Int):vM (CLL Sum.inl):=DRZ
/---/def D5(prog:qH)(w:World):AUZ PySem.KeyKind Key where
 is:=a6I
 hash:=c9r w
 inj:=λv a b ha hb=>by
  rw[EF5 ha]
  .rw[EMT]
   rw[DHH]
   .exact AS6
  .rw[EMT]
   .exact AS6
   rw[DHH]
 byValue:=λk v h=>by
  rcases E6 h with⟨i,t,rfl,rfl⟩|⟨x,t,rfl,rfl⟩<;>rfl
 pyHash:=λhv h=>by
  rw[ABN (E6 hv) i t rfl x t rfl]
  .exact wpAny_pyHash_int h
  .exact wpAny_pyHash_str h
 eqBool:=λhu hv h=>by
  rw[EF5 hu]
  .rw[EG7]
   .rw[AYT c6Z wpAny_eqBool_int]
   .rw[c6Y]at h;exact TJ (SeqAt.EqAt.int_str i t y u) h
  .rw[EG7]
   .rw[c6X]at h;exact TJ (SeqAt.EqAt.str_int x t j u) h
   .rw[AYT c6W wpAny_eqBool_str]
 «strs»:=λk x t v h=>by
  rw[ABN (E6 h) i u e y u e]
  .exact AS6
  .rw[ANX e _]
   subst e1;cases v<;>rfl
def a9p(prog:qH)(w:World)(i:Int)(t:Tok):E2Q DIM:=b4H i t
def a9o(prog:qH)(w:World)(x:Str)(t:Tok):E2R DIM:=b4G x t
inductive V where
 |non|bl (b:Bool)|int (i:Int)|str (x:Str)|byt (b:CTU)|flt (b:UInt64)|ref (a:qE)|ty (n:String)
 deriving DecidableEq
variable {v:V}{vs xs:AE}
/---/def RelV:DEV
 |.non,u=>BYB
 |ZZ,u=>AYR b
 |ZW,u=>AM0 AHC
 |SK,u=>AM0 B0L
 |.byt b,u=>D27 Value.bytes
 |.flt b,u=>D27 Value.float
 |BF,u=>AL9
 |.ty n,u=>DOS
abbrev Vals:EN AE AQ:=Paired RelV
def Vals.length{xs:AE}{us:AQ}(r:ZG):AAO us.length:=BPR
def Vals.get:∀{xs:AE}{us:AQ}{i:Nat}{x:V},ZG->YY->∃u,DJ us u/\ZR
 |_,_,_,_,.nil,e=>BRM
 |_,_,0,_,AO2 _,e=>by simp at e;rw[DG];exact DS r
 |_,_,AT,x,B4A,e=>by
  rw[NA u h1 h2 (BG Vals.get i i x x t CUM) u A2Z h2]
def Vals.set{x:V}{u:qB}(r:ZR):BLI i (RE (xs.set i x) (us.set i u))
 |_,_,_,.nil=>.nil
 |_,_,0,B4A=>AID
 |_,_,AT,.cons q t=>.cons q (Vals.set r i t)
def Vals.append{ys:AE}{a:AQ}(h:ZG)(s:BW7):RE AUY (us++a):=by
 induction h with
 |nil=>exact s
 |cons r t b=>exact .cons r b
def Vals.take:DYP xs.take us.take
 |_,_,0,_=>.nil
 |_,_,_+1,.nil=>.nil
 |_,_,FJ,AID=>AO2 (Vals.take n t)
def Vals.drop:DYP xs.drop us.drop
 |_,_,0,r=>r
 |_,_,_+1,.nil=>.nil
 |_,_,FJ,B4A=>Vals.drop n t
/---/def RelO:EN cZ SZ
 |JZ,AET=>NQ
 |none,none=>True
 |_,_=>False
/---/def KV{κ:Type}:EN NK xV:=Paired λ(p:BYF) (q:κ×qB)=>DT=CS/\DQY
/---/def kV:Key->V
 |EU i=>ZW
 |AX7=>SK
inductive HO where
 |lst (xs:AE)
 |tup (xs:AE)
 |dK (qM:KM)|dT (qM:aA)
 |set (S:D1U) (n:Nat)
 |ins (C dx:qE) (fs:OO)
 |own (x:qE)
 |xd (fs:OO)
 |met (f x:qE)
 |rng (lo hi:Int)
 |frz (o:Obj) (u:HO)
 |tbl (ps:DI)
 |ext (φ:WJ Heap)
variable {o:HO}
abbrev Hp:=qE->qD HO
variable {H H':Hp}
/---/def upd(H:Hp)(a:qE)(o:HO):Hp:=λb=>BLX (b=a) o (H b)
def A0:PJ H a o a o:=by rw[EA upd F1]
def A5(h:BOD):upd H a o b=H b:=by rw[EA upd AXN]
def a2z{u:HO}:upd A6Y a u=tM u:=by
 funext b;unfold upd;split<;>rfl
def I9{u:HO}(h:AZR)(h':BPX)(d:o≠u):AHR:=by
 intro e;rw[DG];rw[h]at h';exact d (Option.some.inj h')
def A6(h:AZR)(h':KH):AHR:=by
 intro e;rw[DG];rw[AU h h' h']
/---/def IsTp(h:Heap)(a:qE)(items:DI):Prop:=∃o:Obj,A6X/\(o.cls,o.dict)=(JK "tuple",none)/\∃n,o.data=CAG
def IsTp.tup{items:DI}(x:IsTp h a items):IsTup h a items:=let ⟨o,e,c,d⟩:=x;⟨o,e,congrArg Prod.fst c,d⟩
def IsTp.new(h:Heap)(items:DI):IsTp (A7G h.push items) h.objs.size items:=DVN
section
variable (P:qH)(w:World)
/---/def ObjOk(H:Hp)(h:Heap)(a:qE):WJ HO
 |BGO=>ATX (BZD its (CYP/\ZO (ANK its.toArray)))
 |AY5=>ATX (∃its:AQ,CYP/\IsTp h a its.toArray)
 |B1W=>C40
 |BV0=>BF6 A3E (∃xs:AIY,
   Paired (λ(p:VR×V) (q:E48)=>C4L E3M) qM xs /\
   ∃o es ep,A6X/\o.ExactDict/\o.data=B3P/\DMN (entryOfKey (tupleKind A28))/\DAE)
 |DO1=>h.SetOf (intKind P w) a S n
 |gE=>DC5/\JR fs.length/\dx≠a/\ZO BVO /\
   ∃mA,C4G/\DSC/\DIR
 |.own _=>∃o,A6X
 |.xd fs=>∃mA,h.Ns1 a mA/\∀f,CPM
 |.rng lo hi=>∃t u v,ZO CG7
 |AR7=>A6X/\ObjOk H h a u
 |.tbl ps=>D24
 |.met f x=>ZO (C2G x)
 |.ext φ=>φ h/\(∃o,A6X)/\∀h1 h2:Heap,φ h1->(∀o,A14 h1.get?->A14 h2.get?)->φ h2
/---/def HOk(H:Hp)(h:Heap):Prop:=∀a o,AZR->B37
#where
def ObjOk.lt(x:B37):BTU:=by
 cases o with
 |lst xs=>rw[DLM];rw[dM]
 |tup xs=>rw[BM2 p];exact p.tup.lt
 |dK qM=>rw[B62];rw[dM]
 |dT qM=>rw[B62];rw[dM]
 |set S n=>rw[E22];rw[dM]
 |ins C dx fs=>rw[DLN];rw[dM]
 |own y=>obtain⟨_,e⟩:=x;rw[dM]
 |xd fs=>rw[DLO];rw[dM]
 |rng lo hi=>rw[BM2 e];rw[dM]
 |frz ob u=>obtain⟨e,_⟩:=x;rw[dM]
 |tbl ps=>rw[E9J]
 |met f y=>rw[E9J]
 |ext φ=>obtain⟨_,⟨_,e⟩,_⟩:=x;rw[dM]
def Paired.mapP{α β:Type}{F G:EN α β}{l₁:DC}{l₂:A57}(h:Paired F l₁ l₂)(f:∀a b,F a b->G a b):Paired G l₁ l₂:=by
 induction h with
 |nil=>rw[ABS]
 |cons r t c=>exact .cons (AI f r) c
def ObjOk.stay(x:B37)(k:BKO ((b=a∨DC4)) h.get?)
  (j:∀b,DC4->zP b .own a) (l:C5P):A3J P w H' a o:=by
 induction o with
 |lst xs=>rw[B6H i x];rw[EB z i n r cS]
 |tup xs=>obtain⟨z,i,r,g,e,c⟩:=x;rw[NG z i r g cS c]
 |dK qM=>rw[EPA vs vs r]
 |dT qM =>
  rw[EPA xs xs (EC0 p q (AI l z.2.1))]
 |set S n=>obtain⟨g,es,ep,t,e,c⟩:=x;rw[NG g es ep t cS c]
 |ins C dx fs =>
  obtain⟨d,z,ne,e,mA,⟨od,es,ep,e2,c⟩,r⟩:=x;exact⟨j _ d,z,ne,cS,mA,EBF (AO k (DZ d) e2),r⟩
 |own y=>rw[OM g x];rw[AZ g cS]
 |xd fs=>obtain⟨mA,⟨od,es,ep,e,c⟩,r⟩:=x;rw[AV mA (EBF cS) r]
 |rng lo hi=>obtain⟨t,u,v,e⟩:=x;rw[CK t u v cS]
 |frz g u m=>rw[QN e q x cS (m q)]
 |tbl ps =>
  rw[ECO D24 COL]
 |met f y =>
  rw[ECO (ZO (C2G y)) (C2G y)]
 |ext φ=>obtain⟨p,⟨o,e⟩,st⟩:=x;rw[AV (AI st p λo q=>AO k PX q) (lZ cS) st]
def HOk.lt(x:UV)(e:AZR):BTU:=(x a o e).lt
def HOk.fresh(x:UV)(e:BRS):A5J:=by
 cases q:H a with
 |none=>rfl
 |some u=>rw[FO (Nat.lt_of_lt_of_le (x.lt q) e) cX]
def HOk.kept(x:UV)(k:B2X):qZ H h':=λa o e =>
 EIA x (UL _ q B3X)
def HOk.laid(x:UV)(k:B2X)(hp:BRS)(new:A3J P w A6Y a o):qZ A6Y h':=GR u (by
 have f:=x.fresh hp;rw[BP d b a]
 .subst d;rw[GU A0];exact new
 .rw[A5 d]at e;exact(t5 x).stay (λc v _ q=>k c v q) (λc q=>B0K f) λc xs q=>B0K f)
/---/def Rd(H:Hp)(a:qE)(u:HO):Prop:=YP u∨∃o,YP AR7
def Rd.ok{u:HO}(r:C17)(x:UV):BDJ u:=by
 rcases r with r|⟨o,r⟩
 .exact x a u r
 .obtain⟨_,q⟩:=x a _ r;exact q
/---/def Mut:WJ (qD HO)
 |AEU .lst=>True
 |AEU .dK=>True
 |AEU .dT=>True
 |AC (BR .set)=>True
 |AC (tJ .ins)=>True
 |AEU .ext=>True
 |_=>False
section
variable {x e:qE}{o':HO}
def HOk.write(ok:UV)(j:C19)(m:C4B)(k:DIO)(l:C2X)
  (new:A3J P w DG4 x o'):qZ DG4 h':=fU u (by
 have d:∀c y,AAD c y->c≠x:=ED2 y
 have f:∀c xs,DGC->c≠x:=ED2 xs
 rw[BP g b x]
 .subst g;rw[AU A0 q q];exact new
 .rw[A5 g]at q;rw[BP a b e]
  .have q':AAD b x:=by
    rw[CM m]
    .exact BEW a.trans g
    .rw[AF a z]
   rw[AU q q' q'];rw[QN v n l v (AH a n)]
  .refine(ok b u q).stay (λc v i r=>k c v ?_ r) (λc r=>ID (d c b r) r) λc xs r=>ID (f c xs r) r
   rw[TR i i]
   .exact a
   .rw[W2];rw[CM m]
    .exact d c b i z
    .rw[tE i];exact g rfl)
#where
structure Un(fs ex:EK)(H H':Hp)(h h':Heap):Prop where
 keep:DZT (b∉fs) AXB
 slot:DZT CZU DXJ
 free:kE UJ (KH->ATA->tO)
 there:qV UJ ATA DXI
 tups:C5P
 frzs:EIF
 tbls:EC9
section
variable {fs fs' ex ex':EK}{H1 H2:Hp}{h1 h2:Heap}{x e:qE}
def Un.any(u:BFU H1 h1){a:Obj}(q:XJ h.get? a)(n:KH)(d:ATA):D5Z sl (CMP a):=by
 by_cases c:CZU
 .exact EHZ u.slot
 .rw[AZ a.slots (EHZ u.keep)]
def Un.kept(k:B2X):BY6 H :=
 ⟨B5Q a CNY,B5Q a (CRY a.slots),λ_ _ _ n _=>n,λb a q _=>CRY a,fW q q,ZD _ q q,λ_ ps q=>BWD q⟩
def Un.refl:BFU H h:=Un.kept λ_ _ q=>q
def Un.laid(k:B2X)(hp:BRS)(c:A5J):BY6 A6Y where
 keep:=B5Q u B3X
 slot:=B5Q u (CRX B3X)
 free:=EAI (A5 (Nat.ne_of_lt (tD q hp)))
 there:=UL q _ ⟨u,B3X⟩
 tups:=fU xs (B0K c)
 frzs:=UL xs q (B0K c)
 tbls:=fU ps (BWE (fH q c) q)
def Un.write(c:C19)(j:C4B)(k:DIO)(d:C2X):BY6 BTB:=by
 have i:∀b,KH->GY x:=λb n z=>CKA n c c
 have g:∀b,KH->ASU:=λb n z=>by
  subst z;rcases j with r|r
  .exact i b n r
  .rw[AU n r r]
 have f:∀b u,BPX->¬Mut (some u)->GY x:=λb u q nm z=>by subst z;rw[q]at c;exact nm c
 refine⟨EKB E5A,EKB (CRX E5A),EAI (A5 (i b n)),BS b u q _,
  fU xs D59,UL xs q D59,fU ps (BWE (A5 CQ5) q)⟩
 rw[BP a b e]
 .subst a;exact d
 .rw[AZ u (k b u a q)]
#where
/---/def trk(h:Heap)(H:Hp):EK:=AN1 h.objs.size λa=>DAO H
/---/def a8l(h:Heap)(H:Hp):Heap:=PySem.W.hideAll h (trk h H)
def b4P(h:Heap)(H:Hp):(a8l h H).objs.size=h.objs.size:=BR PySem.W.hideAll_size
def c0v{o:Obj}(e:UJ)(n:KH):CU7 :=
 PySem.W.hideAll_get _ e λa=>by
  have q:AY (H b).isSome:=(List.mem_filter.mp a).2;rw[n]at q;simp at q
def c2J{o:Obj}(e:CU7):UJ/\KH:=by
 have e':UJ:=PySem.W.of_hideAll (trk h H) e;rw[RQ e'];cases q:H b with
 |none=>rfl
 |some x =>
  have a:b∈trk h H:=List.mem_filter.mpr ⟨CSA List.mem_range.mpr e',JY q⟩;have z:ET CMC b:=PySem.W.hideAll_none (trk h H) a;rw[GU z]
/---/def c3U(g h:Heap)(L:qE):CV:=AOS h.objs.size filterMap λa=>if a=L∨AY (DAO g.get?) then none else(DAV a (a,o))
/---/def rest(g h:Heap)(L d:qE):CV:=BGD (c3U g h L) λp=>GM (DT≠d)
structure Mod(K:qF)(mg:BA)(base:Heap):Prop where
 kin:BTJ
 glob:CC0
 blt:∃mb,base.Ns builtinsNs mb/\E17 mb
 nolimit:base.NoLimit
structure Cx where
 prog:qH
 w:World
 K:qF
 mg:BA
 base:Heap
 A:Around
 N:AA
 s₀:qC
 H₀:Hp
 env:Env
 outer:HL
 stack:HL
 ex:EK
 fn:Str->Bool
 calm:Bool
 pn:CV
 xe:qI
variable {X:Cx}
/---/def frs(l:HL):EK:=l.filterMap (·.frame)
abbrev Cx.fs(X:Cx):EK:=frs X.outer
/---/def Vis(sc:Scope)(x:Str):Prop:=CMO (CL5∨AXM sc.names.lookup)
/---/def Loc(sc:Scope)(x:Str):Prop:=DIQ
/---/def c9D(env:Env)(h:Heap)(m:BA)(x:Str)(u:qB):Prop :=
 (AML env.kindOf/\JN m u)∨((AC0 env.kindOf∨AXM env.kindOf)/\∃c,BPM/\h.IsCell c AET)
structure Cx.Ok(X:Cx):Prop where
 mod:EBR
 kind:CRH X.env.scope.kind
 glob:X.env.globals=mainGlobals
 blt:X.env.builtins=builtinsNs
 above:AOQ X.env.locals
 inj:C77 A0F X.env.cells.lookup
 has:∀x,(AC0 X.env.kindOf∨AXM X.env.kindOf)->∃c,A0F
 cab:∀x c,BAL->A0F->X.s₀.heap.objs.size<=c
 hd:ED->PP X.A.handled
 frames:X.A.frames=AC X.stack
 stk:X.stack=X.outer∨(X.stack=CFQ/\B4B)
 exf:VN X.ex (AB8/\ACI (c≠b))
 bs:B2U (CU3/\D0U)
 bsz:X.base.objs.size<=X.s₀.heap.objs.size
 noex:B2U CXV
 exfs:VN X.ex AYV
 funs:D8V X.outer
 frf:VN X.fs D0U
structure Inv(X:Cx)(qL:CV)(σ:AFX)(H:Hp)(s:qC):Prop where
 ok:X.Ok
 os:s.os=X.s₀.os
 bare:D1S
 base:Un X.fs X.ex X.H₀ H X.s₀.heap s.heap
 loc:∃m,DGB/\∀(i:Nat) (x:Str) (v:V),jD->BWM->B19->∃u,NQ/\c9D X.env s.heap m x u
 cell:ACI (C09 s.heap.IsCell)
 free:DK X.env.locals
 freeC:ACI (DK c)
 pin:BDC ELW
 hok:E3V s.heap
 len:σ.length=X.N.length
section
variable {σ:AFX}
def Cx.Ok.nofr(ok:X.Ok){o:Obj}(e:GL X.base.get?):AYV:=λa=>by
 have:=(ok.funs.mem a).1;rw[C1K]
def Inv.bs(I:AM):B2U DEI:=λb o e =>
 ⟨I.base.keep b o BU1 DGN (I.ok.nofr e) CYW,I.base.free b o BU1 DGN CYW⟩
def Inv.bk(I:AM):B2U QC:=GR o (ANF I.bs)
def Inv.mod(I:AM):EBR:=I.ok.mod
def Inv.kIn(I:AM):X.K.In s.heap:=I.ok.mod.kin.keeps I.bk
def Inv.lt(I:AM):APS X.env.locals:=let ⟨_,hn,_⟩:=I.loc;hn.lt
def Inv.sz(I:AM):AOQ s.heap.objs.size:=Nat.le_trans I.ok.above (Nat.le_of_lt I.lt)
def Inv.nofs(I:AM)(h:D0Q):a∉X.fs:=λb=>by
 rw[AWE c (I.ok.funs.mem b)];rw[FO (tD c (Nat.le_trans I.sz h)) cX]
def Inv.cne(I:AM):BVK X.env.locals:=λx c e z=>by
 rw[E7Y d];obtain⟨m,⟨o',es,ep,b,a,_⟩,_⟩:=I.loc;rw[YK z b d d];rw[AU a hd hd]
def Inv.funs(I:AM):BX7 X.outer:=by
 have all:∀(l:HL),BT b AC4 CZV->D8V l->BX7 l:=by
  intro l;induction l with
  |nil=>intro _ _;trivial
  |cons env r k =>
   intro hs g;obtain⟨f,⟨L,o,d,h,i,hd⟩,j⟩:=g;have a:L∈X.fs:=hs L (EBE List.mem_cons_self);rw[OM sl (DOI (I.base.slot L o i (I.ok.frf L a) a) L)];rw[AV f ⟨L,_,d,h,e,hd⟩ (k (λb c=>hs b (EBE CVQ)) j)]
 exact all X.outer (FD c c) I.ok.funs
def Inv.stack(I:AM):BX7 X.stack:=by
 rw[E23 a]
 .rw[AF e I.funs]
 .rw[e];rw[BM4 b I.loc];refine .cons (AS3 I.ok.kind) a b ?_ I.funs;exact Heap.get?_none_of_le (CKB I.ok.above)
def Inv.stkSub(I:AM):AGI lX (X.env.locals::X.fs):=λb a=>by
 rw[E23 c]
 .rw[e]at a;exact AB7
 .rw[e]at a;rw[AAS frs];rw[List.filterMap_cons,c]at a;exact a
def Inv.stkFree(I:AM):VN lX KH:=λb a=>by
 rw[E24 a e a]
 .rw[AF e I.free]
 .rw[AWE ho (I.ok.funs.mem a)];exact DOI (I.base.free b o ho (I.ok.frf b a)) b
def Inv.step{g':uM}{d':Drawn}(I:AM)
  (g:C6Q)
  (keep:E4G AYV AXB)
  (t:E4G CZV DXJ) (free:kE uT (QC->KH->tO))
  (there:qV uT QC DXI)
  (D:C5P) (A:EIF) (C:EC9)
  (N:∀m,DGB->CK3 h'.Ns) (E:BUX) (L:D1T) :
  EOC:=by
 have B:BCN X.s₀.heap.get? AB8:=GR o (C9Z I.ok.above);have j:qV CU3 CXV uT:=λb o e a w=>by
  rcases(uA g w) with z|z
  .exact a z
  rw[II (tD e z) cX]
 have f:ACI (∀v,s.heap.IsCell c v->h'.IsCell c v):=λx c e v (UC y hd)=>by
  have h:c∉ch:=λz=>EEV;by_cases G:c∈X.fs
  .rw[ZI sl (EFU t)];exact EM q hd
  .rw[AV o (EFU keep) hd]
 refine⟨I.ok,I.os,L,⟨DUL,DUL,C4J n a,ACJ e a,GR xs (D b xs (BOO I.base.tups)),PU xs e (A b o xs (kD I.base.frzs xs)),BTP⟩,?_,B3M,?_,B3M,A41 J,E,I.len⟩
 .exact keep b o CYX w BIX (mG I.base.keep w a) DJO
 .obtain⟨sl,e1⟩:=mG I.base.slot w a;rw[QN F e2 (t b _ CYX w BIX e1 DJO) F e2]
 .rw[DW4];exact DWI free (YV I.base.free n a)
 .rw[DW4];exact DWI there
 .obtain⟨m1,e1⟩:=BON I.base.tbls;rw[QN M e2 (C b _ e1) (m1++M) (IC e2 Array.append_assoc)]
 .obtain⟨m,hn,hl⟩:=I.loc;rw[DN m (N m hn) (EAB K)];rw[UP r l (hl i x v e1 e2 K)];rw[DN u r ?_];rcases l with l|⟨k,c,e,z⟩
  rw[IH l]
  rw[HM (lJ k c (EDA _))]
 .rw[QN v z BHX v (EDA v)]
 .obtain⟨m,⟨o,_,_,y,_⟩,_⟩:=I.loc;exact free _ o (λz=>(g _ z).2.1 rfl) y I.free
 .rw[E7Y y];exact free c o (λz=>EEV) y CK9
 .rw[C7D J];have h:DT∉ch:=λz=>A20 ((g DT z)) p J rfl;rw[EB (keep DT QH ne nf h e n) (free DT QH h e n) ne nf d]
def Inv.un(I:AM)(u:BD1 X.fs [] h')(f:BUX):A92 ADL:=by
 rw[EMF g (u.any g I.free AJ)];exact BLE (ch:=[]) KD (EL0 u.keep) (EL0 u.slot) (λb o _ e n=>u.free b o e n AJ) (PU _ e (YV u.there AJ)) u.tups u.frzs u.tbls (λk i=>by
  obtain⟨o',es',c,a,j⟩:=i;rw[AU g a a];rw[EB _ es' c h j]) f I.bare
def Inv.call{g':uM}{d':Drawn}(I:AM)(u:BD1 lX ch h')(i:BUX)(l:D1T)
  (d:C6Q) :
  EOC:=by
 rw[EMF j (u.any j I.free λz=>(d _ z).2.1 rfl)];exact I.step (ch:=ch) d (λb o h k a e n=>mG u.keep (λz=>(List.mem_cons.mp (I.stkSub b z)).elim h k) a) (ACV a n (u.any e n a)) (λb o a e n=>CPO u.free) (PU a e (YV u.there a)) u.tups u.frzs u.tbls (λv q=>by
  obtain⟨o',es',g,f,t⟩:=q;rw[AU j f f];rw[EB _ es' g h t]) i l
def Inv.turned{it:qE}(I:AM)(k:A1T BOE QC)(j:DK it)(f:it≠X.env.locals)
  (h1:it∈X.ex∨AOQ it) (h2:BVK it) (g:BDC (DT≠it)):CU0:=by
 have d:AHQ BOE:=DDP j
 rw[C63 (BLE (ch:=[it]) (gA h) (DCQ C4I) (DCR C4I) (pO n n)
  (DG5 C4I)) (fW e e) DTK (BWD e) i]
 .rw[vA it h]
  rw[DG];rw[CK h1 f h2 g]
 rw[EI9 i (Ne.symm f)]
 .rw[EEF BSP DJH];rw[CM a]
  rw[BW3 d]
  .exact d c _ z
def Inv.tok(I:AM)(t:Nat):eN (AL8 t):=BG I.un h' s.heap t' t Un.refl I.hok
def Inv.kept{t':Nat}(I:AM)(k:D7R):CU0:=I.un (Un.kept k) (I.hok.kept k)
def Inv.laid{a:qE}{o:HO}{t':Nat}(I:AM)(k:D7R)(hp:D0Q)(new:DVR A6Y o) :
  KN A6Y ADL:=I.un (Un.laid k hp (I.hok.fresh hp)) (I.hok.laid k hp new)
def Inv.write{x e:qE}{o:HO}{t':Nat}(I:AM)(d:C19)(c:C4B)(k:BKO ASU s.heap.get?)(a:C2X)
  (new:E63 BTB x):KN BTB ADL:=I.un (Un.write d c k a) (I.hok.write d c k a new)
def Inv.weak{σ':AFX}(I:AM)(b:σ'.length=σ.length)(w:∀(i:Nat) v,D7W->BWM):eM σ' H s :=
 (CB5 I.ok (tR m hn hl' I.loc m hn (λi x v e1 e2 a=>hl' i x v e1 (w i v e2) a)) I.pin (b.trans I.len))
def Inv.pins_of{pins':CV}(I:AM)(h:∀p∈pins',ELW):C5I pins' :=
 CCL I.ok (λp a=>DWD (λz=>AQC BT6) (h p))
def a9n{N:AA}(c:N.Nodup){j:Nat}(a:OZ N)(b:AT4 N):i=j:=by
 obtain⟨h1,e1⟩:=List.getElem?_eq_some_iff.mp a;obtain⟨h2,e2⟩:=List.getElem?_eq_some_iff.mp b;exact(List.getElem_inj c).mp (e1.trans e2.symm)
def a6z{Q:A62}(I:AM)(U:X.N.Nodup)(hi:jD)(l:A78)(r:NQ)
  (h:∀s',DZG->(∃a,CN5 s'.heap/\(a=X.env.locals∨A47 X.env.cells.lookup))->CED) (Z:A7C:=by rw[eF]):EA7:=by
 rw[D2 m L W id I.loc];have D:(CRV .class || (CRV .module && X.env.locals != X.env.globals))=false:=by rw[I.ok.kind];rfl
 have hiσ:i<σ.length:=by rw[I.len];exact LM hi
 have cne:=I.cne;have f:∀{a:qE}{h':Heap},(∃o,A14 s.heap.get?/\A5J)->DJ1->E3V h':=λ{a h'} Y hs b ob e=>by
  obtain⟨_,_,t⟩:=Y;rw[EEF (I.hok b ob e) (λc J g q=>(AMU c ?_).trans q)];rw[W2];rw[TR g g]
  .rw[GU t]
  .rw[AU t g g]
 rw[B45 l]
 .refine wpAny_storeName_local w L (DV h' N hs) D;obtain⟨oL,_,_,O,_⟩:=id L;refine h _ (EN0 (EM N EJL) (VO y c) oL O I.free) (EM hs PX)
  rw[DPJ I.ok.above]
  rw[E8S I.ok.above]
  rw[E8R I.ok.above]
  .rw[BP hj j i]
   rw[ENK (zL w AJ)]
   .rw[EN6];rw[DN S R ?_];rcases q with⟨k,e⟩|⟨k,c,e,z⟩
    .refine .inl (GD k);have:y≠x:=λe=>hj (E9F e);simp[this,e]
    rw[HM (lJ k c DSW)]
  .rw[QN J z (I.cell y c e) J DSW]
  .rw[C7D P];rw[EB (DWH ne) n ne nf d]
 .have hfn:BAL:=by
   rw[CM Z]
   .exact z
   .rw[AU z w w]
  obtain⟨c,g⟩:=I.ok.has x (.inl w);obtain⟨J,z⟩:=I.cell x c g;refine wpAny_storeName_cell I.ok.kind w g z (DV h' C hs);rw[D2 oc F G id z];refine h VT (EN0 ⟨m,L.sameBut hs (Ne.symm (cne x c g)),EJL⟩ (VO y c') oc F (I.freeC x c g)) ⟨c,hs,.inr g⟩
  rw[DPJ C5E]
  rw[E8S C5E]
  rw[E8R C5E]
  .rw[BP hj j i]
   rw[ENK (DZ ⟨EU w,c,g,C⟩)]
   .rw[EN6];rw[DN S R ?_];rcases q with q|⟨k,c',e,z'⟩
    rw[IH q]
    .rw[AA2 (lJ k c' (z'.sameBut hs ?_))];rw[W2];exact hj (E9F (I.ok.inj _ _ _ e g))
  .rw[BP hcc c' c]
   .subst hcc;exact DX C
   .rw[QN w2 z2 (I.cell y c' e) w2 (z2.sameBut hs hcc)]
  .rw[C7D P];refine⟨DWH ?_,n,ne,nf,d⟩;intro q;rw[q,F]at e;have q':oc=QH:=CTL;exact d J (QE q' G)
def a4L{Q:A62}(I:AM)(b:X.N.Nodup)(hi:jD)(d:A78)(r:NQ)
  (h:BXH DZG) (c:A7C:=by rw[eF]):EA7 :=
 ED1 a6z (λs' a _=>h s' a)
def Inv.call'{s':qC}(I:AM)(i:D4O)(u:BJE lX ch)(d:AIJ)(h:uZ)
  (a:C6Q):oQ:=by
 rw[A99 h' f t' o' s'];have e:o'=s.os:=i;rw[uP (BG I.call g' g t' t' (d':=f) u d h a)]
#where
abbrev XK:=qB->XM IY
abbrev St:=AFX
variable {σ:St}
abbrev VK:=BO6
abbrev TE:=St->zM
variable {ta te:TE}
abbrev TT:=B2K UQ
abbrev TA:=B2K A12
variable {t:TA}
structure Ends where
 nx:VP
 rt:VK
 bk:VP:=AHG
 ct:VP:=AHG
variable {D:Ends}
abbrev TS:=Ends->VP
variable {tb:TS}
/---/def EP(X:Cx)(qL:CV)(σ:St)(Q:VK)(u:qB)(s':qC):Prop:=∃v H',oQ/\NQ/\kX
/---/def TP(X:Cx)(qL:CV)(σ:St)(Q:UQ)(b:Bool)(s':qC):Prop:=∃H',oQ/\TH b
/---/def AP(X:Cx)(qL:CV)(σ:St)(Q:A12)(us:AQ)(s':qC):Prop:=∃vs H',oQ/\A6M/\TH vs
/---/def SP(X:Cx)(qL:CV)(D:Ends)(f:Flow)(s':qC):Prop :=
 match f with
 |.next=>BX0 D.nx
 |.brk=>BX0 D.bk
 |.cont=>BX0 D.ct
 |.ret u=>∃v σ' H',BAX/\NQ/\D.rt v H'
/---/def PE(X:Cx)(e:Expr)(t:TE):Prop :=
 AAN Q VK (B0B (cN aN))
/---/def PT(X:Cx)(e:Expr)(t:TT):Prop :=
 AAN Q UQ (B0B (DWX aN))
/---/def PW(X:Cx)(e:Expr)(t:TT):Prop :=
 BLM whole BEH Q UQ (B0B (DWX whole))
def PW.pt{t:TT}(h:D7A):D79:=h _
/---/def PA(X:Cx)(es:BH)(t:TA):Prop :=
 BLM pos Pos Q A12 (B0B (A8Q (E2Z A7W) AP))
/---/def PS(X:Cx)(st:Stmt)(t:TS):Prop :=
 E5T exec
/---/def PSs(X:Cx)(st:KL)(t:TS):Prop :=
 E5T execs
def thn{α:Type}{t:BRX}{Q b:BPD}(h:D3P)(c:E8A):DWO:=(A7I h c)
section
/---/def J7(i:Nat):TE:=QY σ (∃v,σ[i]?=CA some v/\BHH)
/---/def tC(v:V):TE:=QY _ BHH
def c6i(g:jD)(o:B19)(hd:HP:=by decide)(d:DPH:=by decide):DF A1S uB:=by
 rw[LC];rw[gX v h h];obtain⟨m,n,j⟩:=I.loc;rw[UP r l (j i x v g e o)];have fin:tQ u s:=C2P;rcases l with⟨b,k⟩|⟨b,c,f,a⟩
 rw[C0Z (wpAny_loadName_local I.ok.kind b n k fin)]
 .rcases b with b|b
  rw[C0Z (wpAny_loadName_cell I.ok.kind b f a fin)]
  rw[C0Z (wpAny_loadName_free I.ok.kind b f a fin d)]
def c6o{i j pos}:B4U ZW (BV4 .int):=DXS wpAny_Constant_int ZW
def c8F{b j pos}:B4U AXH (tC (.bl b)):=DCS Constant_bool ZZ
def c6m{j pos}:B4U .none D8G:=DCS Constant_none .non
def c6k{x j pos}:B4U SK C1A:=DXS Calls.Constant_str SK
/---/def Gl(X:Cx)(x:Str):Prop:=JN X.env.kindOf .globalImplicit
def N9(I:AM)(a:NM)(b:BV7)(h:Q u s)
  (hd:HP:=by decide):D8D :=
 DZI (Calls.loadGlobal_global DZP b h)
def a3w(I:AM)(a:NM)(b:AGG)(d:BV6)(h:Q u s)
  (c:A4I:=by decide) (hd:HP:=by decide):D8D:=by
 rw[AJB e I.mod.blt];exact DZI (Calls.loadGlobal_builtin DZP b (IU I.ok.blt h1.keeps I.bk) ((h2 x c).trans d) h)
def c2o(a:NM)(b:BV7)(r:NQ)(hd:HP:=by decide):DF5 :=
 A1M H I (N9 I a b C2P hd)
def c2s(a:NM)(b:AGG)(d:BV6)(r:NQ)(c:A4I:=by decide)(hd:HP:=by decide):DF5 :=
 A1M H I (a3w I a b d C2P c hd)
variable {a b:Expr}{tb:TE}
/---/def PC(X:Cx)(op:CmpOp)(a b:Expr)(t:TE):Prop :=
 B2Z VK (APJ ->
  EJO (compareOp op v u) BHS)
/---/def tB(t:TE):TT:=MU t x (B58 (A44 c))
def c6q{c:CmpOp}{t:TE}(h:E86 c)(h1:v0 c:=by rw[EGZ]):DNA t:=pL Q hw (wpAny_Compare1 (B06 Q I hw) h1)
def b6H{e:CmpOp}{t:TE}(h:E86 e)(h1:v0 e:=by rw[EGZ]):gG (AKT aW [b]) (tB t):=by
 rw[jQ Q hw];refine wpAny_isTrue_Compare1 (thn DOF λv s1 h1=>thn h1 λu s2 h2=>EW h2 c k j) h1;rw[RX x f i g j];rw[DU d q g];cases i;rw[B0J H1 f q]
variable {tA tB':TT}{rest:BH}
/---/def c8g(t u:TT):TT:=MU t c (BVD u (A44 false))
/---/def tOr(t u:TT):TT:=MU t c (U3 c (A44 true) (ARB u))
/---/def c8b(t:TT):TT:=MU t c D67
def pw_and1(b:AIU):BWH KG tA:=by
 rw[ELG isTrue_and];cases c with
 |true=>exact isTrue_and_nil e
 |false=>exact e
def pw_or1(b:AIU):BWI KG tA:=by
 rw[ELG isTrue_or];cases c with
 |false=>exact isTrue_or_nil e
 |true=>exact e
def pw_and(f:AIU)(g:BWH nK tB'):BWH vX (c8g tA tB'):=by
 rw[EMX isTrue_and];cases c with
 |true=>rw[ELY]
 |false=>rw[AV H1 d e]
def pw_or(f:AIU)(g:BWI nK tB'):BWI vX (tOr tA tB'):=by
 rw[EMX isTrue_or];cases c with
 |true=>rw[AV H1 d e]
 |false=>rw[ELY]
def c5W(b:AIU):gG DID DK5:=by
 rw[AZ2 isTrue_not (ZE b (λc H1=>D67) I h)]
/---/def c4d(ta tb:TE):TE:=jH (B58 (BVD tb (A42 false H1)))
/---/def c8a(ta tb:TE):TE:=jH (B58 (U3 c (A42 true H1) (ARB tb)))
/---/def c9P(ta:TE):TE:=jH (B58 (A42 (! c) H1))
def c6l{op}{t:TE}(h:DF a t):AH3 op KG t:=pL Q hw (BoolOp_one (B06 Q I hw))
def c6s(f:UU)(g:AH3 .And nK tb):AH3 .And vX DCV:=by
 rw[EMU BoolOp_and];cases c with
 |true=>rw[BZH d]
 |false=>exact EO D1B H1 e d
def c8D(f:UU)(g:AH3 .Or nK tb):AH3 .Or vX DCW:=by
 rw[EMU BoolOp_or];cases c with
 |false=>rw[BZH d]
 |true=>exact EO (.bl true) H1 e d
/---/def tIf(t:TT)(ta tb:TE):TE:=MU t c (BVD ta (ARB tb))
def b7b(j:gG c tA)(g:UU)(i:pC):DF DJ3 (tIf tA ta tb):=by
 rw[AQD wpAny_IfExp (YI j d k)];rw[gX H1 f k];cases d with
 |true=>rw[BZH f]
 |false=>exact gQ i Q e f
#where
/---/def SqL(K:qF)(H:Hp)(a:qE)(xs:AE):Prop :=
 Rd H a (.lst xs) ∨
  EKC (D2I/\EAE (AOE "list") CY2)
/---/def SqT(K:qF)(H:Hp)(a:qE)(xs:AE):Prop :=
 Rd H a (.tup xs) ∨
  EKC (EAE D2I D5J)
/---/def c9B:qB->cZ
 |.none=>AC .non
 |AXH=>CA .bl b
 |C0U=>DL i
 |DMZ=>ANY x
 |.bytes b _=>CA .byt b
 |.float b _=>CA .flt b
 |BF=>MB
 |JK n=>CA .ty n
 |_=>none
def RelV.abs{x:V}(r:ZR):c9B u=AC x:=by
 cases x with
 |non=>rw[A6Q]
 |bl _=>rw[A6Q]
 |int _=>rw[A72]
 |str _=>rw[A72]
 |byt _=>rw[A72]
 |flt _=>rw[A72]
 |ref _=>rw[A6Q]
 |ty _=>rw[A6Q]
def RelV.inj{x y:V}{u:qB}(r:ZR)(q:LO):x=y:=Option.some.inj (r.abs.symm.trans q.abs)
def Vals.inj{xs ys:AE}{us:AQ}(h:ZG)(h':A6N):B1D:=by
 induction h generalizing ys with
 |nil=>cases h';rfl
 |cons r t a=>cases h' with|cons r' t'=>rw[r.inj r',a t']
section
variable {ys:AE}
def SqL.of(h:DOB):dN:=uU h
def SqT.of(h:A4E):XD:=uU h
def Inv.list(I:AM)(h:DCO):E1I PlainL:=by
 rcases h with h|⟨o,b,n,d,c,hd,hs,f,r⟩
 .rw[B6H b (h.ok I.hok)];rw[CK b r (OX n e rfl rfl rfl) z]
 rw[EN9 ⟨o,n,E49,c,hd,CUO⟩]
def Inv.tuple(I:AM)(h:DCP):E1I IsTup:=by
 rcases h with h|⟨o,b,n,d,c,hs,f,r⟩
 .rw[CL z b r p h.ok I.hok];rw[CK b r p.tup z]
 rw[EN9 ⟨o,E49,c,n,CUO⟩]
def Inv.list_inj(I:AM)(h:DCO)(h':D7Z SqL):B1D:=by
 obtain⟨c,r,⟨o,n,e,_,_,d⟩,_⟩:=CV5;obtain⟨b,g,⟨o',i,e',_,_,f⟩,_⟩:=I.list h';rw[EGF]
 rw[E8G]
 rw[DZZ]
def Inv.tuple_inj(I:AM)(h:DCP)(h':D7Z SqT):B1D:=by
 obtain⟨c,r,⟨o,e,_,n,d⟩,_⟩:=CV6;obtain⟨b,g,⟨o',e',_,i,f⟩,_⟩:=AW5 h';rw[EGF]
 rw[E8G]
 rw[DZZ]
#where
abbrev Cx.wish(X:Cx)(E:qI):Cx:={X with xe:=E}
abbrev Cx.nox(X:Cx):Cx:=X.wish λ_ _=>False
def Cx.Ok.wish(ok:X.Ok)(E:qI):E2O :=
 EPR
def Cx.Ok.unwish(ok:E2O):X.Ok :=
 EPR
def Inv.wish(I:AM)(E:qI):DDU:=B40 (I.ok.wish E)
def Inv.unwish(I:DDU):AM:=B40 I.ok.unwish
def SP.unwish{D:Ends}{f:Flow}{s':qC}(h:SP CL2 qL D f s'):CCM f:=by
 cases f with
 |next=>rw[C7S]
 |brk=>rw[C7S]
 |cont=>rw[C7S]
 |ret u=>obtain⟨v,σ',H',I,r,q⟩:=h;rw[NG v σ' H' I.unwish r q]
def PSs.nox{st:KL}{t:TS}(h:PSs X.nox st t):D97:=λqL s σ H D I hw =>
 BJC (B06 D (I.wish _) hw) (fW q q.unwish)
section
variable {st:Stmt}{rest:KL}{t u:TS}
/---/def c3Y:TS:=A17 A16
/---/def c5x(t u:TS):TS:=A17 D9A
def c1Q:PSs X [] c3Y:=EDU (CR9 BZS)
def b6J(h1:BXI)(h2:PSs X rest u):PSs X (st::rest) (c5x t u):=by
 rw[EI2 COU];cases f with
 |next =>
  obtain⟨σ',H',a,q⟩:=q;exact h2 qL s1 σ' H' D a q
 |ret v=>exact q
 |brk=>exact q
 |cont=>exact q
def c1P(h1:BXI):PSs X [st] t:=by
 rw[EI2 D];cases f with
 |next=>rw[AWM q]
 |ret v=>exact q
 |brk=>exact q
 |cont=>exact q
/---/def b6a:TS:=A17 (D.bk σ H)
def b6O:E3O PS:=EDU (wpAny_Break BZS)
def Inv.quiet(I:AM):JP interactive X.env:=AS2 interactive I.ok.kind
/---/def c3Z(te:TE):TS:=xX te _ D0M
def c1S(b:oT)(hs:DS9:=by rfl):PS X DP0 (c3Z te):=by
 rw[UO];exact wpAny_Expr_any (EED (A2L H1 a c)) I.quiet hs
/---/def c1s(te:TE):TS:=A17 (te σ H D.rt)
def c5Y(b:oT):PS X DI8 (c1s te):=by
 rw[UO];exact wpAny_Return_some (EED ⟨x,σ,H1,a,d,c⟩)
/---/def c9O:TS:=λD _ H=>D.rt .non H
/---/def c8c(c:TT)(t u:TS):TS:=xX c b (U3 b (t D σ H1) (u D σ H1))
def c8B{a b:KL}{tc:TT}(j:DGK)(g:PSs X a t)(i:PSs X b u):PS X (CNE .If) (c8c tc t u):=by
 rw[UO];refine wpAny_If (YI j d k);rw[gX H1 f k];cases d with
 |true=>exact gQ g D e f
 |false=>exact gQ i D e f
#where
abbrev TG:=V->St->D3R
abbrev TGs:=AE->St->D3R
/---/def PG(X:Cx)(target:Expr)(t:TG):Prop :=
 AK8 v V u qB VP NQ (nH t v ->
  aY (assign target X.env u) (FD s' D8E))
/---/def PGs(X:Cx)(ts:BH)(t:TGs):Prop :=
 AK8 vs AE us AQ VP A6M (nH t vs ->
  aY ((assignInOrder ((assignEach ts X.env).map (·.2)) us)) (FD s' D8E))
abbrev c1h:=E5X
/---/def c7J(X:Cx)(t:c1h):Prop :=
 ∀(qL:CV) (s:qC) (σ:St) (H:Hp) (o i v:V) (ov iv u:qB) (Q:CK5),AM->DRI->DN8->NQ->t o i v H Q ->
  aY (setItem ov iv u) (FD s' (∃H',oQ/\Q H'))
abbrev TIp:=AGT
/---/def PIp(X:Cx)(op:Operator)(t:TIp):Prop :=
 EK5 (t x y H Q ->
  cN (inplaceOp op v u))
/---/def A9(i:Nat):TG:=λv σ H Q=>Q CLY H
def c2m(b:X.N.Nodup)(hi:jD)(d:A78)(c:A7C:=by rw[eF]):DM7 PG:=by
 rw[bA v u r h];exact wpAny_assign_Name (ED1 a4L (λs' a=>UB H a h))
/---/def b1W:TGs:=λvs σ H Q=>vs=[]/\Q σ H
/---/def a0D(t:TG)(u:TGs):TGs:=λvs σ H Q=>∃v r,vs=v::r/\NZ t v λσ' H'=>u r σ' H' Q
def c2k:PGs X [] b1W:=by
 rw[bA vs a r h];rw[uL e h];rw[DG];cases r;exact assignInOrder_nil BZS
def b6X{t:TG}{u:TGs}(h1:AQ4 PG)(h2:PGs X es u)
  (hs:E8K:=by rfl):PGs X IO (a0D t u):=by
 rw[bA vs d r h];rw[bX v f e1 h];subst e1;cases r with
 |cons r rr =>
  rw[MY hs assignInOrder_cons (EW (ZE h1 _ _ _ I r h) _ s1 c)];obtain⟨σ1,H1,a,b⟩:=c;exact h2 qL s1 σ1 H1 _ _ Q a rr b
/---/def a9Q(K:qF)(n:Nat)(t:TGs):TG:=λv σ H Q=>∃a xs,v=BF/\XD/\A66/\nH t xs
def c6g{t:TGs}(g:ED)(h:DB5)
  (j:C5L:=by rfl) (c:C61:=by rfl):E9W (a9Q X.K n t):=by
 rw[bA v u r hw];obtain⟨a,xs,e1,l,i,hw⟩:=hw;subst e1;cases r;rw[CL q d m w I.tuple l];refine GQ (assign_Tuple_tuple (I.ok.hd g) m (by simp[j,<-i,d.length]) c) h' p;have f:ASN:=I.kept (t':=s.toks) λb o e=>kD p AV5;exact DSD H xs _ Q f BNO hw
/---/def c9a(to ti:TE)(t:c1h):TG:=λv σ H Q=>XN to o (QM ti i (t o i v H2 λH3=>Q σ H3))
def c6h{o i:Expr}{to d:TE}{t:c1h}(l:AHV)(hi:DF i d)(hs:c7J X t)
  (k:ECX (do
   let a <-holding [v] (eval o X.env)
   let b <-holding [v,a] (eval i X.env)
   standAt pos
   holding [v,a,b] (setItem a b v)
   release [v,a,b] []):=by rw[eC]):kG PG .Subscript o i (c9a to d t):=by
 rw[bA v u r h];rw[k];rw[ATE (YI l a c)];rw[RX x f q m c];rw[ATE (A4J hi f m b c)];obtain⟨y,H2,g,w,n⟩:=c;rw[YG wpAny_standAt (DM3 (EW (AAM hs x y v a b u _ g q w r n) _ z c))];rw[A3R e p c];exact wpAny_release (A2L e j p)
/---/def b3R(te:TE)(g:TG):TS:=xX te x (g x σ H1 D.nx)
def c6b{g:TG}(b:oT)(c:DCL)(hs:ED6:=by rfl)(hw:EHQ:=by rfl)
  (h1:DXU:=by rfl):E60 PS:=by
 rw[UO];refine wpAny_Assign_stores (cE b i) hs hw;rw[RX x a f d i];rw[AF h1 (thn (gQ c x v _ a f d) λ_ s2 q=>q)]
def c5X{pos':Pos}(c:X.N.Nodup)(hi:jD)(g:A78)(d:oT)(hs:DT6:=by rfl)(f:A7C:=by rw[eF]) :
  E71 PS:=by
 rw[UO];refine wpAny_Assign_Name (cE d l) hs;rw[RX y a k j l];exact a4L a c hi g k (λs2 b=>UB H1 b j) f
/---/def c4c(to ti te:TE)(tget:AGT)(tip:TIp)(tset:c1h):TS:=xX to o (QM ti i (tget o i H2 λx H3=>te σ H3 λy H4=>tip x y H4 λz H5=>tset o i z H5 λH6=>A8R H6))
/---/def c7K(X:Cx)(t:AGT):Prop :=
 CR6 o i ov iv (AM->DRI->DN8->t o i H Q ->
  cN (getItem ov iv))
def c1U{o i:Expr}{to n:TE}{b:AGT}{g:TIp}{c:c1h}{k:Operator}{tpos:Pos}(J:AHV)(hi:DF i n)(G:c7K X b)(F:oT)(hp:PIp X k g)(hs:c7J X c)
  (E:∀f d new,augStore i f d new=(do holding [new,f,d] (setItem f d new);release [new,f,d] [];pure .next):=by intros;rfl):PS X (.AugAssign D7V k e pos) (c4c to n te b g c):=by
 rw[UO];refine wpAny_AugAssign_SubscriptAny (YI J f a) E;rw[RX p x l K a];rw[wC (A4J hi x K d a) q H2 y m L a];refine thn (AAM G p q f d _ y l m L) λj T a=>?_;obtain⟨Y,r,z,Q,M⟩:=a;rw[wC (EW (OV F T r _ z M) v U a) Z t A R N a];refine thn (OV hp U t Y Z j v _ A Q R N) λnew W a=>?_;obtain⟨x5,u,B,S,O⟩:=a;exact thn (OV hs W u p q x5 f d new _ B l m S O) λ_ s6 ⟨w,C,P⟩=>A2L w C P
/---/def ipI(f:A73):TIp:=EHT (QG (f i j))
def c7n:PIp X .Add DP1:=by
 rw[ND a b];rw[WC i j e1 e2 q];subst e1;subst e2;rw[GC a];rw[eZ b];exact iadd_int (iT WP)
/---/def b5S(c:TT)(tb:TS):TS:=A17 (∃W:A5V,(∃m,DOU)/\∀m σ H,DOU ->
 XN c b (U3 b (BC4 (∃m',m'<m/\W m' σ' H') (C8V N N σ H1)) D0M))
def b6K{tc:TT}(hp:B75)(t:DGK)(r:DV2):PS X (E3K body) (b5S tc tb):=by
 rw[UO];obtain⟨W,⟨u,w⟩,d⟩:=h;refine wpAny_While (codeAny_whileLoop (λn s'=>BDK (W n σ' H')) ?_ u (A2L H I w));rintro n s1 ⟨σ1,H1,q,x⟩;rw[yF (EW (t qL s1 σ1 H1 _ q (d n σ1 H1 x)) b s2 y)];rw[ACZ H2 o y];cases b with
 |true =>
  rw[ACZ N p e];rw[F1];rw[yF (EW (r qL s2 σ1 H2 _ o e) f z g)];cases f with
  |next =>
   rw[EP9]
  |cont =>
   rw[EP9]
  |brk=>exact g
  |ret v=>exact g
 |false =>
  rw[BO (CF Bool.false_ne_true) wpAny_execs_nil ⟨σ1,H2,o,e⟩]
structure It where
 go:CVH
 yld:Nat->Hp->BO6
 stop:CVH
/---/def a3H(X:Cx)(qL:CV)(H:Hp)(b:qE):Prop :=
 KH/\AB8/\AYV/\CHB/\CGR/\CF9
def Inv.fpOk(I:AM)(a:BLQ b)(d:tO):BZV:=by
 refine⟨d,CIQ Nat.ne_of_gt I.lt a,I.nofs a,D74 I.sz a,BS x c e z,DV p f z⟩
 .rw[ZI v BHX];rw[FO (Nat.lt_of_lt_of_le q.lt BXE) cX]
 rw[II (tD (I.pin p f).1 BXE) cX]
structure Turn(P:qH)(w:World)(K:qF)(tg:Expr)(J:It)(fp:EK)(it:qE)(tn:D50):Prop where
 mem:it∈fp
 obj:∀i h,A27 h->DRV UJ
 keep:∀i h h',A27 h->A1L (∀o,UJ->AXB)->A27 h'
 item:EK7 (J.go i H ->
  FV vL X.A BIJ (λr s1=>∃u,r=AC u /\
   FV vL X.A (letOwnedTupleGo tg mL u) (FD s2 (∃x H',D1H/\ZR/\J.yld i H x H'/\tn AT s2.heap/\tY tO)) E s1) E s)
 done:EK7 (J.stop i H ->
  FV vL X.A BIJ (λr s1=>r=none/\eN s1) E s)
 self:EGC A Around i Nat (CKT->LV it s->KO vL (AYK it) Q)
abbrev TI:=B2K AXS
/---/def PIE(X:Cx)(qL:CV)(σ:St)(tg:Expr)(R:AXS)(itv:qB)(s2:qC):Prop :=
 ∃(it:qE) (fp:EK) (tn:D50) (J:It) (H':Hp),itv=mL/\D1H/\AKO Turn X.K tg J fp it tn/\tn 0 s2.heap/\A1L BZV/\R J H'
/---/def PI(X:Cx)(tg iter:Expr)(wi:TI):Prop :=
 AAN R AXS (AM->wi σ H R ->
  aY (QT iter) (λv s1=>v9 (pyIter v) EBZ s1))
def b3u{it:qE}{o:Obj}{n:String}{vs:DI}{Q:A62}(d:CWE it)(b:AOE n)(hd:DET vs)
  (c:JP ENG n) (a:Q () s):KO M (letOwnedTupleGo tg mL u) Q:=by
 unfold letOwnedTupleGo;cases tg<;>first
  |exact wpAny_pure a
  | (cases u <;> first
    |exact wpAny_pure a
    | (rw[BL (wpAny_load d ?_)]
       rw[b,hd];show KO M (A19 (HI (ENG n && vs[0]? == AEU rawInt))) Q;rw[BNK (A0I (by intro h;rw[c,Bool.false_and]at h;cases h)) a]))
/---/def Itl(K:qF)(a:qE):It :=
 EAP dN dN dN
/---/def Itt(K:qF)(a:qE):It :=
 EAP XD XD XD
/---/def Itr(lo:Int)(n:Nat):It:=⟨AYJ LG,AE6 x (H'=H/\AO8 (lo+i)),AYJ (n<=i)⟩
def b3N(a it:qE):DYL A6I h.IsListIter where
 mem:=AJ
 obj:=AJ1 b (by
  rw[vA it f]
  rw[C7J])
 keep:=E72
 item:=by
  rw[ELK];obtain⟨xs,x,j,l⟩:=A;rw[EIU];rw[D2 u L O C.get l];rw[A3O m n q r g];rw[ENA wpAny_pyNext_list_item p.isList (EER m n q r) (AH (I.list_inj M j) l) g]
 done:=by
  rw[ELK];rw[A3R xs l A];rw[EIU];rw[A3O m n q r g];rw[EKA wpAny_pyNext_list_end p.isList l (BWY G m n q r)]
 self:=B5T wpAny_pyIter_listiter
def b0o(a it:qE):DYL ACD h.IsTupleIter where
 mem:=AJ
 obj:=AJ1 b (by
  rw[vA it f]
  rw[C7J])
 keep:=E72
 item:=by
  rw[ELL];obtain⟨xs,x,l,m⟩:=B;rw[EG6];rw[D2 u L O C.get m];rw[A3O n q r t j];rw[ENA wpAny_pyNext_tuple_item DVU (EER n q r t) (AH (I.tuple_inj M l) m) j]
 done:=by
  rw[ELL];obtain⟨xs,l,m⟩:=B;rw[EG6];rw[A3O n q r t j];rw[EKA wpAny_pyNext_tuple_end DVU m (BWY G n q r t)]
 self:=B5T wpAny_pyIter_tupleiter
def b0p(it:qE)(lo:Int)(n:Nat):BL8 BW6 (IsRangeIter h it (lo+QS i*1) (EY-QS i) 1) where
 mem:=AJ
 obj:=λi h st b a=>by
  rw[vA it a]
  rw[DG];exact EM st (λv z=>by
   have y:Data.fields _=Data.cell v:=z;cases y)
 keep:=A4P k (AHK it st)
 item:=by
  rw[EP3];have W:=BG Walks.range prog X.prog w X.w CWZ it lo 1 n;refine B2D i s q st (EX v h' tk x st' kk);rw[GC x];have r:eN hQ:=I.turned (mE a kk dE) d f1 f g j;rw[WW (BG b3u s hQ n "range_iterator" st' rfl rfl AK ⟨BN4,H,r,GD t,AYA,st',λb a=>uA c a⟩)];rw[Int.mul_one]
 done:=by
  rw[EP3];exact wpAny_pyNext_range_end CWZ st (by have:n<=i:=q;rw[NE 0x17f14d72c2debd6]) λh' u=>FN (BDB (mE a u a) d f g j)
 self:=B5T wpAny_pyIter_rangeiter
/---/def c0u(K:qF)(tl:TE):TI:=EAG SqL A6I
/---/def c3E(K:qF)(tl:TE):TI:=EAG SqT ACD
def c2j{tl:TE}(f:AJE):D7Y c0u:=by
 rw[EOS (cE f m) g i c.list g];rw[C7K wpAny_pyIter_list p.isList c.kept (b3N a _) d d]
 rw[DXC]
def c6f{tl:TE}(g:AJE):D7Y c3E:=by
 rw[EOS (cE g m) i d c.tuple i];rw[C7K wpAny_pyIter_tuple (show s1.heap.IsTuple a d.toArray from p) c.kept (b0o a _) f f]
 rw[DXC]
def b6v{R:AXS}{lo hi:Int}{t u v:Tok}{tk:Nat}(I:AM)(h1 : BT1 lo)(h2:A9U lo)(c : BT1 hi)(d:A9U hi)
  (q:R (Itr lo BKC) H):FV T6 X.A (AYK s.heap.objs.size) EBZ E E5D:=by
 rw[EC wpAny_pyIter_range (IsRange.new ..) (small_one h1 h2 c d)];have a:eN E5D:=I.kept λb o e=>fO;refine⟨BSD,[BSD],_,_,H,rfl,
  (CFN a.kept (t':=tk)),b0p _ lo BKC,?_,gA f,q⟩
 .have e1:DF4=lo:=by simp
  have e2:E1Q=Builtin.Range.rangeSize lo hi 1:=by rw[rangeSize_one];split<;>omega
  show IsRangeIter _ _ DF4 E1Q 1;rw[DW e1 e2 IW]
 .rw[vA BSD f]
  rw[DXD]
/---/def c5j(ta:TA):TI:=C2V (∃j:Int,vs=kS j /\ BT1 j/\j<CDH/\R (Itr 0 j.toNat) H1)
def b4i{a:Expr}{ta:TA}{p:Pos}(f:CWL)(g:CYA)(d:PA X KG ta)(hs:DVE:=by rfl):AIH DRG (c5j ta):=by
 rw[ASY];refine Call_ (a3w I f g boot_range (PyProof.Rows.callWith_type1 (EW CC2 l s1 (TZ vs c k b)) hs rfl));obtain⟨j,e,b,i,q⟩:=b;rw[DG];cases k with
 |cons r rr =>
  cases rr;rw[GC r];exact call_range_1 (b6v c AG AG b i (CJ q))
/---/def c8d(wi:TI)(g:TG)(tb:TS):TS:=xX wi J (CB0 (W 0 m σ H1) (A74 ->
 AJ9 J.stop J.go m' m' (E9E σ') J.yld))
/---/def a5i(fp:EK)(h:Heap):CV:=fp.filterMap λb=>DAV b y8
def a0q{o:Obj}(a:b∈fp)(e:UJ):y8∈DP3:=YM List.mem_filterMap.mpr b a D4S
def b4v{p:qE×Obj}(hp:p∈DP3):DT∈fp/\iA DT QH:=by
 rw[D2 b a e List.mem_filterMap.mp hp];cases q:CUS with
 |none=>rw[GU q]
 |some o =>
  rw[q]at e;rw[AUK y8 p CTL];rw[AZ a q]
def Inv.pinned(I:AM)(f:BT9)(g:DRV QC):C5I (DJ5 s.heap) :=
 I.pins_of λp h=>(List.mem_append.mp h).elim (λz=>AQC (WD z)) λz=>by
  rw[OM a (b4v z)];obtain⟨c,f1,f2,_⟩:=f DT a;obtain⟨o,e',d⟩:=g DT a;rw[AU e e' e'];rw[EB e c f1 f2 d]
def Inv.unpinned{pl:CV}(I:C5I (qL++pl)):AM:=I.pins_of λp a=>AQC (WD (hZ a))
def c5Z{S:TI}{g:TG}(hp:B75)(P:ED)(hi:AR4 S)(hg:DCL)(k:DV2)
  (hs:AR9 (foldedSetIterable l X.env x):=by rw[eC]):PS X (.For tg l body [] pos) (c8d S g tb):=by
 rw[UO];refine wpAny_For (E12 a0) hs;rw[EPM V L A];have p:∀{H':Hp},AHX->tY BZV:=λhn b k=>⟨hn b k,(f2 b k).2⟩;refine codeAny_forLoop_any (λn s'=>∃i σ' H',BAX/\D48/\AHX/\W i n σ' H') ?_ m0 ⟨0,σ,H2,V,L,λb k=>uA f2 k,w0⟩;rintro n Q ⟨i,σ3,C,O,z,w,w3⟩;rcases A i n σ3 C w3 with⟨stop,qn⟩|⟨go,N,hN,step⟩
 .rw[yF (EW (EO4 T.done stop) r s4 ⟨G,Y⟩)];subst G;rw[AWM ⟨σ3,C,Y,qn⟩]
 .rw[yF (EW (EO4 T.item go) r s4 B)];rw[UP G h4 B];subst G;rw[yF (EW h4 _ R B)];obtain⟨x,M,Z,r5,y5,t,F⟩:=B;have E:=Z.pinned (p F) (A3Z T.obj);rw[yF (EW (EA4 (hg _ R σ3 M) E M) _ s6 B)];obtain⟨σ6,U,I6,q6⟩:=B;rw[yF (EW (k _ s6 σ6 U _ I6 q6) f K q)];have j:∀{σ7:St}{a:Hp},Inv X (DJ5 R.heap) σ7 a K->N σ7 a->∃m,m<n/\∃i σ' H',C9F K/\A27 K.heap/\AHX/\W i m σ' H':=λ{σ7 a} c y=>by
   obtain⟨m',hm,w7⟩:=hN σ7 a y;refine⟨m',hm,AT,σ7,a,c.unpinned,B5W t k e (c.pin y8 DWV).1,gA k,w7⟩;rw[gX o d (C12 t k)];exact A5E c.pin y8 DWV
  cases f with
  |next=>rw[EAY]
  |cont=>rw[EAY]
  |brk=>rw[A21 σ7 a q q];rw[CK σ7 a c.unpinned q]
  |ret v=>obtain⟨x7,σ7,a,c,r7,q⟩:=q;rw[NG x7 σ7 a c.unpinned r7 q]
def O2{g:TG}(c:A5V)(h0:BS1)(f:C3T dN)
  (hs:EE5) (hd:BXX) :
  AJ7 (A74 ->
   AJ9 (BWV stop) (BWV go) d d (W AT d σ' H') (BWV yld)):=by
 rw[EB3]
 rw[EG8]
 .rw[C3B]
  rw[AK0 (AUQ q)]
def b3v{g:TG}(c:A5V)(h0:BS1)(f:C3T XD)
  (hs:EE5) (hd:BXX) :
  AJ7 (A74 ->
   AJ9 (BWW stop) (BWW go) d d (W AT d σ' H') (BWW yld)):=by
 rw[EB3]
 rw[EG8]
 .rw[C3B]
  rw[AK0 (AUQ q)]
def a3B{lo:Int}{g:TG}(b:A5V)(h0:NZ b 0)
  (hs:∀i σ H,LG->DBD->A9Y (NZ g BN4) BQW BQW) (hd:AQP (NZ b n) A16) :
  AJ7 (A74 ->
   AJ9 (C1H stop) (C1H go) c c (W AT c σ' H') (C1H yld)):=by
 rw[ARY σ (n-i) (i<=n) DBD ⟨n,AJ,FF,h0⟩ σ];rw[iX LG]
 .rw[AVN a BQW E8O];rw[BDD];subst e y;exact hs i σ _ a p
 .have e:i=n:= ~~~a5B hi a
  rw[AK0 BW]
abbrev R2:=AGT
variable {r:R2}
/---/def OpR(X:Cx)(f:DZ8)(r:R2):Prop :=
 EK5 (DCZ ->
  cN BYQ)
/---/def UnR(X:Cx)(f:DAA)(r:B12):Prop :=
 AK8 x V v qB VK ZL (DI1 ->
  cN (f v))
/---/def E1(X:Cx)(f:qB)(r:AHY):Prop :=
 AK8 xs AE us AQ VK ZG (r xs H Q ->
  cN (call f us))
/---/def c9C(X:Cx)(r:V->AA5 UQ):Prop :=
 AK8 x V v qB UQ ZL (DI1 ->
  A8Q (truthy v) TP)
/---/def tOp(r:R2)(ta tb:TE):TE:=jH (BVE (r x y H2 Q))
/---/def tUn(r:B12)(ta:TE):TE:=jH (r x H1 Q)
/---/def rI(C:DMP)(g:B10):R2:=λx y H Q=>∃i j,AUF/\uC j/\C i j/\CYY
/---/def rI0(g:B10):R2:=EHT CYY
/---/def rU(g:D0O):B12:=QY x (∃i,AUF/\Q (g i) H)
section
variable {a b:Expr}{tb tc:TE}
def c7A(g:UU)(i:pC){R:V->BO6}(I:AM)
  (h:(XN ta x (BVE DII)))
  (j:∀v u s2 x y H2,DN1->ZL->LO->DII->v9 BYQ Q s2) :
  EJO BYQ Q:=by
 refine cE g c;rw[RX x d m k c];rw[wC (A4J i d k u c) y H2 e n l c];exact j v u s2 x y H2 e m n l
def V5{c:Operator}(g:sE c r)(e:UU)(f:pC):DF (C8G c) BPN:=by
 rw[AZ2 wpAny_BinOp (C7M E7K d i j (AJ6 g Q d i j q))]
def c8C{b:UnaryOp}{r:B12}(e:UnR X (unaryOp b) r)(d:UU):DF (.UnaryOp b a pos) (tUn r ta):=by
 rw[AZ2 UnaryOp_ (EIE e)]
def opI{C:DMP}{g:A73}
  (a:CR7 (C i j->DVA->ARM CO8)) :
  OpR X f (rI C λi j=>BJH):=by
 rw[ND c d];rw[E6B b];rw[gO];rw[eZ d];exact CPC s _ _ b D3Z
def c8J{g:A73}
  (a:DK2 DVA) :
  DIA BJH:=by
 rw[EFF D3Z]
def c2A{g:B9B Bool}
  (a:DK2 (AQ0 BEJ s)) :
  DIA D8B:=by
 rw[EFF (lA D8B q)]
/---/def c9j(i j:Int):Prop:=0<j/\CVC
/---/def c9i(i j:Int):Prop:=0<=j/\j<=1000000/\i.natAbs<2 ^ 64
/---/def CMul(i j:Int):Prop:=(-(A5Z)<i/\i<A5Z)∨(-(A5Z)<j/\j<A5Z)
def CMul.ok{i j:Int}(h:CMul i j):IntMulOk i j:=by
 rw[EFQ]
 rw[DNC .of_left]
 rw[DNC .of_right]
def c6G:AH6 BXM:=BDN c8J add_int
def c6u:sE .Sub D9H:=BDN c8J sub_int
def c6z:AH7 DS8:=AK7 _ _ (mul_int q a.ok)
def c2y:DWY c9j:=AK7 i j (by
 rw[EAT CVC];exact floordiv_int D52 E04 (jX PyProof.noPylong_small AG))
def c6A:sE .Mod (uI DND (i % j)):=AK7 i j (by
 have h1:NW<j:=a;exact mod_int' (YT a3n) (AH (Int.fmod_eq_emod_of_nonneg i (YT a2j)) q))
def c6w:sE .Pow (uI c9i DLT):=AK7 _ _ (pow_int_small a.1 a.2.1 a.2.2 q)
def unI{f:DAA}{g:Int->Int}
  (a:EGC i Int t Tok (ASM (.int (g i) s.toks)->ARM (f (.int i t)))) :
  UnR X f (rU λi=>DTE):=by
 rw[bA x v b h];rw[DU i q h];rw[mD];exact a i t s _ _ (iT DTE)
def c5t:UnR X (unaryOp .USub) DGY:=unI λ_ _ _ _ _ q=>neg_int q
#where
/---/def c8r:DPR
 |.non,.non=>true | .non,WP=>true | WP,.non=>true | .non,bI=>true | bI,.non=>true | .non,WU=>true | WU,.non=>true
 |WP,WP=>true | bI,bI=>true | WU,WU=>true | BMK,BMK=>true
 |WP,WU=>true | WU,WP=>true | bI,WU=>true | WU,bI=>true
 |_,_=>false
/---/def rEq:R2:=DPM (BEB (x=y))
/---/def rNe:R2:=DPM (CGF y)
def b3A{i j:Int}:iP (V.int i=B9Y) ((i==j)):=by
 rw[BQQ]
def c0M{i j:Bool}:E0J V.bl V.bl:=by
 rw[BQQ]
def b3z{i j:Str}:E0J V.str V.str:=by
 rw[BQQ]
def b3B{i j:CTU}:iP (V.byt i=V.byt j) ((i.toList==j.toList)):=by
 rw[Bool.eq_iff_iff];rw[mK i j];simp
section
variable {a b:Expr}{tb tc:TE}
def C5{Q:VK}{k k':Bool}(I:AM)(q:AA6 k)(e:k=k'):tQ (.bool k') s:=by
 rw[DG];exact lA (.bl k) q
def c4L:BQT rEq:=by
 rw[E6M];cases x with
 |non =>
  cases b;cases y with
  |non=>rw[XC PySem.EqNone.eq_none_none]
  |bl j=>rw[XC PySem.EqNone.eq_none_bool]
  |int j=>rw[dU PySem.EqNone.eq_none_int]
  |str j=>rw[dU PySem.EqNone.eq_none_str]
  |_=>rw[dV]
 |bl i =>
  cases b;cases y with
  |non=>rw[XC PySem.EqNone.eq_bool_none]
  |bl j=>cases a;exact eq_bool (zO c0M)
  |str j=>rw[dU PySem.EqMixed.eq_bool_str]
  |_=>rw[dV]
 |int i =>
  rw[mD];cases y with
  |non=>rw[XC PySem.EqNone.eq_int_none]
  |int j=>rw[A6O eq_int b3A]
  |str j=>rw[dU PySem.EqMixed.eq_int_str]
  |_=>rw[dV]
 |str i =>
  rw[mD];cases y with
  |non=>rw[XC PySem.EqNone.eq_str_none]
  |bl j=>rw[XC PySem.EqMixed.eq_str_bool]
  |int j=>rw[dU PySem.EqMixed.eq_str_int]
  |str j=>rw[A6O eq_str b3z]
  |_=>rw[dV]
 |byt i =>
  rw[mD];cases y with
  |byt j=>rw[A6O PySem.W.eq_bytes b3B]
  |_=>rw[dV]
 |_=>rw[E25]
def c4K:BQU rNe:=by
 rw[E6M];cases x with
 |non =>
  cases b;cases y with
  |non=>rw[XC PySem.EqNone.ne_none_none]
  |bl j=>rw[XC PySem.EqNone.ne_none_bool]
  |int j=>rw[dU PySem.EqNone.ne_none_int]
  |str j=>rw[dU PySem.EqNone.ne_none_str]
  |_=>rw[dV]
 |bl i =>
  cases b;cases y with
  |non=>rw[XC PySem.EqNone.ne_bool_none]
  |bl j=>cases a;exact ne_bool (zO (B07 c0M))
  |str j=>rw[dU PySem.EqMixed.ne_bool_str]
  |_=>rw[dV]
 |int i =>
  rw[mD];cases y with
  |non=>rw[XC PySem.EqNone.ne_int_none]
  |int j=>rw[A6O ne_int (B07 b3A)]
  |str j=>rw[dU PySem.EqMixed.ne_int_str]
  |_=>rw[dV]
 |str i =>
  rw[mD];cases y with
  |non=>rw[XC PySem.EqNone.ne_str_none]
  |bl j=>rw[XC PySem.EqMixed.ne_str_bool]
  |int j=>rw[dU PySem.EqMixed.ne_str_int]
  |str j=>rw[A6O ne_str (B07 b3z)]
  |_=>rw[dV]
 |byt i =>
  rw[mD];cases y with
  |byt j=>rw[A6O PySem.W.ne_bytes (B07 b3B)]
  |_=>rw[dV]
 |_=>rw[E25]
def c8G:QD .Lt (t9 (i<j)):=B38 lt_int
def a6E:QD .LtE xT:=B38 le_int
def c8H:QD .Gt (t9 (j<i)):=B38 gt_int
def c8I:QD .GtE (t9 (j<=i)):=B38 ge_int
def b7k:QD .Is C2S:=by
 rw[E8P is_none_gen];cases x<;>first
  |(cases a;rfl)
  |(rw[GC a];rfl)
def c2x:QD .IsNot C2T:=by
 rw[E8P isnot_none_gen];cases x<;>first
  |(cases a;rfl)
  |(rw[GC a];rfl)
def L4(b:Expr){a:CmpOp}(h:a≠.In:=by decide)(h2:a≠.NotIn:=by decide):v0 a:=by
 have e1:(a==CmpOp.In)=false:=by cases a<;>first|rfl|rw[FO rfl h]
 have e2:(a==CmpOp.NotIn)=false:=by cases a<;>first|rfl|rw[FO rfl h2]
 cases b with
 |Set elts k p=>show NU ((k==0 && (a==CmpOp.In || a==CmpOp.NotIn) && elts.all (constantsAlone 8)));rw[e1,e2,Bool.or_false,Bool.and_false,Bool.false_and]
 |_=>rfl
def a1v{c:CmpOp}(i:QD c r)(e:UU)(f:pC)(g:v0 c):DNA BPN:=by
 rw[LC];exact wpAny_Compare1 (C7M E7K d j k (AJ6 i Q d j k q)) g
/---/def M0(t:TE):TT:=C4R t (x=.bl k)
def J3{d:CmpOp}(o:QD d r)(l:UU)(m:pC)(n:v0 d):gG (AKZ d) (M0 (zI r)):=by
 rw[BQA wpAny_isTrue_Compare1 l g w p (AJA m g p (λu s2 (SI y i A q) =>
  thn (AJ6 o _ i w A q) λc C ⟨z,f,j,B,k,e,t⟩=>?_)) n]
 rw[DG];cases B;rw[B0J f j t]
/---/def a7n(r r':R2)(ta tb tc:TE):TE:=jH (BVE (r x y H2 λz H3=>∃k,z=.bl k /\
 MM (AY k) (tc σ H3 λw' H4=>r' y w' H4 Q) (A42 false H3)))
def b7g{i f:CmpOp}{n:R2}(E:DBN)(g:DPV)(A:UU)(B:pC)(C:DN9)
  (D:DDC:=by rw[eQ]):DF DBK (a7n r n ta tb tc):=by
 rw[BQA Compare_chain A q K F (chain_link (AJA B q F (λu s2 (SI y t o G) =>
  EJ3 (AJ6 E _ t K o) G N L))) D]
 rw[DG];cases L;rw[BH5];cases k with
 |false=>exact ite_ff (EO D1B j l m)
 |true=>exact ite_tt (chain_last (thn (OV C N j _ l m) λP O ⟨R,p,w,M,J⟩=>OV g O p y R u P Q w o M J))
def b6I{i f:CmpOp}{n:R2}(G:DBN)(g:DPV)(C:UU)(D:pC)(E:DN9)
  (F:DDC:=by rw[eQ]):gG DBK (EBS r n):=by
 rw[BQA isTrue_chain C t O K (test_link (AJA D t K (λu s2 (SI y w o L) =>
  EJ3 (AJ6 G _ w O o) L T P))) F]
 rw[DG];cases P;rw[BH5];cases k with
 |false =>
  obtain⟨k',e',J⟩:=m;cases e';exact ite_ff ⟨j,l,J⟩
 |true =>
  refine ite_tt (test_last (thn (OV E T j _ l m) λV U ⟨W,p,A,R,M⟩=>thn (OV g U p y W u V _ A o R M) λZ s5 Y=>?_));obtain⟨z2,q,B,S,k2,e2,N⟩:=Y;subst e2;cases S;rw[B0J q B N]
/---/def c7I(K:qF)(x:V)(H:Hp)(k:Bool):Prop :=
 match x with
 |.non=>NU k
 |ZZ=>k=b
 |ZW=>k=(i != 0)
 |BOG=>DYD
 |.byt y=>DYE
 |EZ=>BKA AIF (BKA BUR E3A)
 |_=>False
def b1R{κ:Type}{qM:NK}{vs:xV}(r:cO):(! vs.isEmpty)=! qM.isEmpty:=by
 cases r<;>rfl
def a5J{a:AQ}(r:AZ6):(! a.toArray.isEmpty)=! xs.isEmpty:=by
 cases r<;>simp
def a0Y:AZQ CTQ:=AEH
def c5w:c9C X (QY x (∃k,c7I X.K x H k/\Q k H)):=by
 rw[bA x v c h];rw[gX k q h];have o:=a0Y;rw[EC3];cases x with
 |non =>
  cases c;have e':k=false:=e;subst e';exact truthy_none ⟨H,I,q⟩
 |bl b =>
  cases c;rw[AUK k b e];rw[B0J H I q]
 |int i =>
  rw[gO];rw[AUK k ((D4V)) e];exact PySem.P.truthy_int ⟨H,I,q⟩
 |str y =>
  rw[EDG DYD];exact PySem.P.truthy_str AG D9V
 |byt y =>
  rw[EDG DYE];exact PySem.W.truthy_bytes (AX 0x2e0f444d1df83ebde1414bf72a9909854c6f90fbfc9d1266 hs j) D9V
 |ref p =>
  cases c;have e':DDB SqL (DDB SqT E3A):=e;rcases e' with⟨xs,d,e'⟩|⟨xs,d,e'⟩|⟨qM,d,e'⟩
  .subst e';rw[AHN f g l d];rw[E8H wpAny_truthy_list g.isList]
  .subst e';rw[AHO f g l d];rw[E8H truthy_tuple g]
  .subst e';obtain⟨l,n,vs,r,m⟩:BF6 (B8X p) (∃vs,cO/\s.heap.DictOf AVJ p vs):=A9A p d;have a:qM.length=vs.length:=BPR;exact wpAny_truthy_dict n m AG (CLR b1R)
 |_=>rw[yA e]
def b6G(d:UU)(e:C6U) :
  gG a (C4R ta (c7I X.K x H' k)):=by
 rw[LC];exact isTrue_plain (EIE c5w) (e _)
def b0W:AH6 EGM:=by
 rw[ND b c];rw[E6B a];rw[BIE];exact add_str (λt' tk=>iT (A3P (i++j))) a
def a3K{x:V}(r:D0W):EDD:=by
 cases r with
 |cons r1 r2=>cases r2;exact DS r1
def c7R{x y:V}(r:D0X):∃u a,us=[u,a]/\ZR/\RelV y a:=by
 cases r with
 |cons r1 r2 =>
  cases r2 with
  |cons r3 r4=>cases r4;rw[EB _ _ rfl r1 r3]
def b5n(b:ED):CZQ DJV:=by
 rw[QL c r];rw[bX i j rfl q];obtain⟨u,d,rfl,⟨t,rfl⟩,⟨t',rfl⟩⟩:=c7R r;refine min_two_ints (I.ok.hd b) λh' tk k=>TN _ (I.kept k) ?_ q;rw[iX (j<i)]
 .rw[ZX,ZX];exact TM
 .rw[dC,dC];exact TM
def b5w:BTG EHX:=by
 rw[QL a r];rcases h with⟨i,rfl,q⟩|⟨k,rfl,q⟩
 .rw[C7A];exact call_int_int (TN ZW I TM q)
 .rw[BJX r1];cases r1;exact call_int_bool (iT (BK CL8))
def a8t:iK "str" (PY (∃i,xs=ATN/\i.natAbs.log2<1920/\Q (zT toString i) H)):=by
 rw[QL b r];rw[bX i rfl a q];rw[C7A];exact PySem.P.str_of_int a (iT WU)
#where
structure ObjM(h:Heap)(x dx C:qE)(mA:BA):Prop where
 obj:JN h.get? BVO
 ns:C4G
 ne:BV3
def b4E(n:C4G):EJH (iA dx od):=by
 obtain⟨o,es,ep,g,hd,d,_,f⟩:=n;rw[DN o g (RB name)];have e:=f name;unfold nsFind findBy at e;rw[<-Array.find?_toList]at e;rw[EA PySem.W.lookIn hd];dsimp only;split
 .rename_i y q;rw[q]at e;exact congrArg some e
 .rw[BBD q q];have a:JP es.toList.any ((·.refKey)):=by
   rw[List.any_eq_false];intro y i;obtain⟨z,t,b⟩:=d y (Array.mem_toList_iff.mp i);simp[DictEntry.refKey,b]
  rw[FQ c (¬EG es.toList.any ((·.refKey))) a Bool.false_ne_true]
  rw[AF A5U (CX3 some)]
def ObjM.look{x:qE}(I:BFV h mA):EJH (PySem.W.InstAt h x BVO C (some od)) :=
 let ⟨od,ho,hl⟩:=b4E I.ns
 ⟨od,AFY I.obj ho,hl⟩
section
variable {prog:qH}{x f:qE}{name:Str}{v:qB}
def c3F{a:Bool}(X:A76)(I:BZQ)(d:DD7)(e:BUN)
  (c:A8J HJ name) (g:mA name=AC v) (b:CV0 v) (h:ASM v) :
  FH (getAttr ASF name a):=by
 obtain⟨od,J,f⟩:=I.look;exact PySem.W.get_value X J (PySem.W.plainGet_of d).1 (PySem.W.findObj_own e c rfl (IC f g)) b h
def c0x{Q:DOD}(X:A76)(I:BZQ)(a:DD7)
  (b:BJ1 name) (d:BS9) (e:ET mA name) (h:Q (A01,AAP x) s) :
  FH (getMethod ASF name pl):=by
 rw[DYY c];exact PySem.W.method_fn X J (PySem.W.plainGet_of a).1 (PySem.W.plainGet_of a).2 b (beq_iff_eq.mp d) (by show(PySem.W.lookIn name od).map (·.isSome)=some false;rw[c,e];rfl) h
def c1D{ns:AA}{Q:A62}(X:A76)(I:BZQ)
  (hs:DTR) (hp:D58) (n:DOJ name) (m:BUN)
  (hw:CMQ ns) (hsz:CT8)
  (h:∀h',BFV h' (λy=>if y=name then JZ else mA y)->D5L dx->Q () (AKY (s.toks+2))) :
  FH (setAttr ASF name v):=by
 rw[DYY p];refine PySem.W.set_plain X J hs (jO (PySem.W.osa_open (s:=sL) (r:=none) X J hp n) b);rw[D2 cd l f PySem.W.any_some m];have o:JN s.heap.get? ⟨HJ,CIJ,.plain,#[]⟩:=I.obj;rw[YG wpAny_pure (A54 wpAny_bind (wpAny_loadPart o (wpAny_bind (PySem.W.Looks.here (s:=sL) (PySem.W.looks_clsIn X l) ?_))))];rw[f];refine wpAny_pure (a:=CIJ) (wpAny_bind (CJU wpAny_bind));refine wpAny_nsSet1 (s:=sL) I.ns λh' c d=>?_;obtain⟨q,k,j,i,g,e⟩:=c.count (PySem.Within.cons name v hw);rw[BL (wpAny_lookBehind i (IU g pastItsLine_dict (Nat.le_trans e (IU List.length_cons b8O hsz))) ?_)];rw[wI (h _ ⟨sO (d.2 _ (Ne.symm I.ne)) I.obj,c,I.ne⟩ d)]
def b7M{R:nY}{vs:AQ}(X:A76)(b:BUO)
  (hi:DCF) (a:PySem.W.typeIn K A01=CA .type "function")
  (h:codeAny JM (E31 (WL (HJ::vs))) (AQ9 f (WL (AL GE::vs))) (PySem.W.InitBack GE R)
   EHK) :
  BZI (AQ9 C (WL vs)):=by
 rw[A99 c d t os s];exact PySem.W.make_core (PySem.W.makes_of X b) (PySem.W.looks_findIn X hi) (λself=>PySem.W.bind_fn X self a) PX h
#where
/---/def C6(f:Str)(v:V):OO->OO
 |[]=>D7F
 |bF g x=>E7V
def a3Q(f g:Str)(v:V):C0A (XW ATZ g=CRO JZ (fs.lookup g))
 |[]=>by
  show List.lookup g D7F=_;rw[BP h g f]
  rw[C5T f BNX]
  .rw[C3W f];rw[BFF AXN]
 |AR2=>by
  have b:=a3Q f g v r;rw[C7G]
  .rw[ZX];rw[BP h g k]
   rw[C5T k (if_pos (h.trans a))]
   .rw[C3W k];rw[BFF (DNU (h (e.trans a.symm)))]
  .rw[dC];rw[BP h g k]
   rw[C5T k (DNU (a (h.symm.trans e)))]
   .rw[C3W k];simp only[List.lookup,hb];exact b
def a3z(f:Str)(v:V):C0A (f∈AA0 CU9/\∀g,g∈AA0 fs.map->g∈AA0 CU9)
 |[]=>⟨CXP,λg h=>aG⟩
 |AR2=>by
  obtain⟨b,c⟩:=a3z f v r;rw[C7G]
  .rw[ZX];subst a;rw[AZ AJ (λg h=>AFM)]
  .rw[dC];rw[GF ?_ g h]
   .rw[AF List.map_cons CVR]
   .rw[List.map_cons]at h⊢;rcases CV2 with e|e
    .exact List.mem_cons.mpr (.inl e)
    .exact HV (c g e)
def a3R(f:Str)(v:V):C0A (BV ATZ<=fs.length+1)
 |[]=>CXP
 |AR2=>by
  have b:=a3R f v r;rw[C7G]
  .rw[BVT ZX];rw[SJ 3819009365109]
  .rw[BVT dC];rw[DQ 0x20938ef9aeb5c4d6 b]
def RelO.some_of{o:SZ}(r:RelO JZ o):∃u,o=AC u/\NQ:=by
 cases o with
 |none=>rw[yA r]
 |some u=>rw[iD u r]
def RelO.none_of{o:SZ}(r:RelO none o):PP o:=by
 cases o with
 |none=>rfl
 |some u=>rw[yA r]
def b4Q(r:NQ):CV0 u:=by
 cases v with
 |non=>rw[B4R BYB]
 |bl b=>rw[B4R (AYR b)]
 |int i=>rw[B2Y AHC]
 |str x=>rw[B2Y B0L]
 |byt b=>rw[B2Y (Value.bytes b t)]
 |flt b=>rw[B2Y (Value.float b t)]
 |ref a=>rw[B4R AL9]
 |ty n=>rw[B4R DOS]
section
variable {fs fs':OO}
def a4B(b:UV)(e:AGV):∃mA,ObjM h a dx C mA/\DSC/\DIR/\JR fs.length/\DC5:=by
 obtain⟨d,z,ne,c,mA,n,r,q⟩:=(A9O P w h gE (b a _ e));rw[NG mA ⟨c,n,ne⟩ r q z d]
#where
structure Cls(K:qF)(C:qE):Prop where
 pg:BK6 Str.empty
 hd:BUN
 po:D58
 sa:DTR
def Cls.get(c:UR)(f:Str):BK6 f:=c.pg
/---/def NoAttr(K:qF)(C:qE)(f:Str):Prop:=DGA
def NoAttr.taker{f:Str}(n:BSE):DOJ f:=by
 rw[EA PySem.W.takerIn (show DGA from n)];rfl
structure Meth(K:qF)(C:qE)(m:Str)(f:qE):Prop where
 at_:BJ1 m
 fn:BS9
 kp:ATV
section
variable {fs:OO}{f:Str}
def b1U{b:Bool}(I:AM)(e:AGV)(c:pJ)(n:D9X)(l:DZB)
  (h:∀u s',AD7->NQ->A11 u):mQ (getAttr BF f b):=by
 rw[EBK];rw[UP g d (COS CBR (by rw[vF l r f]))];exact c3F I.kIn O (c.get f) c.hd n g (b4Q d) (CNP u)
def a2p{m:Str}{g:qE}{Q:DOD}(I:AM)(e:AGV)(c:pJ)(k:Meth X.K C m g)(l:BYK)
  (h:Q (AL g,OG) s):mQ (getMethod BF m pl):=by
 rw[EBK];have b:ET mA m:=RelO.none_of (by rw[vF l r m]);exact c0x I.kIn O (c.get m) k.at_ k.fn b h
def b0E{y:V}{Q:A62}(I:AM)(e:AGV)(c:pJ)(n:D9X)(i:D1D)(t:LO)
  (h:BXH (KN (tM DUS) s')):mQ (setAttr BF f u):=by
 obtain⟨mA,O,r,k,_,j⟩:=CK2;have p:CB (QK ((fs.map (·.1)))):=by rw[gW sizeLine_eq];rw[DQ 0xb64b094d961220419a53580e5 i]
 refine c1D I.kIn O c.sa c.po n.taker c.hd k p λh' d v=>ATQ;have hd:∃o,BCF dx:=C4D o e' d.ns (lZ e')
 rw[EC (B5O a dx B1Z (DZ j)) (E3Q l v.2 l) hd];refine⟨ID O.ne j,?_,O.ne,d.obj,_,d.ns,RB g,BB g m⟩
 .rw[SD (BK9 a3R) 0xbde171e867e61948b65b180e6 i]
 .show RelO (XW (BK9 C6) g) (CRO AET (mA g));rw[a3Q];rw[BP q g f]
  .rw[DW AZI AZI t]
  .rw[KK AY2 AY2 r g]
 .rw[BP q g f]
  .rw[q];exact(DD9).1
  .refine(DD9).2 g (k g λz=>m ?_);show PP (MM (g=f) AET (mA g));rw[AF AY2 z]
def Inv.made(I:AM):Inv X qL σ (ACR (VA H s.heap.objs.size .own GE) GE s.heap.objs.size [])
  EHK:=by
 have e1:AYX PySem.W.emptyDict s.heap.objs.size=AC PySem.W.emptyDict:=AOR Heap.get?_push_size rfl;have e2:AIP PySem.W.emptyDict BJ4 GE BJ4:=by
  have:=Heap.get?_push_size CL1 (o:=BJ4) rfl;rw[wF Heap.size_push]
 have d:A87 PySem.W.emptyDict Ns s.heap.objs.size AXP:=rV PySem.W.emptyDict #[] _ e1 ((λe f=>ACC f)) A1E;have c:=EHA (o:=.own GE) CL1 D4F BW (DX e1);refine c.laid (a:=GE) (o:=.ins C s.heap.objs.size []) (t':=s.toks) D4F (DK7 Heap.size_push) ?_;have ne:s.heap.objs.size≠GE:=A3H;refine⟨C18 ne,FF,ne,e2,AXP,(Heap.Ns1.of_empty d).at λo q=>kR,CO True.intro,λy g=>absurd rfl g⟩
def c3R{prog:qH}{env:Env}{f:Str}(a:CMI env BUP BUP)
  (h:KO JM BUP (λo s₁=>dZ (getAttr o f true) Q E s₁)):FH (B0U (.Attribute e f pos)) :=
 Attribute_any_ h (IC arm_eval_Attribute a)
#where
/---/def c8e(K:qF)(ta:TE)(f:Str):TE:=jH (∃a C dx fs v,x=BF/\BYW/\UR/\BSE/\DZB/\A44 v)
/---/def c8s(K:qF)(ta tv:TE)(f:Str):TS:=xX tv y (QM ta x (∃a C dx fs,x=BF/\aV H2 gE/\UR/\BSE/\D1D /\
 A8R (upd H2 a DUS)))
section
variable {o value:Expr}{f:Str}{pos' tpos:Pos}{tv:TE}
def c6p(j:DF e ta)(i:EAQ):rP .Attribute e f (c8e X.K ta f):=by
 rw[LC];refine c3R i (YI j u o);obtain⟨x,H1,b,m,a,C,dx,fs,v,ex,g,c,n,l,q⟩:=o;rw[AA9 m];exact b1U b g c n l λp s2 d k=>TZ v d k q
def c6a(i:BRP)(j:DF6)(hs:DCA):B31 PS BKD (c8s X.K ta tv f):=by
 rw[UO];refine plainObj_wpAny_Assign_Attribute (thn (XS j) λu s1 (TZ y b r q)=>A4J i b q k t) hs;obtain⟨x,H2,d,p,a,C,dx,fs,ex,g,c,n,l,m⟩:=t;subst ex;obtain rfl:k=Value.ref a:=p;exact b0E d g c n l r λv e=>lJ σ _ m
#where
section
variable {c:qB}{b:Bool}
inductive TyOf(K:qF)(H:Hp):DEV where
 |non:A1W .non "NoneType"
 |bl (x:Bool):A1W (.bl x) "bool"
 |int (i:Int):A1W ZW "int"
 |str (x:Str):A1W SK "str"
 |flt (x:UInt64):A1W (.flt x) "float"
 |lst {a:qE}{xs:AE}(e:DOB):D9N
 |frz {a:qE}{o:Obj}{xs:AE}(e:YP E85):D9N
 |tup {a:qE}{xs:AE}(e:A4E):BET "tuple"
 |dK {a:qE}{qM:KM}(e:AHI):D9O
 |dT {a:qE}{qM:aA}(e:A7F):D9O
 |ins {a C dx:qE}{fs:OO}(e:AGV) (cl:UR) (ha:AMX HJ "__class__" (A0S "object.__class__"))
   (hn:PySem.W.specialIn K (.builtin "object.__class__") "__get__"=AC (A0S "getset_descriptor.__get__")) (htk:PySem.W.takesIn K (.builtin "object.__class__")=AC true)
   (hm:PySem.W.mroIn K C (.type "object")=AC true):B8W BF HJ
def b4N{x:V}{t:qB}(I:AM)(d:ZR)(ty:TyOf X.K H x t)(e:PySem.W.kitOne X.K t c=AC b)(h:∀tk,AQ0 b (AL8 tk)) :
  mQ (A2E "isinstance" [u,c]):=by
 cases ty with
 |non=>cases(jZ BYB d);rw[BEP PySem.W.kitx_none]
 |bl y=>cases(jZ (AYR y) d);rw[BEP PySem.W.kitx_bool]
 |int i=>rw[C6C AHC PySem.W.kitx_int]
 |str y=>rw[C6C (Value.str y t) PySem.W.kitx_str]
 |flt y=>rw[C6C (Value.float y t) PySem.W.kitx_float]
 |@lst a xs ea =>
  rw[D83 n h1 BGO];rw[DRY]
 |@frz a ob xs ea =>
  rw[ADV];obtain⟨_,_,_,n,_,h1⟩:=(AUP (.frz ob (.lst xs)));rw[DRY]
 |@tup a xs ea =>
  rw[ADV];obtain⟨_,_,_,p⟩:=AUP AY5;obtain⟨o,h1,h2,_⟩:=p.tup;rw[A9Z PySem.W.kitx_tuple (UC h1 h2)]
 |@dK a qM ea =>
  rw[D83 vs p B1W];obtain⟨o,es,ep,h1,h2,_⟩:=p;rw[E05]
 |@dT a qM ea =>
  rw[ADV];obtain⟨_,_,xs,_,o,es,ep,h1,h2,_⟩:=(AUP BV0);rw[E05]
 |@ins a C dx fs ea cl g k f j =>
  rw[ADV];obtain⟨mA,O,_⟩:=a4B I.hok ea;obtain⟨od,J,_⟩:=O.look;rw[A9Z (PySem.W.kitx_own (cl.get _) cl.hd g k f j) J]
#where
structure Room(k:Nat)(A:Around):Prop where
 hd:XA
 dp:A.depth+3*k+5<recursionLimit
 un:A.units+16*k+200<cLine
def Room.mono{j:Nat}(r:AZ7)(h:AH2):Room j A:=⟨r.hd,by rw[SD r.dp 0x64415643430504fa7ff1b38302ede09cb659d8 h],by rw[SD r.un 0x14b6e7c2a987b01575a26b10db66f41a4a661675b6aaceddb6e849c29d8 h]⟩
def Room.deeper(r:BBY A)(env:Env):Room k (A.deeper env) :=
 ⟨r.hd,by have:=r.dp;show A.depth+1+3*k+5<_;exact b9N this,by have:=r.un;show A.units+3+16*k+200<_;rw[NE 0xdb249e9b697533b97f4cb9a712c4506337d27]⟩
def b1f:DYW depth A.depth:=by
 first|rfl|simp[Around.under,Code.weight,Code.isCreation,Code.isGuard,Code.isCaller,Code.frames,Code.isFrame,guardIds]
def b1e:DYW units A.units:=by
 first|rfl|simp[Around.under,Code.cUnits,Code.frames,Code.isFrame]
def Room.make(r:BBY A)(C:qE)(us:AQ)(kw:mX):Room k (A.under COQ) :=
 ⟨r.hd,by rw[C0M r.dp b1f b9N],by have:=r.un;rw[AF b1e (lq 0x478e91d4b4b88e647596796a3ae06337d27 this)]⟩
def Room.depth(r:AZ7):A.depth<recursionLimit:=ACY r.dp 0x497e2cc6bcadd448b33ef9667
/---/def K9:TA:=BW1 []
/---/def J9(ta:TE)(tr:TA):TA:=jH (QM tr xs (Q EL H2))
def c6t:PA X [] K9:=λ_ _ _ _ H Q I h=>Calls.spliced_nil DUI
def c2t(c:oT)(d:B0C)(hs:DB:=by rfl):BXB PA J9:=by
 rw[BFW pos];rw[hs];rw[PZ _ (spliced (yY aN (BJ7 A7W)))];refine Calls.spliced_cons (YI c u k);rw[RX x a i f k];exact thn (AVH d pos a f) λl s2 (SI xs b j g)=>SI EL b (.cons i j) g
/---/def b5T(t:TA):TE:=DSI (jR (PQ H1 p xs))
/---/def b3Q(t:TA):TE:=DSI (CWA xs)
def c6j{x1}(h:B0C):rP .Tuple es x1 (b5T t):=by
 rw[EON wpAny_Tuple_spliced (PQ H1 s1.heap.objs.size xs)];rw[CK z f r DVN]
def c6n(h:B0C):DF DQX (b3Q t):=by
 rw[EON wpAny_List_spliced (HU H1 s1.heap.objs.size xs)];rw[EB z f 0 r IW]
abbrev Sp:=AE->Hp->EN VK XK
variable {sp:Sp}
abbrev CXT:=HL->Hp->qC->XK->qI
variable {CX:CXT}
structure Env0(P:qH)(w:World)(K:qF)(mg:BA)(base:Heap)(A:Around)(outer:HL)(s:qC)(H:Hp):Prop where
 frames:A.frames=AC outer
 mod:Mod K mg base
 bs:BCN base.get? DEI
 bsz:base.objs.size<=s.heap.objs.size
 funs:s.heap.FunFrames base outer
 frf:VN ACA KH
 hok:qZ H s.heap
 bare:D1S
/---/def CE(outer:HL)(P:qH)(w:World)(H:Hp)(s:qC)(Q:VK)(u:qB)(s':qC):Prop :=
 ∃v H',s'.os=s.os/\uZ/\DXR/\DBO/\NQ/\kX
/---/def CR(CX:CXT)(outer:HL)(P:qH)(w:World)(H:Hp)(s:qC)(Q:VK)(E:XK)(r:Result)(s':qC):Prop :=
 match r with
 |AOB u=>EMN
 |BML=>False
 |BN7=>BZW e s'
structure FnOk(P:qH)(w:World)(K:qF)(mg:BA)(base:Heap)(CX:CXT)(k:Nat)(f:qE)(fd:FuncData)(ps:AA)(sp:Sp):Prop where
 len:jM
 run:∀(A:Around) (outer:HL) (s:qC) (H:Hp) (args:Args) (us:AQ) (vs:AE) (Q:VK) (E:XK),AZ7->BZZ->BD6 args (ps.zip us)->A6M->bJ ->
  codeAny vL A (AQ9 f args) (CR CX outer P w H s Q E) s
def Env0.make{outer:HL}(e:BZZ)(C:qE)(us:AQ)(kw:mX) :
  CHT (E31 (WL CE9)):=⟨by first|exact e.frames | (simpa[Around.under,Code.envs,Code.isFrame,pushEnvs]using e.frames),e.mod,e.bs,e.bsz,e.funs,e.frf,e.hok,e.bare⟩
section
variable {s':qC}
def Inv.env0(I:AM):A8T Env0 X.base X.A X.stack s H :=
 ⟨I.ok.frames,I.ok.mod,I.bs,DGI,I.stack,I.stkFree,I.hok,I.bare⟩
def Inv.after{Q:VK}(I:AM)(h:CE X.stack X.prog X.w H s Q u s'):tQ u s':=by
 obtain⟨v,H',os,a,un,c,r,q⟩:=h;rw[A99 f d t e s'];obtain rfl:e=s.os:=os;rw[EB v H' (BG I.call h' f g' g (d':=d) (t':=t) (ch:=[]) un c a BWA) r q]
#where
/---/def a3M(sp:Sp)(dvs:AE)(E:XK)(t:TA):TE:=MU t vs (sp B3A H1 Q E)
/---/def a0I(C:qE)(m:Str)(sp:Sp)(dvs:AE)(E:XK)(ta:TE)(t:TA):TE:=jH (∃a dx fs,x=BF/\BYW/\BYK /\
 QM t vs (sp (x::(vs++dvs)) H2 Q E))
/---/def b2A(C:qE)(sp:Sp)(dvs:AE)(E:XK)(t:TA):TE:=MU t vs (∀x dx,AD5 x->AD5 dx->BV3 ->
 E8M (ACR (E37 H1) x dx []))
/---/def Binds(K:qF)(fd:FuncData)(ps:AA)(ds:AQ):Prop :=
 ∀(s:qC) (us:AQ),A76->B8B CVN->BD6 AO5 (ps.zip (us++ds))
def Binds.all(h:∀us:AQ,CAF->bindArgs fd AO5=CAV):nM:=λs us _ a=>by
 rw[List.append_nil]at a⊢;exact .of_eq (h us a)
/---/def a0z(CX:CXT)(X:Cx)(E:XK):Prop:=∀(qL:CV) (σ:St) (H:Hp) (s:qC) (e:qB) (s':qC),AM->CX X.stack H s E e s'->X.xe e s'
section
variable {f:qE}{dvs:AE}{ds:AQ}{E:XK}{m:Str}{p qO:Pos}{o:Expr}
def b0R{Q:VK}(F:yT)(g:aC)(c:yV)(hd:yG)(i:yN)
  (I:AM) (r:A6M) (h:sp B3A H Q E):DRN f:=by
 have b:RE B3A BJL:=r.append hd;rw[C31 d CVN b.length h]
 rw[AEY (A7O (F.run X.A X.stack s H AO5 BJL B3A Q E g I.env0 (c s us I.kIn d) b h) a)];cases r with
 |error e=>exact i qL σ H s e s' I a
 |ok fl =>
  cases fl with
  |ret u=>exact I.after a
  |next=>rw[NI a]
  |brk=>rw[NI a]
  |cont=>rw[NI a]
def b2Y(F:yT)(n:aC)(j:NM)(m:A4D x f)(l:kQ PySem.W.keepIn X.K A01)(g:yV)(hd:yG)(o:yN)
  (d:dX) (a:HP:=by decide) (i:DB:=by rfl) (b:IL:=by rfl) :
  AUR (a3M sp dvs E t):=by
 rw[LC];rw[AXC (N9 I j m ?_) a];rw[C4P l (BL3 u r q CXA) i b];exact b0R F n g hd o c r q
def b2X(w:BRP)(c:pJ)(j:E9S)(F:yT)(y:aC)(v:yV)(hd:yG)(A:yN)(p:dX)
  (d:DB:=by rfl) (b:IL:=by rfl)
  (z:QT AZF=(do
   let ov <-eval o X.env
   standAt qO.atName
   let (f,first) <-holding [ov] (getMethod ov m pl)
   callWith pos f first (backTo pos (starEach (e::es) X.env)) (backToKw pos (keywordEach [] X.env))):=by rfl) :
  DF (A8C AN2) (E5E E ta t):=by
 rw[LC];rw[C7T (YI w u J) z g D n J];rw[C52 D g n j];rw[EJK j.kp (thn (AVH p pos g q) λG s2 (SI vs i r B)=>GD i.kIn) d b];exact BG b0R us (BF::G) vs CK6 F y v hd A i DBW B
def b6Y(i:BRP)(c:pJ)(d:E9S)(F:yT)(j:aC)(g:yV)(hd:yG)(p:yN)
  (n:QT B2V=(do
   let ov <-eval o X.env
   standAt qO.atName
   let (f,first) <-holding [ov] (getMethod ov m pl)
   callWith pos f first (backTo pos (starEach [] X.env)) (backToKw pos (keywordEach [] X.env))):=by rfl) :
  DF B2V (E5E E ta K9):=by
 rw[LC];rw[C7T (YI i u t) n b r e t];rw[C52 r b e d];exact PySem.W.callWith_K0 (first:=OG) b.kIn d.kp (BG b0R us OG vs OG F j g hd p b DBX q)
structure Mk(K:qF)(C f:qE):Prop where
 makes:BUO
 init:DCF
 fn:BS9
 kp:D99
def a8Z{Q:VK}(M:BXY)(F:yT)(m:AIX)(j:yV)(hd:yG)
  (n:yN) (I:AM) (r:A6M)
  (h:∀x dx,DK x->DK dx->BV3->E8M C45) :
  DRN C:=by
 rw[AD c (h GE s.heap.objs.size DO8 bR A3H) b (Inv.made (C:=C) I)];have d:RE (CO1 CX5) E6F:=.cons rfl (r.append hd);have l:BV (BSJ++ds)=ps.length:=by
  have e:=d.length;rw[CDG c]at e;exact e.symm
 rw[AEY (b7M (f:=f) I.kIn M.makes M.init (CRA M.fn) (A7O (F.run _ X.stack _ _ (MD BSJ) E6F _ _ E (m.make C us [])
  (b.env0.make C us []) (j _ BSJ b.kIn l) d c) a))]
 cases r with
 |error e=>exact n qL σ _ _ e s' b a
 |ok fl =>
  cases fl with
  |ret u =>
   obtain⟨v,H',g,p,i,o⟩:=b.after a;subst i;rw[AZ p (EO CX5 H' g o)]
  |next=>rw[NI a]
  |brk=>rw[NI a]
  |cont=>rw[NI a]
def c2n(M:BXY)(F:yT)(m:AIX)(j:NM)(l:DHD)(g:yV)(hd:yG)(n:yN)
  (d:dX) (a:HP:=by decide) (i:DB:=by rfl) (b:IL:=by rfl) :
  AUR (DY7 t):=by
 rw[LC];rw[AXC (N9 I j l ?_) a];rw[C4P M.kp (BL3 o r q CXA) i b];exact a8Z M F m g hd n c r q
def b6Z(M:BXY)(F:yT)(e:AIX)(c:NM)(d:DHD)(b:yV)(hd:yG)(g:yN)
  (a:HP:=by decide):DF D7N (DY7 K9):=by
 rw[LC];rw[AXC (N9 I c d ?_) a];exact PySem.W.callWith_K0 I.kIn M.kp (a8Z (us:=[]) M F e b hd g I .nil h)
#where
section
variable {f:qE}{ks:AA}{E:XK}{m:Str}{p qO kpos:Pos}{o:Expr}{kws:A88}{tk:TA}{nm:CT4}
variable {g:E2K}{gV:DWA}
#where
structure FnScope(N P:AA)(sc:Scope):Prop where
 kind:CRH sc.kind:=by rfl
 co:NU sc.isCoroutine:=by rfl
 gen:NU sc.isGenerator:=by rfl
 nd:N.Nodup:=by rw[pS]
 pre:N.take P.length=P:=by rfl
 par:EQ P DIQ:=by rw[pS]
 nofree:NY sc.names (y.2≠.free):=by rw[pS]
def a6Z{kindOf:AXU}{x:Str}:EG9 (BWN binds)
 |[],_,_=>rfl
 |D9F,m,h=>by
  rw[EHP bindL a6Z]
  .rw[E8B]
   simp[this]
  .rfl
def a7b{kindOf:AXU}{x:Str}:EG9 (BWO binds)
 |[],_,_=>rfl
 |D9F,m,h=>by
  rw[EHP bindC a7b]
  .rfl
  .rw[E8B]
   simp[this]
def a7a{kindOf:AXU}{x:Str}{v:qB}:EO3 (AML kindOf ->
  BWN BCX=AC v)
 |[],_,_,_,_,h,_,_=>aG
 |F2,[],_,_,_,_,h,_=>aG
 |B39,B02,0,m,nd,h1,h2,a=>by
  rw[EM5 bindL bindL a6Z ZX]
 |B39,B02,AT,m,nd,h1,h2,a=>by
  rw[EJ7 (BWN BL2) bindL a7a]
def a7c{kindOf:AXU}{x:Str}{v:qB}:EO3 (kindOf x≠AC .local ->
  BWO BCX=AC v)
 |[],_,_,_,_,h,_,_=>aG
 |F2,[],_,_,_,_,h,_=>aG
 |B39,B02,0,m,nd,h1,h2,a=>by
  rw[EM5 bindC bindC a7b dC]
 |B39,B02,AT,m,nd,h1,h2,a=>by
  rw[EJ7 (BWO BL2) bindC a7c]
/---/def start(N:AA)(vs:AE):St:=vs.map some++List.replicate (N.length-vs.length) none
/---/def G2(CX:CXT)(P:qH)(w:World)(K:qF)(mg:BA)(base:Heap)(N:AA)(qual:Str)(scope:Scope)(f:qE)(cd:qB)(A:Around)(outer:HL)(s:qC)(H:Hp)(E:XK):Cx where
 prog:=P
 w:=w
 K:=K
 mg:=mg
 base:=base
 A:=EBT
 N:=N
 s₀:=s
 H₀:=H
 env:=ATL
 outer:=outer
 stack:=ATL::outer
 ex:=[]
 calm:=true
 fn:=CV9
 pn:=[]
 xe:=λe s'=>FV vL EBT (leaving ATL e) (FD s'' (BZW e s'')) (λe' s''=>BZW e' s'') s'
def b0e{a:Scope}(h:AC0 a.names.lookup):∃c,uR (BE3 a.names []):=by
 have q:=PySem.W.cellsFrom_some a.names n [] (EU h);exact Option.isSome_iff_exists.mp q
def b4O{N:AA}{qual:Str}{scope:Scope}{f:qE}{cd:qB}{outer:HL}{s1:qC}{E:XK}
  (S:E4P) (hd:XA) (d:BZZ) (B:C94) (r:A6M)
  (x:InCallC s s.heap.objs.size (EHW bindL) DTS (EHW bindC) s1) :
  E6R D2N:=by
 have o:ps.length<=N.length:=by rw[A33 congrArg List.length S.pre List.length_take];rw[NE 0xd3c6d869c5cf4d6]
 obtain⟨h1,tk,rfl,t⟩:=x.done;have j:∀b:qE,b∉(D2N).ex:=λb z=>ACC (C0D z);refine⟨⟨d.mod,S.kind,rfl,rfl,BW,DY y z c h1 h2,A1O g,BS y c _ h,CO hd,Around.frames_deeper d.frames,DZ AYA,EEL,d.bs,d.bsz,λb _ _=>j b,EEL,d.funs,d.frf⟩,
  rfl,d.bare,Un.kept t,(EM x.toInCall.ns (EX i y v h1 h2 G)),λy c h=>DX (x.cell y c h),CY5,DV y c h,λp l=>ACC (show p∈([]:CV)from l),d.hok.kept t,?_⟩
 .exact name_of_addr x.apart (PySem.mem_of_lookup h1) (PySem.mem_of_lookup h2)
 .have g:scope.names.lookup y=AC .cell∨scope.names.lookup y=AC .free:=g;rcases g with g|g
  .exact b0e g
  rw[II rfl (S.nofree _ (PySem.mem_of_lookup g))]
 .exact Nat.le_of_lt EFA
 .have hi:i<vs.length:=by
   unfold start at h2;rw[D9K]
   .exact hi
   .rw[BGI List.getElem?_append_right hi]at h2;rw[List.getElem?_replicate]at h2;split at h2<;>cases h2
  have D:ABG:=by
   unfold start at h2;rw[BGI List.getElem?_append_left hi,List.getElem?_map]at h2;cases e:vs[i]? with
   |none=>rw[AU e h2 h2]
   |some a=>rw[AU e h2 h2];rfl
  rw[iR u C F D];have l:DJ ps y:=by
   rw[<-S.pre,List.getElem?_take_of_lt (kM a5z B)];exact h1
  have m:ps.Nodup:=by rw[vF S.pre S.nd.sublist (BR List.take_sublist)]
  rw[DN u F ?_];rcases RU S.par y l with k|k
  rw[IH ⟨k,a7a m l C k⟩]
  .rw[OM c (b0e (n:=GE) k)];rw[AA2 (lJ BNN c ?_)];rw[AU3 (x.cell y c e) (a7c m l C (by show scope.names.lookup y≠_;rw[XL k]))];exact q
 .exact d.hok.fresh (Nat.le_of_lt EFA)
 .unfold start;show _=N.length;rw[BLV List.length_append List.length_replicate];rw[D4 0x350de526138b42d14bddebdf838457 B o]
def c0z{f:qE}{name qual:Str}{c:Arguments}{scope:Scope}{G kV h pm a ct oc:qB}{an od:IY}
  {B:eH}{N:AA}(lk:B6Z ENX B) (m:C1S a) (S:E4P)
  (l:jM)
  (d:∀(A:Around) (outer:HL) (s:qC) (H:Hp) (vs:AE) (Q:VK) (E:XK),BB5 qual scope (bJ ->
   BBA PSs C2I body)) :
  AA3 base CX DA f ENX ps sp:=by
 rw[EV l (λA outer s H F W vs Q E p i L r j=>?_)];have O:=TJ l j;have D:A76:=DHN i.mod.kin.keeps;have z:s.heap.NoLimit:=DHN i.mod.nolimit.keeps;have g:NY (ps.zip W) (DME .local∨(DME .cell/\AY (XW DTS cF).isSome)):=λ⟨n,v⟩ U=>by
  rw[SC (S.par n (List.of_mem_zip U).1)]
  rw[IH q]
  rw[HM (BG7 (IE PySem.W.cellsFrom_some (EU q)))]
 refine codeAny_call_function p.depth (AI D lk) rfl S.co S.gen rfl (PySem.W.codeRec_of D m) (TJ L ?_);rw[DO (wpAny_newFunctionEnv_cells S.kind g) env M s1 x];subst M;rw[EV (z.keeps x.toInCall.keep) (codeAny_func ?_)];obtain⟨t,T,R⟩:=d A outer s H vs Q E (p.deeper _) j;have I:E6R C2I:=b4O S p.hd i O r x;refine kL (T [] s1 B9D H _ I R) (DV fl s' hs) e s' hs hs;have fin:∀{σ':St}{H':Hp}{v:V}{u:qB},E4Z C2I []->NQ->kX->EMN :=
  λ{σ' H' v u} J C q=>⟨v,H',J.os,J.bare,J.base,J.hok,C,q⟩
 cases fl with
 |ret u =>
  obtain⟨v,σ',H',J,C,q⟩:=hs;exact fin J C q
 |next =>
  obtain⟨σ',H',J,q⟩:=hs;exact fin (v:=V.non) (u:=Value.none) J rfl q
 |brk =>
  rw[EBG]
 |cont =>
  rw[EBG]
section
variable {p:Pos}{id T:String}{r:AHY}
/---/def tCB(r:AHY)(t:TA):TE:=MU t vs (r vs H1 Q)
def E5(f:rE id r)(i:NM)(j:AGG)(l:dQ x id)(d:dX)(k:A4I:=by decide)(a:HP:=by decide)
  (g:DB:=by rfl) (b:IL:=by rfl):DVV:=by
 rw[EOM PyProof.Rows.callWith_builtin1]
def S1(f:iK T r)(i:NM)(j:AGG)(l:nG x T)(d:dX)(k:A4I:=by decide)(a:HP:=by decide)
  (g:DB:=by rfl) (b:IL:=by rfl):DVV:=by
 rw[EOM PyProof.Rows.callWith_type1]
#where
universe L2
namespace HT
open PySem PyProof.Rows
/---/def lexLt:DSY
 |[],[]=>false
 |[],F2=>true
 |F2,[]=>false
 |EL,FY=>DD4
def lexLt_cons(x y:Int)(xs ys:qJ):lexLt EL FY=DD4:=rfl
def rcLt_int(A:Around)(s:qC)(a:Int)(t:Tok)(c:Int)(u:Tok)(prog:qH)(w:World)(E:qI)(Q:qI)(h:Q (AKH .bool (a<c)) s) :
  E19 richCompare :=
 (PyProof.Rows.lt_int h:E19 compareOp)
section
open PySem.SeqAt
open PySem.AutoSeq1 (wpAny_loadPart')
open PySem.MeetsSeq PySem.MeetsSeq2 PySem.MeetsSeq3
#where
section
variable {prog:qH}{w:World}{A:Around}{E:qI}{s:qC}
def cat_tup{t b:qE}{vs a:AQ}{Q:qI}(r:BJ8 t vs.toArray)(q:BJ8 b a.toArray)(o:FW vs)
  (h1:a=[]->DF7) (h2:AYI->wU (BJW DH5))
  (k:CB (vs.length+a.length)):FH (binaryOp .Add bZ GG):=by
 rw[BLF i m n (id r)];obtain⟨⟨l,d,j,h⟩,c,f,p,g⟩:=id q;simp only at m hd f g;subst m hd f g;have e:BG1 vs.toArray=DH5:=by simp
 rw[BP hw a []]
 .exact E1M
   (EKR tuple_addW1 sl h CUK (JY hw)) ⟨i,c,h1 hw⟩
 .refine E1M
   (EKR tuple_addW2 sl h CUK CBN (DBM k)) (A4Y i c)
  rw[BO e h2 hw]
/---/def sIx(n d:Nat):FX->Nat
 |none=>d
 |JZ=>if v<0 then CJQ else min v.toNat n
def sIx_none(n d:Nat):sIx n d none=d:=rfl
def sIx_nat(n d k:Nat):sIx n d A56=BJ9:=by
 show sV (lF<0) (MF (lF+EY)) (min (lF).toNat n)=BJ9;rw[CJ7,Int.toNat_natCast]
def c5I(n d:Nat)(hd:d<=n)(o:FX):sIx n d o<=n:=by
 cases o with
 |none=>exact hd
 |some v =>
  show EA3<=n;rw[iX (v<0)]
  .rw[PM ZX]
  .rw[AF dC CIS]
def b3E(v:Int)(n d:Nat):E46=BBH d JZ:=by
 show E46=ER (EA3);rw[iX (v<0)]
 .rw[BG9 ZX]
 .rw[BG9 dC]
def b2j(lo hi:FX)(n:Nat):E5F=(B5A,DTH):=by
 rw[A5A h1 (¬(PV<0))]
 unfold Builtin.Slice.sliceAdjust;simp only[h1,if_false];rw[LF Prod.ext ?_]
 .cases lo with
  |none=>rfl
  |some v=>exact b3E v n 0
 .cases hi with
  |none=>rfl
  |some v=>exact b3E v n n
def b0U(i j:Nat):Builtin.Slice.slicePlaces OE QP 1=j-i:=by
 unfold Builtin.Slice.slicePlaces;rw[A5A h1 CJL]
 simp only[h1,if_true,Int.ediv_one];split<;>omega
def a4M{v:qB}{o:FX}{Q:PH FX}(p:IsPart v o)(h:Q o s):FH (Builtin.Slice.slicePartIndex v):=by
 cases p with
 |none=>exact slicePart_none h
 |int i t=>exact slicePart_int h
def Y9{sl:qE}{c d:qB}{lo hi:FX}{n:Nat}{Q:PH (Int×Int×Nat)}(hs:s.heap.IsSliceOf sl c d .none)(pl:IsPart c lo)(f:IsPart d hi)
  (h:Q (B5A,1,sIx n n hi-sIx n 0 lo) s):FH (RC Builtin.Slice.sliceApplied sl (A3Q EY)):=by
 rw[CL os b e a id hs];unfold Builtin.Slice.sliceApplied Builtin.Slice.sliceFields;rw[BQK (A54 (AJY a c) (A54 (AJY a d) (AP1 (AJY a .none))))];rw[MC slicePart_none];rw[ATM (AC5 PV)];rw[BS5];rw[BL (a4M pl (wpAny_bind (a4M f (A1I wpAny_pure))))];rw[PZ _ (match E5F with | (lo,hi)=>A3Q (lo,PV,Builtin.Slice.slicePlaces lo hi 1))];rw[b2j lo hi n];rw[PZ _ (A3Q (B5A,PV,Builtin.Slice.slicePlaces B5A DTH 1))];rw[BNK b0U h]
def b6V(xs:DI)(i k:Nat):A23 ((List.range k).filterMap λ(QS m)=>D5Y)=D3D (bE xs.toList.drop i):=by
 have e:(λCDC=>D5Y)=DE5:=by
  funext m;have:CP6=i+m:=AG
  rw[this]
 rw[e];rw[OA (pick_run xs i k) List.filterMap_map];have e2:((FE xs[x]?) ∘ FE (i+x))=DE5:=rfl;rw[TD e2];rw[this]
def getItem_tuple_cut{t sl:qE}{items:DI}{j k:qB}{lo hi:FX}{Q:qI}(b:DIL)(hs:C2L j k)(pl:IsPart j lo)(n:IsPart k hi)
  (hw:¬(E6N))
  (h:wU (BJW DJN))
  (g:CB items.size):ECH:=by
 have a:sizeOk (.seq DJN):=by
  show CB (CPN toArray.size);rw[DLF List.size_toArray Array.length_toList];rw[DQ 0xf67a5586ad54be2fa9373fd357298a78851a5e3bdacb3975d8 g]
 have p:ANT<=items.size:=AO c5I BW hi;rw[CL os f d l id hs];have c:DSF:=⟨os,f,d⟩;unfold getItem
 rw[CS3]
 first|rw[A65]|skip
 rw[DQL b.typeIs (DT9 b.typeIs
  (EF9 b.typeIs))]
 rw[EE3 (tupleItemsOf_ b ?_) (wpAny_typeOf c ?_) n];have e:¬(ELX):=by
  intro q;rw[Bool.and_eq_true,Bool.and_eq_true]at q;have i:CJA=0:=CRB CS.1;have o:CFP=items.size:=eq_of_beq DM;exact hw ⟨BI 0x346f1040d2e312d8455 i,AX 0x7299abaece81d0dc9c1b5808f0402497e1457 i o⟩
 rw[ATM ELX];rw[FZ,b6V]
 first
  |rw[DML E0X]
  |rw[DML (CMT wpAny_bind D7P)]
  |rw[A58 (wpAny_bind (m:=BAA) (wpAny_newObj_type D7P a))]
  |rw[A58 (wpAny_bind (m:=BAA) E0X)]
#where
universe HT
namespace L2
open PySem PySem.Spec PyProof.Rows
variable {H:Hp}{X:Cx}{n:Nat}{qL:CV}{s:qC}{us:AQ}{x:V}{xs:AE}{α:Type}{σ:St}
abbrev TO:=B2K CVJ
/---/def PO(X:Cx)(e:A5C)(t:TO):Prop :=
 B2Z CVJ (APJ ->
  aY (eJ evalPart e) (λu s'=>∃o H',oQ/\IsPart u o/\TH o))
/---/def K5:TO:=BW1 none
/---/def b2z(t:TE):TO:=MU t x (∃i,AUF/\A44 (AC i))
def b1S{ns:qJ}:∀{us:AQ},A3W ns.map V.int us->IntsAre us ns:=by
 induction ns with
 |nil=>intro us r;rw[C0S r r]
 |cons n ns a =>
  intro us r;rw[AWA r];cases r with
  |cons r1 r2 =>
   rw[OM t r1];rw[uP (.cons n t (a r2))]
section
variable {e:Expr}{te:TE}{lo hi:A5C}{tl th:TO}{pos p2:Pos}
def c1Y:PO X none K5:=by
 rw[LC];rw[BNK evalPart_none (TN none I .none h)]
def c1X(h:oT):PO X BGE D6T:=by
 rw[jQ Q hw];rw[evalPart_some];refine EW DOF u s1 d;rw[RX x a c b d];rw[DU i q b];rw[gO];rw[EB (AC i) H1 a AP5 q]
/---/def SlR(X:Cx)(r:A7S):Prop :=
 ∀(qL:CV) (s:qC) (σ:St) (H:Hp) (x:V) (v vl vu:qB) (lo hi:FX) (sl:qE) (Q:VK),AM->ZL->C2L vl vu->IsPart vl lo->IsPart vu hi->r x lo hi H Q ->
  ∃T id,E1C/\DQJ/\cN (getItem v (AL sl))
/---/def tSl(r:A7S)(te:TE)(tl th:TO):TE:=MU te x (QM tl l (th σ H2 λu H3=>r x l u H3 Q))
def a5j{r:A7S}(t:SlR X r)(n:oT)(p:PO X lo tl)(y:PO X hi th):BRO e AVD (tSl r te tl th):=by
 rw[AQD Subscript_ (cE n d)];rw[RX x g E B d];refine wpAny_Slice (thn (A90 p g B) λc s2 (SI l i z C)=>EW (B4I y i C) vu a d);obtain⟨u,f,j,A,D⟩:=d;rw[evalPart_none];rw[ADI];have k:KN f C69:=j.kept (t':=a.toks) λb F q=>kR;obtain⟨T,id,m,w,o⟩:=OV t C69 f x v c vu l u a.heap.objs.size Q k E (Heap.IsSliceOf.new ..) z A D;show FV T6 X.A (subscriptTail e AVD v CIM) BHS X.xe C69;exact tail_any (ops:=[CIM,v]) w m o CH
/---/def V2(xs:AE)(lo hi:FX):AE:=CNX xs.drop
def a3W(xs:AE)(lo hi:FX):BV ABL<=xs.length:=by
 unfold V2;rw[KK List.length_take List.length_drop lq 0x889ddb398b0a9203f8af42d478e50ebcd191fce7b57]
/---/def b6y(K:qF):A7S:=C6V (C2U (XD /\
 D0C/\DGD))
def b6g:AHU SlR b6y:=by
 rw[C83 k i j];obtain⟨a,xs,rfl,g,hw,q⟩:=h;cases k;rw[AHO d e f g];rw[hJ c d.toArray.size xs.length List.size_toArray r.length.symm]
 rw[E0R e.typeIs];refine HT.getItem_tuple_cut e hs i j (AH c hw) ?_ (AH c f);rw[c];refine BJY ABL l AGF;rw[CK (bP D41 f) _ DJA AF7]
/---/def c8z(K:qF):R2:=C3K a ys BF XD (BD2 b) CJF (DCB /\
 (ys=[]->LV a H)/\(FW ys->A8N (ABI AUY)))
def Vals.nil_iff(r:ZG):us=[]↔xs=[]:=by
 cases r with
 |nil=>simp
 |cons _ _=>simp
def c2z:AH6 (c8z X.K):=by
 rw[ND n p];obtain⟨a,b,xs,ys,rfl,rfl,g,i,j,e,l,m⟩:=h;rw[mK n p];rw[AOG k d (I.tuple g) f c CWB];refine HT.cat_tup p1 p2 (λz=>j (d.nil_iff.mp z)) (λz=>lA BF (l (c.nil_iff.mp z))) A5I (by rw[<-d.length,<-c.length];exact e);refine BJY AUY r (m (λw=>z (c.nil_iff.mpr w)) _ bR);rw[CK (A2S List.length_append) _ (d.append c) AF7]
#where
/---/def ixN(n:Nat)(i:Int):qK:=if AX9 then MM LG (AC i.toNat) none else BLX BYS DBE none
/---/def atI{α:Type}(xs:DC)(i:Int):qD α:=(ixN xs.length i).bind λj=>CZF
def b3r{i:Int}{j:Nat}(h:ixN n i=AC j):BNP n=AC j/\cB /\ BYS/\LG:=by
 rw[bY ixN];rw[iX AX9]
 .rw[ZX]at h;by_cases h1:LG
  rw[EHS i.toNat (BO4 h1) (nR 0x1e537b77ce345f5237) h1]
  .rw[yD AY3]
 .rw[dC]at h;by_cases h1 : BYS
  rw[EHS DBE (seqIndex_neg AGW h1) h1 (nR 0x1e537c1eeedf416237)]
  .rw[yD AY3]
def a4E{xs:DC}{i:Int}{v:α}(h:BIH i):∃j,BNP xs.length=AC j/\A1R v/\WZ /\ -ASG<=i/\wP:=by
 rw[bY atI];cases e:ixN xs.length i with
 |none=>rw[AJN]
 |some j =>
  rw[e]at h;obtain⟨h1,h2,a,b⟩:=b3r e;rw[NG j h1 h h2 a b]
def J4{xs:DC}{j:Nat}{v:α}(h:A1R v):BIH QP:=by
 have a:WZ:=LM h;have e:AHT xs.length QP j:=by
  unfold ixN;rw[CFG,TL if_pos b8q a];simp
 unfold atI;rw[AF e h]
def a1n(xs:DC)(v:α):atI BHW (-1)=AC v:=by
 have a:CVL=BME:=by simp
 have e:AHT CVL (-1) xs.length:=by
  rw[cH ixN a BS5 (rD if_pos 0x3bffc5e69fbc35)];congr 1;omega
 rw[EA atI e];show GK ((BHW)) xs.length v;simp
/---/def a1J(b:Expr):Prop:=∀o i,subscripted b false o i=operate [o,i] (getItem o i)
/---/def IxR(X:Cx)(r:R2):Prop :=
 ∀(value slice:Expr) (qL:CV) (s:qC) (σ:St) (H:Hp) (x y:V) (v u:qB) (Q:VK),BEZ LO (DCZ ->
  subscripted slice false v u=operate [v,u] (getItem v u)->cN (subscriptTail value slice v u))
/---/def MtR(X:Cx)(id:String)(r:OU):Prop :=
 EPU (DD0 ->
  E57)
section
variable {a b:Expr}{ta tb:TE}{pos:Pos}
def b7a{r:R2}(f:IxR X r)(d:UU)(e:pC)(hs:AXI):BRO a b BPN:=by
 rw[AZ2 Subscript_ (C7M (c7A d e I h) c g i (f a b qL s2 σ H2 x y v u Q c g i q (BR hs)))]
/---/def b4c(K:qF):R2:=EHV AIF
/---/def c1O(K:qF):R2:=EHV BUR
/---/def c8w:R2:=λx y H Q=>∃z i c,A38 z/\uC i/\CIR/\atI z.cps.toList i=AC c/\A35 GH
def c3y:AHU IxR b4c:=by
 rw[C7Z e o A];obtain⟨p,xs,i,z,rfl,rfl,n,m,q⟩:=h;rw[wB o A];rw[AHN b c D n];obtain⟨j,h1,h2,B,g,l⟩:=a4E m;rw[iR w f d h2];rw[AD k r.length C a0Y];rw[COP d];rw[iX AX9]
 .have hj:i.toNat=j:=by
   rw[BO4 l]at h1;rw[AQX]
  exact item_listR c.isList a AG (by rw[hj];simpa using f) fin hs
 .rw[DCD (by
   rw[C1J (seqIndex_neg AGW g) k])]
  exact E3S c.isList.typeIs slot_list_getitem.lookup
   (wpAny_getItem_list_neg (Q:=CGI) c.isList AGW (C07 (b9a g k)) AG (AS5 hj f) CW9) hs
def c0o:AHU IxR c1O:=by
 rw[C7Z b l m];obtain⟨p,xs,i,z,rfl,rfl,g,e,q⟩:=h;rw[wB l m];rw[AHO k c C g];rw[EEH n o A (a4E e) a a];exact E3S c.typeIs slot_tuple_getitem.lookup
  (BG getItem_tuple j j Q CGI c AG AG (AEJ f h1) BNO CW9) hs
def c7l:IxR X c8w:=by
 rw[C7Z a g k];obtain⟨z,i,c,rfl,rfl,n,e,q⟩:=h;rw[GC g];rw[eZ k];obtain⟨j,h1,h2,l,b,d⟩:=a4E e;have f:z.cps.toList.length=z.length:=by simp[Str.length]
 rw[f]at h1 b d;have m:=a0Y;exact tail_any E42 slot_str_getitem.lookup (getItem_str (c:=c) (by
  have e1:vM (i < -BJ A9I):=AFK;have e2:vM (BM7 i):=AFK;rw[e1,e2,Bool.or_false]) (AS5 h1 h2) (iT (A3P GH))) hs
def b1d(a:AQ)(n j:Nat)(u:qB):Obj.mapSeq (·.setIfInBounds j u) AR3=ANK (a.set j u).toArray:=by
 simp[Obj.mapSeq]
def Inv.lst{p:qE}(I:AM)(h:BRR) :
  BZD a (AZ6/\DRR/\A2U):=by
 rw[B6H a (A9A p h)];rw[EB a n r e z]
def Inv.lstUpd{p:qE}{ys:AE}{a its':AQ}{c:Nat}{f:DKH}(I:AM)(h:BRR)
  (i:DRR) (d:f AR3=DQH) (r:D7E) (j:jA) (t:Nat) :
  KN (VJ p ys) (eS s (CWY f) t):=by
 have e:CST p f get? p=AC DQH:=by
  rw[Heap.get?_update_self f i (by rw[d]<;>rfl),d]
 rw[EC (B5O p p (by rw[h];trivial) PX) (UL g q (ATU (Ne.symm g) q)) (DX e)];rw[EB j its' c r e]
/---/def b6z:E5X:=λo i v H Q=>∃p xs k j,o=EZ/\i=.int k/\BRR/\ixN xs.length k=AC j/\Q DQI
def a8W:c7J X b6z:=by
 intro qL s σ H o i v C B u Q I y x z h;obtain⟨p,xs,k,j,rfl,rfl,l,m,q⟩:=h;rw[wB y x];obtain⟨a,n,r,d,w⟩:=I.lst l;rw[CL h1 h2 f g b3r m];rw[AD c r.length A a0Y];have e:KN DQI (HW (CWY ((Obj.mapSeq (·.setIfInBounds j u))))) :=
  I.lstUpd l d (b1d a n j u) (r.set z j) (CT2 w) s.toks
 by_cases b:0<=k
 .have hk:k.toNat=j:=by
   rw[seqIndex_of b g]at h1;rw[AQX]
  exact PySem.W.ki_setAt d b AG (AEJ c g) (nN hk (EM e q))
 .have hk:MF (k+BJ a.toArray.size)=j:=by
   rw[C1J (seqIndex_neg D3J f) c]
  exact PySem.W.ki_setBack d D3J (AEJ c f) AG (nN hk (EM e q))
def a7w(lo hi:FX)(n:Nat):(C2E).1=ER (HT.sIx n 0 lo)/\(C2E).2.1=ER (HT.sIx n n hi)/\(C2E).2.2=1:=by
 rw[DN ?_ ?_ rfl]
 .cases lo with
  |none=>rw[DLH]
  |some i =>
   rw[ELU]
   rw[B46 if_true]
   rw[B46 if_false]
 .cases hi with
  |none=>rw[DLH]
  |some i =>
   rw[ELU]
   rw[B46 if_true]
   rw[B46 if_false]
def a6a(a:AQ)(lo hi:FX):slicePick a.toArray lo hi none=(bE a.drop D2K (HT.sIx a.length a.length hi-D2K)).toArray:=by
 obtain⟨h1,h2,b⟩:=a7w lo hi a.toArray.size;rw[cH slicePick h1 h2 b];simp only[sliceRange_one,pick_run,List.size_toArray]<;>rfl
/---/def c5O(K:qF):A7S:=C6V (AVL xs dN (A9M ABL))
def c1B:AHU SlR c5O:=by
 rw[C83 k i j];rw[WC a xs rfl f q];cases k;rw[AHN g d e f];have c:=r.length;refine⟨"list",_,slot_list_getitem.lookup,d.isList.typeIs,?_⟩;refine wpAny_getItem_list_slice d.isList hs i j .none AJ ?_ (C07 (N7 e c));rw[a6a,<-c];refine APQ s.toks (o:=CC ABL) l ?_ AGF;rw[EB (Nat.le_trans D41 e) _ 0 DJA IW]
/---/def J6:B0G
 |.non=>true
 |bI=>true
 |WP=>true
 |WU=>true
 |_=>false
/---/def eqV:DPR
 |.non,.non=>true
 |.bl a,ZZ=>a==b
 |.bl a,BK b=>MM a 1 0==b
 |BK a,ZZ=>a==MM b 1 0
 |BK a,BK b=>a==b
 |.str a,CUR=>a==b
 |_,_=>false
def c0F{A:Around}{y:V}{u v:qB}(e:LO)(c:ZL)(f:A77)(d:oN):C6N BJA:=by
 cases y with
 |non =>
  rw[CG];cases x with
  |non=>cases c;exact SeqAt.EqAt.same _
  |bl b=>cases c;exact SeqAt.EqAt.none_bool b
  |int b=>rw[gO];exact SeqAt.EqAt.none_int b t
  |str b=>rw[gO];exact SeqAt.EqAt.none_str b t
  |_=>rw[sI d]
 |bl a =>
  rw[CG];cases x with
  |non=>cases c;exact SeqAt.EqAt.bool_none a
  |bl b=>cases c;exact SeqAt.EqAt.bool_bool a b
  |int b=>rw[gO];exact SeqAt.EqAt.bool_int a b t
  |str b=>rw[gO];exact SeqAt.EqAt.bool_str a b t
  |_=>rw[sI d]
 |int a =>
  rw[eZ e];cases x with
  |non=>cases c;exact SeqAt.EqAt.int_none a t'
  |bl b=>cases c;exact SeqAt.EqAt.int_bool a t' b
  |int b=>rw[B77 SeqAt.EqAt.int_int]
  |str b=>rw[B77 SeqAt.EqAt.int_str]
  |_=>rw[sI d]
 |str a =>
  rw[eZ e];cases x with
  |non=>cases c;exact SeqAt.EqAt.str_none a t'
  |bl b=>cases c;exact SeqAt.EqAt.str_bool a t' b
  |int b=>rw[B77 SeqAt.EqAt.str_int]
  |str b=>rw[B77 SeqAt.EqAt.str_str]
  |_=>rw[sI d]
 |_=>rw[sI f]
/---/def eqU(x:V)(u:qB):Bool:=match u with
 |.none=>eqV .non x
 |AXH=>eqV (.bl b) x
 |C0U=>eqV (.int i) x
 |.str z _=>eqV (.str z) x
 |_=>false
def c0E{y:V}{u:qB}(r:LO)(f:A77):DF3=BJA:=by
 cases y with
 |non=>rw[A6Q]
 |bl b=>rw[A6Q]
 |int i=>rw[A72]
 |str z=>rw[A72]
 |_=>rw[sI f]
def a2X{x:V}:EKY (BA2 us.any=DV4)
 |_,_,.nil,_=>rfl
 |y::xs,u::us,AID,f=>by
  rw[DYZ];rw[DLC DNE (a2X t f.2)]
def a0T{A:Around}{s:qC}{x:V}{v:qB}(c:ZL)(b:oN):EKY (∀u∈us,C6N DF3)
 |_,_,.nil,_=>λu a=>by cases a
 |y::xs,u::us,AID,f=>λd a=>by
  rw[DYZ];rw[oX]
  .rw[AF DNE (c0F r c gT b)]
  .exact a0T c b t f.2 d a
/---/def inV(x:V)(xs:AE):Bool:=DV4
/---/def rIn(K:qF)(neg:Bool):R2:=λx y H Q=>∃p xs,y=EZ/\(AIF∨BUR)/\oN/\ADT/\D3S (! DN0) DN0
def b4l:AZH (rIn X.K false):=by
 rw[EOA]
 rw[DYS SeqAt.in_listAt]
 rw[BLN I.tuple SeqAt.in_tupleAt pl]
def a7N:QD .NotIn (rIn X.K true):=by
 rw[EOA]
 rw[DYS SeqAt.notIn_listAt]
 rw[BLN I.tuple SeqAt.notIn_tupleAt pl]
def a8w:AZO (DYO CZH):=by
 rw[EA8 e b c];cases c;have d:=a0Y;rcases b with b|b
 rw[EMY I.list Calls.call_len_list pl.isList]
 rw[EMY I.tuple len_tuple pl]
def a8v:AZO (PY (∃z,EFE)):=by
 rw[E0S z];rw[C7A];have a:=a0Y;exact len_str AG (iT (BK z.length))
def a8u:iK "list" (DYO DXG):=by
 rw[EA8 m g k];cases k;have fin:∀(a:AQ),BW7->jA->AEK h' Heap c' ((∀b o',CT7 o'->XJ h'.get? o') ->
   BTX (E0A (.seq a.toArray c'))->tQ TY VT):=λa f d h' c' kp e =>
  EO TY _ (I.laid (t':=s.toks) kp BW (show ObjOk X.prog X.w _ h' _ C9W from⟨d,a,c',f,e⟩)) AGF
 rcases g with g|g
 .rw[CL a f pl d I.list g];rw[ENT pl.isList PX]
 .rw[CL a f pl d I.tuple g];rw[ENT pl BMP]
def a6p:iK "tuple" (EF3 CLH CLI):=by
 rw[QL i r];rw[bX p ys rfl h];rw[BJX g];cases g;rcases h with⟨c,q⟩|⟨c,q⟩
 .rw[CL its r' pl hz I.list c];have a:=r'.length;refine call_tuple_list pl.isList (BB h' kp) (CMJ (N7 hz a));have d:ASN:=DBH s.toks kp;have f:KN (PQ H h'.objs.size ys) (HW (A7G h'.push its.toArray)) :=
   d.laid (t':=s.toks) (GR o fO) BW (show ObjOk X.prog X.w _ _ _ (NS ys)from⟨hz,its,r',AF7⟩)
  exact EO (AL h'.objs.size) _ f (q _ CY5)
 .rw[CL its r' pl hz I.tuple c];exact call_tuple_same pl (lA EZ q)
/---/def tyV(K:qF)(T:String)(x:V)(H:Hp):Prop:=match x with
 |WU=>D5U
 |WP=>D5T
 |EZ=>(T="list" /\ ∃xs,AIF)∨(T="tuple" /\ ∃o,pT K.lookup p/\D5J/\CY2) ∨
   (T="dict"/\((∃qM,CMB)∨∃qM,VB p .dT qM))∨(T="set" /\ ∃S n,GX p DO1)
 |_=>False
def c5u{T:String}{v:qB}(I:AM)(r:ZL)(ty:tyV X.K T x H) :
  DQJ/\∀a,v=BF->∃d,aV s.heap.get? d/\PP d.dict:=by
 cases x with
 |str z =>
  rw[E5B D5U E42]
 |int i =>
  rw[E5B D5T (AP0 s i)]
 |ref p =>
  cases r;rcases ty with⟨rfl,xs,g⟩|⟨rfl,o,b,f,hd⟩|⟨rfl,b⟩|⟨rfl,S,n,b⟩
  .obtain⟨its,_,pl,_⟩:=I.list g;rw[GF pl.isList.typeIs a e];rw[CG];obtain⟨o,n,e,c,hd,_⟩:=pl;rw[AV o e hd]
  .rw[GF (UC (I.kIn p o b) f) a e];rw[CG];rw[AV o (I.kIn _ o b) hd]
  .have z:∃o,CWE p/\o.ExactDict:=by
    rw[DLB b b b]
    rw[EKE]
    rw[EKE]
   rw[gX o ex z];rw[E7L]
  .obtain⟨o,_,_,_,e,ex,_⟩:=CLQ;rw[E7L]
 |_=>rw[NI ty]
/---/def tBM(K:qF)(T:String)(r:OU)(to:TE)(t:TA):TE:=MU to x (tyV K T x H1/\QM t xs (r x xs H2 Q))
variable {o e:Expr}{es:BH}{to:TE}{t:TA}{name:Str}{qO qN:Pos}{T id:String}{r:OU}
def c8E(q:DE3)(f:E84)(g:C6L)(n:DV3)(p:AHV)(m:dX)
  (b:BSF:=by rfl)
  (d:HI (AMB
   && AMA):=by rfl)
  (c:SQ:=by rfl) (hs:DB:=by rfl) (a:QQ:=by rfl) :
  C0V (tBM X.K T r to t):=by
 rw[ECJ b d c p A];obtain⟨x,H1,i,k,ty,u⟩:=A;rw[OK (c5u i k ty)];rw[EBJ ⟨T,id,q,f,g,h1,h2,?_⟩ j m i u j ((by show(false || (backTo qN (starEach es X.env)).any (·.1))=false;rw[a]<;>rfl))];exact thn j λz s2 (SI vs l y w)=>AAM n x vs v z Q l k y w
#where
/---/def MtM(X:Cx)(id:String)(r:OU):Prop :=
 EPU (DD0 ->
  E57)
def Vals.one(h:D0W):EDD:=by
 cases h with|cons r t=>cases t;exact DS r
def Vals.two{y:V}(h:D0X):∃u v,us=[u,v]/\ZR/\DNX:=by
 cases h with|cons r t=>obtain⟨_,rfl,q⟩:=Vals.one t;rw[EB _ _ rfl r q]
def Vals.eraseIdx:BLI i (Vals (xs.eraseIdx i) (us.eraseIdx i))
 |_,_,_,.nil=>.nil
 |_,_,0,B4A=>t
 |_,_,AT,AID=>AO2 (Vals.eraseIdx i t)
def Vals.rep{xs:AE}{us:AQ}(h:ZG):∀k:Nat,RE (BCT k) (YW k us)
 |0=>.nil
 |DA=>by
  rw[List.replicate_succ,List.replicate_succ,List.flatten_cons,List.flatten_cons];exact Vals.append h (Vals.rep h k)
def a6H{α:Type}:AEK l DC i (EI l.eraseIdx i<=l.length)
 |[],_=>BW
 |F2,0=>AWW
 |_::r,AT=>Nat.succ_le_succ (a6H r i)
def a6P(a:AQ):∀(k:Nat) (qR:AQ),
  EMC
 |0,qR=>AJ
 |DA,qR=>by
  rw[E0P]
  have e2:(BI4)++CM4=qR++YW DA a:=by
   rw[List.replicate_succ,List.flatten_cons,List.append_assoc]
  rw[<-e2,<-a6P a k BI4,<-e,List.replicate_succ,List.foldl_cons]
section
variable {l b:qE}{ys zs:AE}
def Inv.lset{a its':AQ}{f:DI->DI}{t':Nat}(I:AM)(b:dS)
  (e:D6N) (d:f a.toArray=its'.toArray) (h:D7E) (i:jA) :
  KN (VJ l ys) (eS s (s.heap.update l (Obj.mapSeq f)) t'):=by
 rw[DHZ e f d];rw[EC (B5O l l (AH b trivial) PX) (λb' u c g=>sO (Heap.get?_update_other s.heap (Obj.mapSeq f) (Ne.symm c)) g) (DX q)];rw[EB i its' _ h q]
def Inv.lnew{a:AQ}{t':Nat}(I:AM)(b:BW7)(c:jA) :
  KN (VJ s.heap.objs.size ys) (eS s (AM9 "list" .seq a.toArray) t') :=
 I.laid BIY BW ⟨c,a,0,b,IW⟩
def Inv.fresh(I:AM):A5K:=bR
def Inv.lstM(I:AM)(b:dS):ATX (BZD a (AZ6/\AAO a.length/\D6N)):=by
 rw[B6H a (A9A l b)];rw[NG z a n r r.length e]
def a9m(h:BMZ):JP Builtin.List.listTooLong n:=by
 unfold Builtin.List.listTooLong;exact decide_eq_false (wR 221527175382)
#where
/---/def b2S:OU:=nB (∃l xs y,x=FP/\B23/\dS/\AMT xs.length/\DN2 (A03 y))
def b4A:wG "list.append" b2S:=by
 rw[nC j i g];obtain⟨l,xs,y,rfl,rfl,b,c,q⟩:=h;cases i;rw[DU u f g.one];rw[A4T a d (I.lstM b)];rw[E6U vO (PySem.list_append l a.toArray n u (A2T List.size_toArray 0x172b971a68aea6d97 c d)) e];refine EO .non _ (I.lset (its':=a++[u]) b e AJ (DMY r.append f) ?_) q;rw[KK List.length_append List.length_singleton a8b c]
/---/def b2R:OU:=nB (∃l b xs zs,x=FP/\vs=[GG]/\dS/\DPL/\DCC/\DN2 D44)
def b4z:wG "list.extend" b2R:=by
 rw[nC A y w];rw[EGB k m];cases y;rw[cR t w.one t];rw[EEE B o p g (I.lstM k)];have f:CB (c.toArray.size+a.toArray.size):=by rw[DW List.size_toArray List.size_toArray (b8Y m j g)]
 have d:¬HI (! c.toArray.isEmpty && Builtin.List.listTooLong (c.toArray.size+a.toArray.size)):=by
  rw[AXT (a9m f) Bool.false_ne_true]
 refine DW8 F.slot_list_extend F.entry_list_extend F.args_list_extend_2
  (AutoSeq1.list_extend_list_list_0 l c.toArray n b a.toArray o d (AH List.size_toArray (N7 z j)) (BI 88490196655832471 f)) (A4Y e e2)
 refine EO .non _ (I.lset (its':=c++a) i e AJ (r.append p) ?_) q;rw[PM List.length_append]
/---/def b6B:OU:=nB (∃l xs i k y,x=FP/\vs=ATN/\dS /\ BVS<=i/\i<A9I/\BNP xs.length=AC k/\GK xs k y/\Q y (fG l (aJ xs.eraseIdx k)))
def b7H:wG "list.pop" b6B:=by
 rw[nC p o m];obtain⟨l,xs,i,k,y,rfl,rfl,c,h1,h2,f,g,q⟩:=h;cases o;rw[DU u j m.one];rw[GC j];rw[A4T a d (I.lstM c)];rw[iR w hw b g];refine DW8 F.slot_list_pop F.entry_list_pop F.args_list_pop_2
  (MeetsSeq.list_pop_at l a.toArray n i t k w D7U (AEJ d f) (QE Array.getElem?_toList hw) (AH List.size_toArray (N7 z d))) (GD e)
 refine⟨y,_,I.lset (its':=a.eraseIdx k) c e ?_ (r.eraseIdx k) ?_,b,q⟩
 .show a.toArray.eraseIdxIfInBounds k=D3D a.eraseIdx;rw[List.eraseIdxIfInBounds_toArray]
 .have:=a6H xs k;rw[iB b1u z]
/---/def c5S:R2:=C3K l zs FP dS DPL DCC (A9M D44)
def c6F:AH6 c5S:=by
 rw[ND o p];rw[EGB g k];rw[mK o p];rw[EEE w t m d (I.lstM g)];refine PySem.P.add_list e e2 ?_ (DBM (b8Y k j d));have f:BG1 c.toArray=A23 (c++a):=by simp
 rw[ECI f (r.append m) (TW List.length_append)]
/---/def c5P:R2:=λx y H Q=>∃l k xs,x=FP/\uC k/\dS /\ BVS<=k/\AZQ k/\CB (xs.length*k.toNat) /\
 A9M (BCT k.toNat)
def a8g(xs:DC)(k:Nat):XQ k xs flatten.length=k*xs.length:=by
 induction k with
 |zero=>simp
 |succ k a=>rw[List.replicate_succ,List.flatten_cons,List.length_append,a,Nat.succ_mul,Nat.add_comm]
def c6v:AH7 c5P:=by
 rw[ND C D];obtain⟨l,k,xs,rfl,rfl,A,h1,h2,p,q⟩:=h;rw[wB C D];rw[A4T b B (I.lstM A)];have g:CB BYA:=by rw[sM B];exact p
 have d:¬BYA > BZJ:=by
  have:CTQ<=BZJ:=AK
  omega
 have f:¬A4C (Builtin.List.listFitsIndex k):=by
  rw[CSQ D7U]
 have c:¬EG Builtin.List.listTooLong BYA:=by
  rw[CSQ (a9m g)]
 have i:EEQ (U3 b.toArray.isEmpty 0 k.toNat)=AT3 k.toNat b:=by
  have w:∀m:Nat,EEQ m=AT3 m b:=λm=>by
   rw[jE (a6P b m []) List.nil_append]
  rw[w];cases b with
  |nil=>simp
  |cons a r'=>rw[KJ]
 refine CQT "list" vO k noFill_list_mul repeat_list
  (call_meets F.slot_int_rmul (AP0 s k) F.entry_int_rmul (BR F.args_int_rmul_2) (int___rmul___int_list k t l b.toArray n)
   (GO e vO (call_meets F.slot_list_mul vO F.entry_list_mul (BR F.args_list_mul_2) (AutoListH.list___mul___list_int_3 l b.toArray n k t f d c) (GD e))))
 rw[ECI i (r.rep k.toNat) (OH a8g Nat.mul_comm p)]
section
variable {prog:qH}{w:World}{A:Around}{E:qI}
#where
universe L2
namespace Att
open PySem PySem.W PySem.Calls PyProof.Rows
def a4k{P:Params}{h:Heap}:KC ns qJ vs AQ (WellAll P h vs (ns.map WData.int)) A7L:=by
 intro ns;induction ns with
 |nil =>
  intro vs w;rw[C0S w w]
 |cons n ns c =>
  intro vs w;rw[AWA w];cases w with
  |cons a b =>
   cases a;exact AI .cons (c _ b)
def b3V{l:OpenLaw}{n:Nat}(o:BYJ){P:Params}{h:Heap}{args:CSI}{c:AQ}
  (b:EG l.row.toRowW.claim.pre args) (j:WellAll P h c args) :
  ∃a vs ns,c=[Value.ref a]/\args=[WData.list (ns.map WData.int)]/\ZO AVE/\A7L/\AZX:=by
 have hsh:AY (WShape.hasAll [] args [.list .int]):=(pre_splitW b).1;have k:DQK l.pre.holds args:=(pre_splitW b).2;obtain⟨d,r,rfl,h1,h2⟩:=hasAllW_cons hsh;obtain rfl:=hasAllW_nil h2;rw[hH xs m hasW_list h1];rw[QU ns (items_int m)];have f:AZX:=by
  unfold OpenLaw.pre at k;have g:DQK (WTm.not (.lt (.lit (.int EY)) (.len (.arg 0)))).holds [.list (ns.map .int)]:=by
   rw[cG g (holds_andW k).1 o g];exact g
  rw[BSU i (condW_of g (w_not (w_lt w_lit (w_len_list (w_arg rfl))))) i];rw[VL Nat.le_of_not_lt q];have s:EY<ER ns.length:= ~~~b8q q
  first
   |(rw[decide_eq_true s]at i;rw[A60 i])
   |(simp at i;omega)
 cases j with
 |cons w1 w2 =>
  cases w2;cases w1 with
  |list p e=>exact VX _ _ ns rfl p (a4k ns _ e) f
def b4h(l:OpenLaw)(args:CSI):AY (l.row.toRowW.claim.post args AH4 args) :=
 postW_of (r:=l.row.toRowW) (X:=(true==true))
  (show AY (WShape.has [] AH4 .bool) by first|rfl|decide|simp[WShape.has,WShape.arms,WShape.armsAll])
  (show(WTm.eq .res (CFV .lit)).value [] {args:=args,res:=CA .bool true,after:=args}=CA .bool (true==true)from w_eq_bool (w_res rfl) w_lit) rfl
def attach_call{l:OpenLaw}{n:Nat}{q:qH}{b:AA}{XP:BUH}{t:BUG}{d:DefRec}
  (F:BYJ) (k:BOW)
  (call:∀(w:World) (s₀ s₁:qC) (mg s:BA) (fa:qE) (o:Obj) (pm cd c:qB) (a:qE) (vs:AQ) (ns:qJ),
   Ground q b [] XP w s₀ mg s s₁.heap->t w s₁.heap ->
   pT s₁.heap.get? fa->o.data=.func (docDef d.name d.params d.body d.scope pm cd c)->s₁.heap.CodeRec cd d.name->BZ4 ->
   DP8->A7L->AZX->DKW ->
   CR4 (B7M l.prog)) :
  E1F WalkO t:=by
 intro w s₀ s₁ mg s G Y fa o pm cd c z kV H hd j v m C u y as i x J p D;obtain rfl:z=.none:=Dflts.none v k;obtain rfl:kV=.none:=Dflts.noKw v;obtain⟨a,vs,ns,rfl,rfl,h,e,g⟩:=b3V F i p;refine enter_call (A7O (call w s₀ s₁ mg s fa o pm cd c a vs ns G Y H (fd_plain hd) j m h e g C) I);obtain⟨rfl,h2,A,B⟩:=I;rw[CK (EU (VX AH4 AH4 [] A1E AH4 (b4h l _) (CO ⟨List.Pairwise.nil,FD E (ABU E)⟩))) h2 A B]
section
variable {prog:qH}{w:World}{A:Around}{E:qI}{s:qC}{K:Frag}
#where
universe Att
namespace L2
open PySem PySem.Spec PyProof.Rows
section
def a6u:∀{vs:AQ}{ns:qJ},A7L->A3W ns.map V.int vs
 |_,_,.nil=>.nil
 |_,_,.cons n t h=>.cons ATP (a6u h)
/---/def c7L(H:Hp):Prop:=∀b,KH∨∃o xs,A0T E85
def b9X{P:qH}{w:World}{K:qF}{mg M:BA}{CX:CXT}{k:Nat}{fa a:qE}{fd:FuncData}{x:Str}{sp:Sp}{s₁:qC}{vs:AQ}{ns:qJ}
  (O:K.In s₁.heap) (y:B9C s₁.heap.Ns) (f:s₁.heap.Ns builtinsNs M) (I:E17 M) (t:s₁.heap.NoLimit) (Z:DKW)
  (E:DP8) (hi:A7L) (R:CT8) (hr:BQG)
  (F:BL4 BTJ (AA3 base CX k fa fd RW sp)) (j:BLB u [u] DFR)
  (L:∀H:Hp,BQI->B53->B5L (sp OG H DOY))
  (G:∀H e s',CX [] H s₁ AJO e s'->False) :
  DK1:=by
 rw[AD S (a6u hi) C hi.length];have i:∀H:Hp,BQI->B53->qZ H s₁.heap->(∀b,D8Q->b=a)->(H a≠none->ET K.lookup a) ->
   DK1:=by
  intro H hO Y A Q W;have c:AEB Obj CU5 KH (GL (D89 get?)):=λe n=>c0v e n;have N:∀{b:qE}{o:Obj}{es:A5H}{ep:Nat},CU5->o.data=B3P->KH:=λ{b o es ep} e d=>by
   cases q:H b with
   |none=>rfl
   |some u =>
    rw[E7S];rw[GU E];have T:Data.seq vs.toArray _=Data.dict es ep:=d;cases T
  have g:∀{b:qE}{m:BA},s₁.heap.Ns b m->D89 Ns b m:=λ{b m} (EFR e)=>EFR (c e (N e d));have p:K.In (a8l s₁.heap H):=GR o (c (YH O) (by
   cases q:H b with
   |none=>rfl
   |some u =>
    rw[E7S];rw[GU (W (by rw[OI q]))]))
  have X:Mod K mg DUZ:=⟨p,g y,⟨M,g f,I⟩,tR mc h1 h2 t mc (g h1) h2⟩;have U:CBJ DUZ callerA [] s₁ H:=⟨rfl,X,GR o (c2J e),DK7 b4P,trivial,λb f=>ACC (C0D f),A,.of_eq Z⟩;rw[BU3 ((F _ p (g y)).run callerA [] s₁ H CDT OG OG _ _ hr U (j s₁ BF) DBX (L H hO Y)) s' h];cases r with
  |error e=>exact(G H e s' h).elim
  |ok fl =>
   cases fl with
   |next=>rw[NI h]
   |brk=>rw[NI h]
   |cont=>rw[NI h]
   |ret u =>
    obtain⟨v,H',os,l,un,B,r',q⟩:=h;have q':COJ:=q;subst q';obtain rfl:AYR true:=r';refine uK (OldK.of_keep λb o e=>?_) os l;cases q:H b with
    |none=>exact un.keep b o e q (by intro z;rw[FO (C0D z) AJ]) AJ
    |some u =>
     rcases hO b with z|⟨ob,xs,z⟩
     .rw[tE q]
     .have z2:=un.frzs b ob _ z;obtain⟨e1,_⟩:=A b _ z;obtain⟨e2,_⟩:=B b _ z2;rw[AU e e1 e1];exact e2
 cases J:K.lookup a with
 |some o =>
  have e:=O a o J;rw[GU E];refine i AXP (CO PX) (DZ ⟨_,vs.toArray,_,J,rfl,rfl,rfl,BHG C R,CJ S⟩) (λb u z=>by have D:BJN HO=AC u:=z;cases D) (λb z=>DQT) λz=>DQT
 |none =>
  refine i (λb=>if b=a then AC (.frz AVE (LW ns.map))else none) (RB b) (jX .inr ⟨AVE,F1⟩) (DV b u z) (gA z) λ_=>J
  .rw[BZ9]
   rw[HM (EM _ BPU)]
   .exact jX if_neg f
  .rw[BZ9]
   .rw[E9B if_pos];subst f;rw[NG E (IF R) vs _ S E]
   .rw[E9B if_neg]
  .rw[BZ9]
   .exact f
   .exact absurd (if_neg f) z
def walk_of{l:PySem.W.OpenLaw}{n k:Nat}{q:qH}{g:AA}{XP:BUH}{z:BUG}{d:DefRec}{K:DKI}{CX:World->CXT}{sp:World->Sp}{x:Str}
  (L:BYJ) (r:BMZ) (m:BOW) (M:BQG)
  (D:EKQ z)
  (F:EM7 (BZ4 ->
   ∃fd:FuncData,DZ5 DFR /\
    DDQ (C5O C00 (CX w) k fd RW (sp w))))
  (t:∀(w:World) (H:Hp) (a:qE) (ns:qJ),AZX->BQI->SqL C00 H a AO3->B5L (sp w OG H DOY))
  (j:∀(w:World) (H:Hp) (s:qC) (e:qB) (s':qC),CX w [] H s AJO e s'->False) :
  CP1 (PySem.W.WalkO q g XP z):=by
 refine Att.attach_call L m λw s₀ s₁ mg O fa o pm cd A a vs ns G Y N hd I p i c b J=>?_;have y:=D w _ Y;obtain⟨fd,E,B⟩:=F w mg fa _ y G.T.g p;exact b9X y G.T.g G.T.b G.T.builtins G.T.nolimit J i c (Nat.le_trans b r) M B E (λH hO C=>t w H a ns b hO C) λH e s'=>j w H s₁ e s'
#where
section
variable {A:Around}{E Q:qI}{H H1:Hp}{K:qF}{N ps:AA}{P prog:qH}{X:Cx}{a b f it l:qE}{env:Env}{es:BH}{g:TG}{h h':Heap}{i n:Nat}{items:DI}{k k1 k2:Bool}{qL:CV}{pos:Pos}{qual x:Str}{s:qC}{scope:Scope}{src:LQ}{st:Stmt}{te:TE}{w:World}{xs:AE}{α:Type}{σ:St}
/---/def D9(s:Stmt)(j:Nat):Stmt:=match s with
 |tJ (IE (IE .ClassDef body) _)=>body.getD j (.Pass C54)
 |_=>.Pass C54
/---/def O0(s:Stmt):Arguments:=match s with
 |YO (.FunctionDef _ a _ _)=>a
 |_=>{posonlyargs:=[],args:=[],vararg:=none,kwonlyargs:=[],kw_defaults:=[],kwarg:=none,defaults:=[]}
/---/def F3(s:Stmt):KL:=match s with
 |YO (AO .FunctionDef b _)=>b
 |_=>[]
/---/def A2(s:Stmt):Scope:=match s with
 |IE .FunctionDef _ _ _ sc _ _ _=>sc
 |_=>{kind:=.function,names:=[],isGenerator:=false,isCoroutine:=false}
abbrev CX0:CXT:=λ_ _ _ _ _ _=>False
abbrev E0:XK:=AJO
def a9g:a0z CX0 X E0:=λ_ _ _ _ _ _ _ h=>h.elim
structure Fun(K:qF)(x qual:Str)(st:Stmt)(f:qE)(fd:FuncData):Prop where
 ex:∃(oc:qB) (od:IY) (kV doc pm:qB) (an:IY) (cdv ct:qB) (osl:eH),
  fd=E1E CGU doc cdv/\B6Z fd osl/\C1S cdv
 kp:ATV
section
variable {mg:BA}{base:Heap}
def Fun.ok{fd:FuncData}{k:Nat}{sp:Sp}(F:BZO)(S:yQ)(e:jM)
  (b:EPQ (bJ ->
   D6P CO9)):EDC:=by
 rw[CR5 j F.ex i (ELC i d) h.nox]
def Fun.binds{fd:FuncData}(F:BZO)
  (h:BFX b a C6T):nM:=by
 rw[CIA b d F.ex];exact .all (h kV b pm an a ct)
def a5L{oc:qB}{od an:IY}{d:eH}{kV b pm a ct:qB}(l:B6Z C6T d)
  (c:C1S a) (k:ATV):BFB qual C6T:=⟨⟨oc,od,kV,b,pm,an,a,ct,d,rfl,l,c⟩,k⟩
#where
def C4{A B:Prop}(h:B):U3 false A B:=by
 rw[AF (CF Bool.false_ne_true) h]
def E8{A B:Prop}(h:A):U3 true A B:=by
 rw[AF F1 h]
def R7{c A B:Prop}[Decidable c](h1:c->A)(h2:¬c->B):if c then A else B:=by
 by_cases h:c
 .rw[BO BNX h1 h]
 .rw[BO AXN h2 h]
/---/def Same(H H':Hp):Prop:=t8 A0U H'
def Same.refl(H:Hp):JJ H:=fW h h
def Same.trans{H2:Hp}(a:IV)(b:C9E):BMY:=λc o h=>b c o (a c o h)
def Same.free{H':Hp}(e:BN)(h:DEP H'):DEP H:=by
 cases q:H l with
 |none=>rfl
 |some o =>
  rw[yD (e l o q)]
def Same.seq{H':Hp}(e:BN)(h:dN):SqL K H' a xs:=by
 rcases h with(h|⟨o,h⟩)|h
 .exact uU DAS
 .exact jX .inr (lZ DAS)
 rw[HM h]
/---/def L8(env:Env)(cs:WM)(x:DEG):WM :=
 if bW==.free then(match env.cells.lookup HH with|AC a=>(HH,a)::cs|none=>cs)else cs
/---/def a4m(scope:Scope)(env:Env):WM:=scope.names.foldl (L8 env) []
def a5V{env:Env}(f:DEG->WM->Sem (ForInStep (qA (Str×qE))))
  (b:∀n k r,f AQL r=if XO k NameKind.free then(do let a <-cellOf env n;pure (ForInStep.yield ((n,a)::r)))else BE0 r) :
  C4T cs (BT x names (C3D E5V)) (forIn names cs f=pure C3Y)
 |[],cs,_=>rfl
 |bF n k,cs,h=>by
  rw[List.forIn_cons,List.foldl_cons,b];have e:=λy g=>kN y g;rw[BP d k .free]
  .subst d;obtain⟨a,c⟩:=h D17 List.mem_cons_self rfl;have e1:cellOf env n=pure a:=by rw[EA cellOf c]
   have e2:B67 D17=(n,a)::cs:=by rw[EA L8 c];rfl
   rw[EIR e1]
  .rw[BIQ hb k NameKind.free d]
   have e2:B67 AQL=cs:=by rw[EA L8 hb];rfl
   rw[EIR hb]
def c0O(h:BO9 (C3D E5V)):D2Q closureFor=pure (D2Q a4m):=by
 simp only[closureFor];rw[a5V (env:=env) _ (λn k r=>by cases b:k==NameKind.free<;>simp[b]) scope.names [] h];rfl
def a6W{env:Env}{x:Str}{c:qE}:C4T cs (uR C3Y) (BPM∨XV cs.lookup)
 |[],cs,h=>CV3
 |fM,cs,h=>by
  rw[CXU];rw[CM (a6W r _ h)]
  rw[IH z]
  .rw[APV L8 z z]
   .split at z
    .rename_i a ha;rw[D5W];cases b:D45 with
     |true =>
      rw[b]at z;rw[AF (beq_iff_eq.mp b) (.inl (ha.trans z))]
     |false =>
      rw[b]at z;rw[wH z]
    rw[HM z]
   rw[HM z]
def a1I{c:qE}(h:XV EBW):BPM :=
 (a6W scope.names [] h).elim id λz=>A8E
def a2r{env:Env}{x:Str}{a:qE}(d:D69):∀(names:A1Q) (cs:WM),(DH7∨A47 cs.lookup)->(∀c,XV cs.lookup->c=a)->A47 (XW C3Y)
 |[],cs,h,_=>E2D
 |fM,cs,h,i=>by
  rw[List.foldl_cons];by_cases b:y.2=.free/\cF=x
  .have e2:B67 y=DWL:=by unfold L8;rw[b.2,d,WN];rfl
   rw[e2];have f:A47 (XW DWL):=by rw[OI List.lookup_cons]
   exact a2r d r _ (DZ f) λc z=>by rw[f]at z;exact ADN z
  .have same:XW (B67 y) x=cs.lookup x:=by
    rw[wD L8]
    .rw[AD0];split
     .have hne:(x==cF)=false:=by
       cases g:D45 with
       |false=>rfl
       |true=>rw[FO ⟨CJ hk,D0T g⟩ b]
      rw[List.lookup_cons,hne]
     .rfl
    .rfl
   refine a2r d r _ ?_ (AH same i);rw[same];rw[CM h]
   .rw[C10]
    rw[II ⟨BLT e,by rw[<-e]⟩ b]
    rw[IH z]
   rw[HM z]
def b0d(b:D69)(d:CKW scope.names):A47 EBW :=
 a2r b _ _ (EU d) λc z=>A8E
def a0a{x:Str}{c:qE}:C7F C3S ((n<=c/\DC8)∨A64)
 |[],_,_,h=>CV3
 |BYY,n,qR,h=>by
  rw[bY cellsFrom];split at h
  .rw[AD0];rw[BNM b k .cell hk]
   rw[EKF]
   rw[IH ⟨D51,AXX⟩]
   .rw[D5W];cases a:x==y with
    |true =>
     rw[tE a];exact .inl ⟨BW,OH b CTG List.mem_cons_self⟩
    |false =>
     rw[a]at z;rw[wH z]
  .rw[EKF]
   rw[IH ⟨d,AXX⟩]
   rw[HM z]
def b2b:C7F ((∀x c,A64->c<n)) ((C77 A64 qR.lookup) ->
  C77 C3S (XW (BE3 names qR)))
 |[],_,_,_,h2=>h2
 |bF z k,n,qR,h1,h2=>by
  rw[wD cellsFrom]
  .have lk:∀x c,List.lookup x ((z,n)::qR)=AC c->(x=z/\c=n)∨A64:=λx c e=>by
    rw[List.lookup_cons]at e;cases a:x==z with
    |true=>rw[GU a];exact .inl (ZA CTG)
    |false=>rw[a]at e;exact .inr e
   refine b2b r FJ _ B3M (DY x y c e e')
   .rcases D10 with⟨_,q⟩|q
    .rw[BO q Nat.lt_succ_self _]
    rw[BNQ DSH]
   .rcases D10 with⟨q1,q2⟩|q<;>rcases lk y c e' with⟨p1,p2⟩|p
    .rw[q1,p1]
    rw[II (h1 y c p) (B1F q2)]
    rw[II DSH (B1F p2)]
    .exact h2 x y c q p
  .exact b2b r n qR h1 h2
def a8r{x:Str}:C7F ((DC8∨∃c,A64)) (∃c,C3S)
 |[],_,_,h=>E2D
 |BYY,n,qR,h=>by
  rw[wD cellsFrom]
  .rw[E6H];rw[BP a x y]
   rw[HM ⟨n,by rw[List.lookup_cons,a];simp⟩]
   .have hb:(x==y)=false:=beq_eq_false_iff_ne.mpr a;rcases h with z|⟨c,z⟩
    .rw[C10]
     rw[II (CTN).1 a]
     rw[IH z]
    rw[HM ⟨c,OH List.lookup_cons hb z⟩]
  .rw[E6H];rw[CM h]
   .rw[C10]
    rw[II (by rw[<-(CTN).2];rfl) hk]
    rw[IH z]
   rw[HM z]
def a7M{x:Str}{c:qE}:∀(names:A1Q) (h:Heap) (qR:WM),(∀x c,A64->C09 h.IsCell)->uR (cellsFrom h.objs.size names qR)->C09 (pushCells h names).IsCell
 |[],h,qR,a,e=>fX a
 |BYY,h,qR,a,e=>by
  unfold cellsFrom at e;unfold pushCells;split at e
  .rw[AD0];rw[cP hk];rw[show h.objs.size+1=(h.push (aO "cell" .cell none)).objs.size from(fR Heap.size_push ..)]at e;refine E5W (DNI e');rw[List.lookup_cons]at e';cases d:x'==y with
   |true=>rw[AU d e' e'];rw[CK _ _ IW rfl]
   |false =>
    rw[d]at e';rw[E16 (a x' c' e') kR]
  .rw[AD0];rw[AF (CF hk) (E5W a)]
section
variable {M:Model}
def b0j{a:WM}{outer:Env}{Q:PH Env}
  (f:Q (newEnv scope s.heap.objs.size b (cellsFrom GE scope.names a) qual none .none CSD builtinsNs) (HW (B6A s.heap.push))) :
  KO M (newFunctionEnv scope b a [] qual none .none CSD) Q:=by
 simp only[newFunctionEnv,Option.isSome_some,if_true];rw[A36 wpAny_alloc (AI (wpAny_layCells _ (λname c d=>by cases e:c==NameKind.cell<;>simp[e]) _ _) ?_)];rw[BO (EBM (AOY "dict" .dict #[]) GE) wpAny_bind (ADO f)]
#where
abbrev NoX:qI:=AHG
def toE{M:Model}{t:BRX}{Q b:BPD}(h:FV M A t Q NoX s)(c:E8A):DWO :=
 (D7Q h c)
def a8q{d a b:Expr}{e:BH}{it qR:qB}{R:nY}(I:BPC)
  (f:∀n s,I n s->FV JM A (pyNext it) (λr s₁=>match r with
   |none=>R (.ok .next) s₁
   |JZ=>dZ (letOwnedTupleGo a it v) (FD s₂ (dZ (assign a env v) (λ_ s₃ =>
     dZ (EEJ e (do let ok <-isTrue c env (eval c env);pure (ForInStep.yield ok))) (λok s₄ =>
      if AY ok then dZ (B0U d) (λx s₅=>dZ (A2E "list.append" [qR,x]) (FD s₆ (DJL s₆)) NoX s₅) NoX s₄
      else DJL s₄) NoX s₃) NoX s₂)) NoX s₁) NoX s)
  (n:Nat) (h:I n s):BZI (.compLoop DDX 0 it qR env):=by
 refine codeAny_loop rfl I (DV n s g) n h;rw[PZ A ((compTurn DDX 0 it qR env).onRaise (FE (do noteFrame x env;theTreesLotGoes x)))];rw[IR wpAny_noted];rw[compTurn_list];rw[BL (A54 wpAny_standAt (JL toE (f n s g) r s₁ h₁))];cases r with
 |none=>rw[wI h₁]
 |some v =>
  rw[BL (toE h₁ λ_ s₂ h₂=>AW6 (toE h₂ λ_ s₃ h₃=>AW6 (JL toE h₃ ok s₄ h₄)))];cases ok with
  |false=>rw[wI (FN h₄)]
  |true=>exact wpAny_bind (wpAny_bind (toE h₄ λx s₅ h₅=>AW6 (toE h₅ λ_ s₆ h₆=>ADO (FN h₆))))
/---/def Cx.blk(X:Cx)(N:AA)(scope:Scope)(cells:WM)(C:qE)(s:qC)(H:Hp)(ex:EK):Cx :=
 {X with N:=N,s₀:=s,H₀:=H,env:=DQU cells C,outer:=X.stack,stack:=X.stack,ex:=ex,fn:=FE (scope.names.any λy=>cF==x && y.2==.cell),pn:=[],xe:=NoX}
/---/def B6(src:LQ)(σ:St):St:=src.map λo=>o.bind λj=>DM6
/---/def B5(sc out:Scope):Bool:=CXI (bW != .free || (D6Q .cell || D6Q .free))
/---/def Q8:AA->LQ->AA->Scope->Bool
 |[],[],_,_=>true
 |x::N,C06,M,sc=>(match o with|none=>true|AC j=>M[j]? == bN && sc.names.lookup x==AC .free) && Q8 N src M sc
 |_,_,_,_=>false
/---/def a7z(sc:Scope):Bool:=sc.kind==.function && CXI (BBX sc.names.lookup bW)
def a6X:∀{N:AA}{src:LQ}{M:AA}{a:Scope},DSZ->src.length=N.length
 |[],[],_,_,_=>rfl
 |_::N,_::src,M,a,h=>by
  rw[C1U];rw[D71 (a6X EJ)]
 |[],F2,_,_,h=>B5Y
 |F2,[],_,_,h=>B5Y
def a6Y:∀{N:AA}{src:LQ}{M:AA}{a:Scope}{i:Nat}{x:Str}{j:Nat},DSZ->OZ N->rS BPV j->AT4 M/\AXM a.names.lookup
 |[],[],_,_,_,_,_,_,h,_=>aG
 |y::N,C06,M,a,0,x,j,h,h1,h2=>by
  rw[C1U];simp at h1 h2;subst h1 h2;rw[AU3 CD Bool.and_eq_true];rw[AZ (beq_iff_eq.mp CS) (beq_iff_eq.mp DM)]
 |y::N,C06,M,a,AT,x,j,h,h1,h2=>by
  rw[C1U];exact a6Y EJ A2Z A30
 |[],F2,_,_,_,_,_,h,_,_=>B5Y
 |F2,[],_,_,_,_,_,h,_,_=>B5Y
def b5B{v:V}(h:BD0 ((B6 src σ))):∃j,BPV=CA some j/\rS ATK v:=by
 rw[bY B6];rw[AYU];cases e:BPV with
 |none=>rw[AJN]
 |some o =>
  rw[e]at h;cases o with
  |none=>cases h
  |some j =>
   refine AY9 j;have h':DM6=AC v:=CJ2;cases q:ATK with
   |none=>rw[AU q h' h']
   |some z=>rw[q]at h';rw[show z=AC v from h']
def a0X{env:Env}:∀{names:A1Q}{x:Str}{k:NameKind},
  EOP ->
  CMW names.lookup (C6W)
 |[],_,_,h=>ZS
 |D9G,x,k,h=>by
  rw[List.map_cons,List.lookup_cons]at h;rw[BLW];dsimp only at h;split at h
  .rename_i h0;have a:x==n:=by
    rw[DLZ]
   rw[a];refine AY9 k0;split at h
   .rename_i hc;cases h;rw[CRZ hc];rw[wH (D0K hc.1)]
   .cases h;rw[B90]
  .rename_i h0;have a:(x==n)=false:=by
    rw[DLZ]
   rw[BO a a0X h]
def M6{env:Env}:∀{names:A1Q}{x:Str}{k':NameKind},JN names.lookup k' ->
  ∃k,EOP/\C6W
 |[],_,_,h=>ZS
 |D9G,x,k',h=>by
  rw[List.lookup_cons]at h;rw[List.map_cons];by_cases b:HI (k0==NameKind.free && env.scope.kind==.function && CJD==CIK)
  .simp only[b,if_true];rw[BLW];cases a:x==n with
   |true =>
    rw[yD a];rw[CRZ b];exact DS (DZ (D0K WN))
   |false=>rw[AYT a M6]
  .simp only[AFN];rw[BLW];cases a:x==n with
   |true=>rw[yD a];exact DS PX
   |false=>rw[AYT a M6]
/---/def PIf(X:Cx)(ifs:BH)(t:TT):Prop :=
 B2Z UQ (APJ ->
  A8Q (EEJ ifs (do let ok <-isTrue c X.env (eval c X.env);pure (ForInStep.yield ok))) TP)
/---/def Q0:TT:=BW1 true
def c2f:PIf X [] Q0:=pL Q h (YM wpAny_tests_nil H I h)
def c2e{c:Expr}{t:TT}(h:PT X c t):PIf X [c] t:=pL Q q (wpAny_tests_one (B06 Q I q))
/---/def Sub(σ σ':St):Prop:=σ.length=σ'.length/\KC i Nat v V BWM D7W
/---/def G3(src:LQ)(g:TG)(tt:TT)(te:TE)(σ:St)(Q:VK)(J:It)(H1:Hp):Prop :=
 ∃W:AN3 A12,(∃m,W 0 m [] H1)/\∀i m ys H,W i m ys H ->
  (J.stop i H/\jA/\A3F) ∨
  (J.go i H/\D3B/\∃N:A12,(∀zs H',N zs H'->∃m',m'<m/\E9E zs)/\BB1 J.yld (CA9 D5M (tt σ2 H2 λb H3 =>
   U3 b (te σ2 H3 λv H4=>N A3D H4) (N ys H3))))
/---/def a6w(src:LQ)(wi:TI)(g:TG)(tt:TT)(te:TE):TE:=QY σ (wi σ H (G3 src g tt te σ Q))
def Inv.block{fp:EK}(I:AM)(O:BT9)(T:D31 QC)
  (G:yR) (C:A7M) (B:yE) {lo:Obj} :
  Inv (CCF BXU GE s H fp) [] fY H
   (HW (B6A BT0)):=by
 unfold a7z at B;rw[CRT B];rw[BNM D scope.kind .function B.1]
 have E:BO9 DU3:=λx t=>CJ (DOO B.2)
 have g:BO9 (C3D (D72 .cell∨D72 .free)):=λx t f=>by
  rw[AU3 (DOO G) f];rw[EDF Q]
  rw[Bool.or_eq_true]at Q;exact DZO Q.imp
 have keep:t8 QC (B6A BT0).get?:=λb o e =>
  BOY BO5
 have P:∀x c,XV (a4m scope X.env).lookup->c<s.heap.objs.size:=λx c e=>by
  rw[A3S z (I.cell x c (a1I e))];exact z.lt
 have d:∀x c,uR BXU->(uQ<=c/\DC7)∨A0F:=λx c e =>
  (DFT).imp id a1I
 have J:∀x k,JN (DQU BXU GE).kindOf k->DIY (C6W):=λx k e =>
  a0X (env:=X.env) e
 have mem:∀{x k},JN scope.names.lookup k->(x,k)∈scope.names:=λe=>mem_of_lookup e;refine⟨⟨I.ok.mod,?_,I.ok.glob,I.ok.blt,?_,?_,?_,?_,I.ok.hd,I.ok.frames,PX,?_,I.bs,DGI,?_,?_,I.stack,I.stkFree⟩,rfl,I.bare,Un.kept keep,?_,?_,?_,?_,?_,I.hok.kept keep,?_⟩
 .exact D
 .exact Nat.le_succ _
 .-- inj
  refine IE b2b B3M λx y c e e'=>I.ok.inj x y c (a1I e) (a1I e');exact Nat.lt_of_lt_of_le (fX P) AV2
 .-- has
  intro x t;refine IE a8r ?_;have f:DIY ((k'=.cell∨k'=.free)):=by
   rcases t with t|t
   rw[EF4 (z.elim (λz=>EU z.symm) λz=>DZ ZH)]
   rw[EF4 (z.elim (λz=>DZ z.symm) λz=>by cases z.2)]
  obtain⟨k',e,rfl|rfl⟩:=f
  .exact jX mem e
  .obtain⟨a,ha⟩:=I.ok.has x (g _ (mem e) rfl);exact .inr ⟨a,b0d ha (mem e)⟩
 .-- cab
  intro x c t e;rw[CM (fX d)]
  .exact Nat.le_trans AV2 ZH
  .-- x is the block's own cell, so it is not in the closure's part
   exfalso;rw[D2 y V F List.any_eq_true.mp t];rw[Bool.and_eq_true]at F;have e1:cF=x:=CRA F.1;have e2:y.2=.cell:=by simpa using F.2
   have Y:AC0 scope.names.lookup:=by rw[<-e1,<-e2];exact E y V
   rw[SC DFT]
   .rw[A3S z' (I.cell x c z)];rw[FO (DZJ z'.lt CS) cX]
   .-- the closure holds free names alone
    have fr:C4T K (uR (CFE X.env K)) (DH7∨XV K.lookup):=by
     intro names;induction names with
     |nil=>intro K h;exact .inr h
     |cons n r W =>
      intro K h;rw[CXU];rw[B45 (W _ h)]
      rw[IH (HV w)]
      .rw[APV L8 w w]
       .rename_i f;split at w
        .rw[List.lookup_cons]at w;cases A:x==n.1 with
         |true =>
          have:n=(x,NameKind.free):=Prod.ext (D0T A) CUL;exact .inl (AF2 this)
         |false=>rw[A]at w;rw[wH w]
        rw[HM w]
       rw[HM w]
    rw[B45 (AI fr q)]
    .rw[AF0 (E _ w) Y]
    .cases w
 .-- exf
  intro b A;rw[OM o (T b A)];have lt:=wM;rw[EV (BJM lt) (DV x c M)];rw[CM (d x c M)]
  .exact Nat.ne_of_gt (DZJ lt ZH)
  .exact W1 (wJ O b A) x c z
 .-- noex
  intro b o e A;rcases(TV (E2Y)) with z|z
  .exact YV I.ok.noex z
  rw[II (tD BU1 z) cX]
 .-- exfs
  intro b A z;rw[E24 z q q]
  .exact A5E O b A q
  .exact W1 (E2Y) q
 .-- loc
  rw[DN AXP ?_ (EAB Z)]
  .rw[jE ((Heap.Ns.new (s.heap.push lo) (JK "dict")).keeps (pushCells_keeps scope.names _)) Heap.size_push]
  .rw[D2 j e4 e5 b5B e2];obtain⟨R,L⟩:=a6Y C e1 e4;obtain⟨m,_,S⟩:=I.loc;have f:=g _ (mem L) rfl;have U:B19:=.inr (f.imp id id);rw[UP r l (S j x v R e5 U)];rw[DN u r (DZ CX9)]
   .obtain⟨k,q,z⟩:=M6 (env:=X.env) L;rw[CM z]
    rw[HM (QE z q)]
    rw[IH (QE z.2 q)]
   .rcases l with l|⟨_,c,M,z⟩
    .exfalso;rcases f with f|f<;>rw[l.1]at f<;>cases f
    .rw[DN c ?_ (z.keeps keep)];have own:¬DC7:=λw=>by
      rw[AF0 (E _ w) L]
     rw[ZI c' (a8r (x:=x) scope.names uQ A3G (.inr ⟨c,b0d M (mem L)⟩))];rw[B45 (d x c' q)]
     rw[II w.2 own]
     .rw[AU M w w];exact q
 .-- cell
  intro x c e;have e':uR (APG (BT0 CCN).objs.size A3G):=by
   rw[DW Heap.size_push Heap.size_push e]
  refine a7M _ _ _ (DNI q) e';rw[E16 (I.cell x' c' (a1I q)) CVF]
 .exact DO8
 .intro x c e;rw[CM (fX d)]
  .exact I.hok.fresh (bP AV2 ZH)
  .exact I.freeC x c z
 .intro p hp;cases hp
 .show MK B6 src σ=N.length;rw[AEO B6 List.length_map a6X C]
def Inv.unblock{d:WM}{C qR:qE}{fp:EK}{pins':CV}{σ':St}{H':Hp}{s':qC}{ys:AE}{us:AQ}
  (I:AM) (y:BT9) (x:BLQ C) (v:BLQ qR) (m:qR≠C) (J:E4Z (CH5 s H fp) pins')
  (w:BMQ qR) (A:s'.heap.get? qR=AC (ANK us.toArray)) (B:A6N) (D:jA) (l:Heap.SameBut C s'.heap h') :
  KN DWN CKR:=by
 have base:BJE lX fp:=J.base;have kp:A1T (GY C) (GL s'.heap.get?):=mE q l.extBut q;have a:kE QC (GY C/\GY qR):=GR o (by
  have:=wM;rw[AZ (DZF x) (DZF v)])
 have g:BMQ C:=J.free;have h:DK qR:=I.hok.fresh v;have j:AIJ:=J.hok;have p:AN0 DWN h':=by
  intro b o e;rw[BP i b qR]
  .subst i;rw[GU A0];rw[EB D us n B (AO kp m A)]
  .rw[A5 i]at e;refine(YH j).stay (λc u k q=>kp c u ?_ q) (BB c q) λc xs q=>?_
   .rw[W2];rw[TR k k]
    .rw[GU g]
    .rw[AU g k k]
   .rw[AF (BBS w) q]
   .rw[AF (BBS w) q]
 have f:AHQ (GY qR):=GR u (by rw[W2];rw[GU h])
 refine GQ (I.call' (s':=CKR) (ch:=fp) (J.os) ⟨E65,E65,C4J q t,ACJ e t,D3U,DHF,BTP⟩ p J.bare) b l
 .exact kp b o BU0 (E55 base.keep)
 .rw[QN sl z (E55 base.slot) sl (kp b _ BU0 z)]
 rw[wX (YH a).2 (base.free b o e q t)]
 .rw[QN o' z (YV base.there t) o' (kp b _ BU0 z)]
 rw[wX (AQ7 f) (BOO base.tups)]
 rw[wX (AQ7 f) (kD base.frzs u)]
 rw[wX (AQ7 f) (BON base.tbls)]
 rw[C7R (y b l)]
set_option maxHeartbeats 4000000 in
def a6V{tg t E:Expr}{K:BH}{wi:TI}{tt:TT}{Q:VK}{RR:qB->qE->nY}(hc:ED)(hi:AIH t wi)
  (b7:yR) (b6:A7M) (d4:yE)
  (hg:DDE) (ht:u6 PIf K tt) (he:DC1 E)
  (I:AM) (h:nH (a6w src wi g tt) te)
  (b8:∀(s2 s4:qC) (H2 H4:Hp) (fp:EK) (a:WM) (pl:CV) (σ4:St) (ys:AE) (us:AQ) (k:Nat),DN1->A1L (CH1 H2) ->
   Inv E9G pl σ4 H4 s4->ET H4 s2.heap.objs.size->AWQ s4.heap.get? API->A6N->jA ->
   LV s2.heap.objs.size (HU H4 s2.heap.objs.size ys)->RR AD3 UH (.ok .next) s4) :
  aY (QT t) (λx s₁=>v9 (pyIter x) (λit s₂=>v9 (newList []) (λqR s₃ =>
   v9 (newFunctionEnv scope X.env.globals A3G [] X.env.qual none .none (AC X.env)) (λP s₄ =>
    codeAny T6 X.A (.compStart EF6 0 it qR {P with scope:=B9H relabel}) (RR qR P.locals) s₄) s₃) s₂) s₁):=by
 refine E12 d6;rw[EPM Y c3 c5];have b9:D31 CU6:=λb l=>(C12 c3 l).imp λ_ q=>CS;rw[aM wpAny_newObj_type b0j];have hB:=Y.block (lo:=BKG) f2 b9 b7 b6 d4;rw[EBM (A8O s2 (s2.heap.push BKG)) UH];generalize G:APG (UH+1) A3G=a at hB⊢;generalize B:B6A (s2.heap.push BKG).push=h4 at hB⊢;have a5:t8 CU6 h4.get?:=fU o (by
  rw[KP B (BOY CVF)])
 have a9:AWQ h4.get? (AL4 (.seq CCB 0)):=by
  rw[KP B (BOY AXR)]
 have c4:tn 0 h4:=B5W c3 _ q (a5 b o q);generalize f:E9G=j at hB;rw[jB eA j.A X.A]
 rw[jB eP j.prog X.prog]
 rw[jB ew j.w X.w]
 rw[jB eK j.K X.K]
 rw[WT ec (AY j.calm) f hc]
 rw[jB ee j.env (compEnvC scope a UH X.env)]
 rw[jB ex j.ex fp]
 rw[jB b0 j.pn []]
 rw[jB c9 j.s₀ s2]
 rw[jB a0 j.xe NoX]
 have eL:j.env.locals=UH:=by rw[ee];rfl
 have c8:j.fs=frs X.stack:=by rw[<-f];rfl
 have c2:=hB.ok;have cne:∀x c,XV j.env.cells.lookup->c≠s2.heap.objs.size:=λx c q=>by
  rw[ee]at q;have q':XV a.lookup:=q;rw[<-G]at q';rw[CM (IE a0a q')]
  .exact Nat.ne_of_gt (Nat.lt_of_lt_of_le (Nat.lt_succ_self _) (BSV Nat.le_succ ZH))
  .rw[A3S z' (Y.cell x c (a1I z))];exact Nat.ne_of_lt z'.lt
 have R:tY CVU:=λb l=>by
  rw[ZI o (b9 b l)];exact Nat.ne_of_lt (Heap.lt_size q)
 have A:s2.heap.objs.size∉j.fs:=by
  rw[c8];intro z;rcases CR8 (Y.stkSub _ z)with q|q
  rw[II Y.lt (CIF q Nat.lt_irrefl)]
  .exact ACG Y.nofs q
 have w:∀{H':Hp}{pl:CV},AHX->BT p pl (DT=s2.heap.objs.size)->tY (a3H j pl H' b):=λ{H' pl} hn D b l=>by
  obtain⟨x1,x2⟩:=DNK c2.exf;refine⟨hn b l,x1,DNK c2.exfs,MW .inl ex l,x2,A41 c0⟩;rw[b0,List.nil_append]at c0;rw[D p c0];exact A8U R b l
 have c1:∀s5:qC,s5=A8O s2 h4->codeAny T6 X.A (.compLoop EF6 0 mL AD3 j.env)
   (RC RR s2.heap.objs.size UH) s5:=by
  rintro s5 rfl;refine a8q (λn s'=>∃i H' ys us k,DD1 H' s'/\D48/\AHX/\BMQ s2.heap.objs.size /\
   AWQ s'.heap.get? (C9K (us:AQ).toArray)/\A6N/\W i n ys H') ?_ m0
   ⟨0,H2,[],[],0,hB,c4,λb l=>uA f2 l,aU Y.hok.fresh,a9,.nil,w0⟩
  rintro n s3 ⟨i,S,ys,us,k,I3,a6,a4,L,a8,r3,w3⟩;rcases c5 i n ys S w3 with⟨stop,hz,qn⟩|⟨go,hz,Nn,hN,step⟩
  .rw[CQP (CP9 T.done ec i [] s3) I3 uS stop];rw[EGR (by
    rw[EME])]
   rw[EMA T.done stop];refine EW d r s4 ⟨hr,I4⟩;subst hr;have c7:=(I4.pin DMK CK1).1;rw[<-f]at I4;exact b8 s2 s4 H2 S fp a _ _ ys us k Y f2 I4 L c7 r3 hz (qn _ L)
  .rw[EGR (by
    rw[EME])]
   rw[EMA T.item go];refine EW d r s4 O;rw[UP hr d1 O];subst hr;refine EW d1 _ s5 O;obtain⟨x,H5,I5,r5,y5,a7,d0⟩:=O;have c6:=I5.pinned (w d0 CNG) (AI T.obj a7);rw[WT d3 (PG j tg g) f (VQ hg)]
   rw[WT d5 (PIf j K tt) f (VQ ht)]
   rw[WT d2 (PE j E te) f (VQ he)]
   rw[C70 a1 (EA4 (d3 _ s5 _ H5) c6 H5) a1];rw[wC (EW a1 _ s6 O) σ6 H6 I6 sb q6 O];rw[C70 a2 (d5 _ s6 σ6 H6 _ I6 q6) a2];refine EW a2 ok s7 O;obtain⟨H7,I7,q7⟩:=O;have back:∀{U:Hp}{M:qC}{pl:CV},Inv j (CN4++a5i fp s5.heap) σ6 U M ->
     DD1 U M/\tn AT M.heap/\A1L (ET U b)/\ET U s2.heap.objs.size/\AWQ M.heap.get? API:=λ{U M pl} I8=>by
    have p0:=I8.pin DMK (WD (hZ List.mem_cons_self));refine⟨(I8.pins_of (pins':=[]) λp D=>by cases D).weak sb.1 sb.2,B5W a7 l e (I8.pin y8 DWW).1,gA l,p0.2.1,p0.1⟩;obtain⟨o,e,_⟩:=C12 a7 l;exact A5E I8.pin y8 DWW
   cases ok with
   |false =>
    rw[ENB w7 q7 I7];exact⟨m',hm,AT,H7,ys,us,k,b1,b2,b3,b4,b5,r3,w7⟩
   |true =>
    rw[C70 a3 (d2 _ s7 σ6 H7 _ I7 q7) a3];rw[wC (EW a3 y M O) vy U I8 ry n8 O];rw[ENB w8 n8 I8];rw[E6U (PN b5) (PySem.list_append s2.heap.objs.size us.toArray k y (by rw[sM r3.length];exact a3P hz)) b5];rw[DHZ b5 (λxs=>CW5) (show us.toArray.push y=A23 DN3 by simp)];have nb:zW CVU (GL M.heap.get?) (M.heap.update s2.heap.objs.size (Obj.mapSeq λxs=>CW5)).get?:=λb o l e =>
     sO (Heap.get?_update_other M.heap _ (Ne.symm l)) e
    refine⟨m',hm,AT,U,ys++[vy],DN3,_,?_,?_,b3,b4,q,DMY r3.append ry,w8⟩
    .exact b1.turned nb b4 CMU (.inr (by rw[BCZ c9])) cne λp D=>by rw[AU b0 D D]
    .exact B5W b2 l e (kD nb (R b l))
 rw[cG m (c1 _ rfl) ee m];exact codeAny_compStart_list m (T.self _ 0 _ _ _ c4 m)
def a6B(a:yE):scope.kind=.function/\EQ scope.names DU3:=by
 rw[AAS a7z];rw[Bool.and_eq_true]at a;rw[AZ (CJ a.1) (λx b=>CJ (List.all_eq_true.mp a.2 x b))]
def Inv.clos(I:AM)(a:yR):B9H closureFor=pure A3G:=c0O λx d c=>by
 have q:=List.all_eq_true.mp a x d;rw[c]at q;rw[EDF b]
 rw[Bool.or_eq_true]at b;exact I.ok.has HH (DZO b.imp)
def c2r{tg b e:Expr}{j:BH}{u:TI}{t:TT}(y:ED)(hi:AIH b u)
  (c:yR) (f:A7M) (i:yE)
  (A:DDE) (D:B8F a (PIf (B8L C s H ex) j t)) (z:DC1 e)
  (hs:C5B:=by rw[eC]):DF (.ListComp e (ARD b j) scope pos) (B6P u t):=by
 rw[LC];obtain⟨d,n⟩:=a6B i;rw[eval_ListComp];refine wpAny_comprehension_free (use:=none) rfl hs (I.clos c) d (λx E B=>by rw[gY B n x E]) (a6V (RR:=CHM none BHS) y hi c f i A D z I h ?_);intro s2 L H2 J fp a K σ4 ys M k v f2 r p l G F q;rw[BM4 o r.loc];rw[AV m o (λh' w=>EO AD3 _ (Inv.unblock v f2 AWW BW A3H r p l G F w) q)]
def c1R{y:Str}{u r:Pos}{tg f j:Expr}{l:BH}{wi:TI}{tt:TT}
  (hN:X.N.Nodup) (hy:B1M) (Y:B52)
  (hc:ED) (hi:AIH f wi) (n:yR) (B:A7M) (F:yE)
  (hg:C1T PG tg g) (ht:C1T PIf l tt) (S:C1T PE j te)
  (W:E43 EI1 APM r.line:=by rfl) (hs:AR9 (foldedSetIterable f X.env x):=by rw[eC])
  (hf:B6W:=by rw[eF]) :
  PS X (.Assign [APM] EI1 r) (BKQ (B6P wi tt)):=by
 rw[UO];rw[sU t T a6B F];rw[TJ exec_Assign_Name_used W];rw[BL (kC wpAny_standAt wpAny_bind)];rw[PZ X.A ((do let _ <-comprehension (.ListComp j [⟨tg,f,l,0⟩] scope pos) scope X.env _ (newList []) false (eval f X.env) (some (assign (.Name y u) X.env))))];rw[BL (kL (wpAny_comprehension_free (use:=CFW) (Q:=CGL) rfl hs (I.clos n) t (λx Y hk=>by rw[gY hk T x Y])
  (a6V (RR:=CHM CFW CGL) hc hi n B F hg ht S I h ?_)) (λ_ s' hq=>ADO hq) _ _ e e)]
 intro s2 s4 H2 H4 fp d pl σ4 ys us k w f2 L Z M r4 hz q;rw[BM4 V L.loc];have E:s4.heap.Ns UH m:=V;have O:ET H4 UH:=L.free;have J:=Inv.unblock w f2 AWW BW A3H L Z M r4 hz (BR Heap.SameBut.refl);have K:UH≠X.env.locals:=CBH Nat.ne_of_gt w.lt;have G:BVK UH:=λx c e=>by
  rw[A3S z (fX w.cell)];exact Nat.ne_of_lt (Nat.lt_succ_of_lt z.lt)
 rw[jT X.A (assign APM X.env AD3) s4];refine wpAny_assign_Name (a6z (v:=AD3) J hN hy Y rfl (DV s' I' hb) hf);obtain⟨a,sb,P⟩:=hb;have A:UH≠a:=by
  rw[TR P P]
  .exact K
  .exact(A3Y P).symm
 rw[DN m (E.sameBut sb A) (λh' R=>UB _ (GQ (BG I'.turned t' s'.toks it UH (mE U R.extBut U) ?_ K (D74 w.sz AWW) G) p hp) q)]
 rw[wX D3Q O]
 .exact Nat.ne_of_lt (CSA Nat.lt_succ_of_lt (w.pin p hp).1)
/---/def SqAt(k:Bool)(h:Heap)(l:qE)(xs:DI):Prop:=C4E (h.IsTuple l xs) (h.IsList l xs)
/---/def ItAt(k:Bool)(h:Heap)(i l:qE)(n:Nat):Prop:=C4E (h.IsTupleIter i l n) (h.IsListIter i l n)
/---/def c7m:Bool->String|true => "tuple_iterator" | false => "list_iterator"
/---/def U7(k:Bool)(l:qE):Obj:=AKC (.type (c7m k)) (.fields C8W)
def ItAt.extBut{k:Bool}{h h':Heap}{i l b:qE}{n:Nat}(x:BY2)(hs:E4H)(a:i≠b):DA1:=by
 cases k
 rw[B4D Heap.IsListIter.extBut]
 rw[B4D Heap.IsTupleIter.extBut]
def ItAt.at{k:Bool}{h h':Heap}{i l:qE}{n:Nat}(x:BY2)(e:DTF i i):DA1:=by
 cases k
 .exact Heap.IsListIter.at x e
 .exact Heap.IsTupleIter.at x e
def ItAt.get{i:qE}(x:BY2):∃o,ASZ i/\DET #[FP,A8V n]:=by
 cases k<;>obtain⟨o,e,c,d⟩:=x<;>exact(UC e d)
def SqAt.extBut{k:Bool}{h h':Heap}{l b:qE}{xs:DI}(x:BWC)(hs:E4H)(a:l≠b):D7O:=by
 cases k
 rw[B4D Heap.IsList.extBut]
 rw[B4D Heap.IsTuple.extBut]
def SqAt.at{xs:DI}(x:BWC)(e:DTF l l):D7O:=by
 rw[EH3 (UC (e o q) r)]
def SqAt.get{xs:DI}(x:BWC):∃o,ASZ l:=by
 rw[EH3 (lZ q)]
def a4j{t:qE}{x:qB}(a:E5I)(g:DQC)(h:BOS)
  (e:DIF (h'.IsTupleIter it t AT)):B4J:=by
 obtain⟨o,b,f,hd⟩:=id a;rw[E29 k d j g (D86 a.typeIs
  (EDR a.typeIs))]
 rw[ELQ (AJY hd bZ) (AJY hd CDK)];rw[BL (wpAny_seqItems d c ?_)];rw[DAJ h (wpAny_setField b hd AJ (CIC (CU x (DYT e ?_))))];rw[CK _ (AWR b (Obj.isFreed_of_fields (Obj.data_mapFields hd _))) (DPF f) (by
  rw[Obj.data_mapFields hd];simp[rawInt])]
def a5s{t:qE}(g:XA)(b:E5I)(j:DQC)(k:BQ5)
  (h:DJR) :
  B4J:=by
 obtain⟨o,d,l,hd⟩:=id b;rw[E29 p f n j (D86 b.typeIs
  (EDR b.typeIs))]
 rw[ELQ (E9X bZ) (E9X CDK)];rw[BL (wpAny_seqItems f c ?_)];rw[DAJ k (A54 wpAny_rule (wpAny_setField d hd AJ ?_))];rw[sH E56];rw[EP1]
 first|rw[DW6]|rw[g]
 rw[BL DFY];exact AO h EBX BPQ
def a2A{x:qB}(a:B5I)(c:y6)(d:BOS)
  (b:DIF DUD):B4J:=by
 cases k
 .exact wpAny_nextOf_list_item a c d b
 .exact a4j a c d b
def a7q(c:XA)(a:B5I)(d:y6)(f:BQ5)
  (b:DJR) :
  B4J:=by
 cases k
 .exact wpAny_nextOf_list_end c a d f b
 .exact a5s c a d f b
def M4(b:y6)(a:wU (HW C5A)):FH (AYK l):=by
 cases k
 .exact wpAny_pyIter_list b a
 .exact wpAny_pyIter_tuple b a
def b5G{z TI TO g m:qE}{p q:Nat}{xs ys:DI}{x y a b:qB}(D:ZipApart z TI TO f g l m)
  (j:DSR) (B:DIK A01 g) (C:DDA)
  (h1:ItAt k1 s.heap f l p) (h2:ADK s.heap g m q) (F:SqAt k1 s.heap l xs) (G:SqAt k2 s.heap m ys) (I:bK xs p) (J:GK ys q y)
  (H:∀h',C75 h' s.heap.objs.size->AZZ h' TO->DJ4 h'->DJB h'->AZZ h' s.heap.objs.size->DEB ->
   AJL AYZ (C74 f g AGR)->wU VT) :
  EEU Builtin.«zip.__next__» z:=by
 rw[EP2 (B76 AAK) (B76 CD2) B j (B76 CD3) j];rw[sH (AO4 f)];rw[BL (EBY (a2A C2K (CLD F.extBut) I))];rw[EJV C];replace hTO₃:E44 h₃:=hTO₃;rw[E4M g (a2A (E92 hs₃.extBut D.TOi2.symm)
  (EH5 G.extBut) J λh₄ h2₄ hs₄=>ATF)]
 have hTO₄:E44 h₄:=AO hs₄.extBut D.TOi2 hTO₃;rw[WF (ACL hTO₄) (CIY hTO₄ h₅ hTO₅ hs₅)];replace hTO₅:AZZ h₅ TO:=hTO₅;rw[YG wpAny_letGo (AP1 wpAny_pure)];rw[BL (ACL hTO₅)];rw[MC wpAny_newTuple];have i:h₅.objs.size=s.heap.objs.size:=by rw[hs₅.1,hs₄.1,hs₃.1,hs₂.1,hs₁.1]
 have hz₅:AR5 h₅:=YF hs₅.extBut D.TOz.symm hs₄.extBut D.i2z.symm (YF hs₃.extBut D.TOz.symm hs₂.extBut D.i1z.symm hz₁);have hk₅:∀c o,AYZ->C74 f g CZG:=λc o h n t u e =>
  E6A n hs₄.extBut u n t h e
 have h1₅:DJ4 h₅:=A9P (A9P h1₂.extBut hs₃.extBut D.TOi1.symm) hs₄.extBut D.i12 hs₅.extBut D.TOi1.symm;have h2₅:DJB h₅:=h2₄.extBut hs₅.extBut D.TOi2.symm;have d:z<h₅.objs.size:=Heap.lt_size hz₅;rw[sH (AOZ Builtin.SmallTypes.ownedTupleHandOut z h₅.objs.size)];rw[bO];unfold Builtin.SmallTypes.ownedTupleHandOut;have hz₆:AR5 (A7G h₅.push #[x,y]):=QX hz₅;rw[BL (AVB hz₆ h₇ hz₇ hs₇)];replace hz₇:C75 h₇ h₅.objs.size:=hz₇;refine AVB hz₇ h₈ hz₈ hs₈;replace hz₈:C75 h₈ h₅.objs.size:=hz₈;have r:BL1 AYZ CZG h₈.get?:=λc o h e=>DPK h h fO;have hT₈:AZZ h₈ h₅.objs.size:=DPK CXK CXK IW;have k:h₈.objs.size=h₅.objs.size+1:=by rw[hs₈.1,hs₇.1,Heap.size_push]
 rw[i]at hz₈ hT₈ k;rw[cA tW];show LV h₅.objs.size _;rw[AF i (H h₈ hz₈ (AO r D.TOz hTO₅) (E4X h1₅.at D.i1z) (E4X h2₅.at D.i2z) hT₈ k λc o h n t u e=>r c o h (hk₅ c o h n t u e))]
def c1l{z TI TO m n y B:qE}{C F:Nat}{xs ys:DI}{a b:qB}{Q:BPE}(I:XA)(D:CPD m n y B)
  (l:DSR) (q:DIK (AL m) n) (r:DDA)
  (h1:ItAt k1 s.heap m y C) (h2:ADK s.heap n B F) (k:SqAt k1 s.heap y xs) (u:SqAt k2 s.heap B ys) (j:PP D5X∨PP DLG)
  (H:CPW (AJL AYZ (C74 m n AGR))) :
  FH (BJJ Builtin.«zip.__next__» z):=by
 rw[EP2 (A7R l AAK) (A7R l CD2) q l (A7R l CD3) l];rw[sH (AO4 m)];cases v:D5X with
 |none =>
  rw[BL (a7q I C2K DHL v (BS h₂ e hs₂ t))];rw[ELB hz₂ h₂ (AO hs₂ D.i1z.symm hz₁) hz₂]
  refine wpAny_setField_rec hz₂ AJ λh₃ _ hs₃=>EJF h₃ _ _ (AO hs₃.extBut i (YF hs₂ p hs₁.extBut i x)) hs₃.extBut
 |some x =>
  have L:DLG=none:=by rcases j with h|h;rw[yD v];exact h
  rw[BL (EBY (a2A C2K DHL v))];rw[EJV r];rw[E4M n (a7q I (E92 hs₃.extBut D.TOi2.symm)
   (EH5 u.extBut) L (BS h₄ e hs₄ t))]
  rw[ELB hz₄ h₄ (AO hs₄ D.i2z.symm (YF hs₃.extBut D.TOz.symm hs₂.extBut D.i1z.symm hz₁)) hz₄]
  refine wpAny_setField_rec hz₄ AJ λh₅ _ hs₅=>EJF h₅ J K (E6A i hs₄ K J p i x) hs₅.extBut
abbrev zH1(k1:Bool)(h:Heap)(l1:qE):Heap:=h.push (U7 k1 l1)
abbrev zH2(k1 k2:Bool)(h:Heap)(l1 l2:qE):Heap:=EBV push (U7 k2 l2)
abbrev zH3(k1 k2:Bool)(h:Heap)(l1 l2:qE):Heap:=A7G (BY7 zH2) #[AL h.objs.size,AL (EBV objs.size)]
abbrev zH4(k1 k2:Bool)(h:Heap)(l1 l2:qE):Heap:=A7G (BY7 zH3) #[.none,.none]
abbrev zH5(k1 k2:Bool)(h:Heap)(l1 l2:qE):Heap:=BY7 zH4 (aO "zip" .fields #[.none,AAK,AAK,DMC zH2,DMC zH3])
def c1j(a b:qE)(xs ys:DI) :
  A4R Builtin.«zip.__new__» (MD [JK "zip",BF,GG]) (DJG/\DJK /\
   AUV (BAP zH4) (HW (B8M zH5))) :=
 (A7V (by
  rw[nL k];rw[A3R i h h];have l:=sub_zip;have c:COK (C01 k):=i;have f:CPA (C01 (k.push (U7 k1 a))):=BS3 j.at
  wp_walk using M4 c,M4 f
  rw[oH]))
def b5H{xs ys:DI}(e:DJG)(f:DJK)
  (h:∀h',IsZip h' BV2 uQ BV1 .none->A3U h' uQ TY (AL GE) ->
   A3U h' BV1 .none .none->ItAt k1 h' s.heap.objs.size a 0->ADK h' GE b 0->h'.objs.size=s.heap.objs.size+5 ->
   AJL uG AGR->BNR BV2) :
  FH (lS call "zip" (A4X GG)):=by
 refine callType_new F.called_zip AK (BR F.typeCall_zip_2) (BR F.newCall_zip_2) (DKK F.args_object_init_3) F.entry_zip_new
  (c1j (k1:=k1) (k2:=k2) a b xs ys) (A4Y e f)
 rw[DI0 g EF7];rw[B50 i zH2 uQ g]
 rw[B50 j zH3 BV1 i]
 rw[B50 k zH4 BV2 j]
 rw[B50 p zH5 (BBC 5) k]
 have d:C3C zH4:=IW;have n:C3C zH3:=AXR;have m:C3C zH2:=BS6;have l:BFR EF7 (U7 k2 b):=QX BS6;have g1:BFR s.heap.objs.size (U7 k1 a):=lH BS6;show _/\_;rw[i,j,k]at d;rw[g,i]at m;rw[j]at n;rw[g]at l;rw[k];rw[EV (PN d) (h _ d m n ?_ ?_ p λc o x =>
  QX (lH (lH x)))]
 .rw[BM9 k1 g1]
 .rw[BM9 k2 l]
/---/def SqK(k:Bool)(K:qF)(H:Hp)(a:qE)(xs:AE):Prop:=C4E XD dN
def Inv.sqk(I:AM)(h:BVN):CPS (SqAt k s.heap a b.toArray):=by
 cases k
 rw[EDV CV5 p.isList]
 rw[EDV CV6 p]
def Inv.sqk_inj{ys:AE}(I:AM)(h:BVN)(h':SqK k X.K H a ys):B1D:=by
 cases k
 .exact I.list_inj h h'
 .exact I.tuple_inj h h'
/---/def Itz(K:qF)(k1 k2:Bool)(a b:qE):It :=
 ⟨λi H=>∃xs ys x y,AJ8/\BY4/\YY/\BUJ,
  AE6 v (∃p x y,v=EZ/\RH/\H'=ABI AUE/\(∀xs,AJ8->YY)/\∀ys,BY4->BUJ),
  λi H=>∃xs ys,AJ8/\BY4/\(CDJ∨AC6)⟩
structure ZTurn(k1 k2:Bool)(z TI TO i1 i2 a b:qE)(i:Nat)(f0:qB)(h:Heap):Prop where
 zz:BA6 h f0
 ti:A3U h TI (AL i1) (AL i2)
 to:∃u v,A3U h TO u v
 t1:ItAt k1 h i1 a i
 t2:ADK h i2 b i
structure ZNe(z TI TO i1 i2:qE):Prop where
 TIz:TI≠z
 TOz:TO≠z
 i1z:i1≠z
 i2z:i2≠z
 TITO:TI≠TO
 TIi1:TI≠i1
 TIi2:TI≠i2
 TOi1:TO≠i1
 TOi2:TO≠i2
 i12:i1≠i2
def Inv.turnedT{ch:EK}{p:qE}{o:HO}(I:AM)(h:D9C)(hp:s.heap.objs.size=p)(k:D7T)
  (new:E63 (A9T p) p):KN (A9T p) VT:=by
 have l:RH:=I.hok.fresh (Nat.le_of_eq hp);have f:AHQ uT:=DYK h
 have a:AHQ kU:=DDP l
 have i:AMD s.heap.get? kU:=GR u (by
  rw[KP hp AV5])
 rw[C63 (EFS (ACV d _ (A29 d)) (ACV d _ (BG8 (A29 d))) (ID (t5 i) n)
  (PU d e (lZ (A29 d)))) (GR xs DBF) (UL v e DBF) (BWE (A5 CLE) e) j]
 rw[C7R (h b g)]
 rw[EI9 j (λz=>(h _ z).2.1 rfl)]
 .rw[BP g b p]
  .rw[BM1 g];exact new
  .rw[A5 g]at e;refine(BSP).stay (COR d) (λc q=>E5Y) λc xs q=>E5Y
   rw[CM d]
   rw[BW3 f]
   .exact f c _ z
def Inv.turnedL{ch:EK}(I:AM)(f:D9C)(k:D7T):ASN:=by
 have d:AHQ uT:=DYK f
 rw[C63 (EFS (DCQ a) (DCR a) n
  (DG5 a)) (GR xs e) (UL v e e) (BWD e) h]
 rw[C7R (f b g)]
 .rw[WC o es ep ho r];rw[CQF (λz=>(f _ z).2.1 rfl)]
 .refine(BSP).stay DJH (λc q=>q) λc xs q=>q;rw[CM a]
  rw[BW3 d]
  .exact d c _ z
def Inv.apart{o:Obj}(I:AM)(hs:BVN)(h:AOP):AHR:=by
 rw[W2];have c:∀{u:HO},C17->False:=λr=>by
  rcases r with r|⟨o,r⟩<;>rw[CD]at r<;>cases r
 have d:∀{f:Obj},aV X.K.lookup f->False:=λe=>by
  have g:=I.mod.kin a _ e;rw[CM CZ6]
  .exact AO I.ok.noex g z
  rw[II (tD (A59 I.ok.bs).1 z) cX]
 cases k
 .rw[EBN]
  .exact c r
  .exact d e
 .rw[EBN]
  .exact c r
  .exact d e
def b5P{kt:Nat}{tp:Pos}{z TI TO g j:qE}(D:ZNe z TI TO g j) :
  EES mJ A2H z (ZTurn k1 k2 z TI TO g j a b i .none h) where
 mem:=AJ
 obj:=AJ1 c (by
  rw[C78 f f]
  .exact EM st.zz ADP
  .exact EM st.ti ADP
  .rw[UP v q st.to];exact EM q ADP
  rw[C6S st.t1.get]
  rw[C6S st.t2.get])
 keep:=A4P k ⟨AHK z st.zz,AHK TI st.ti,tR u v q st.to u v (AHK TO q),BKI st.t1.at g,BKI st.t2.at j⟩
 item:=by
  rw[ELI];obtain⟨xs,ys,x,y,m,n,hx,hy⟩:=N;rw[EO1];rw[D2 u hu Y W.get hx];rw[D2 v hv Z B.get hy];rw[EPT (DUK
   (CS8 F.slot_zip_next C F.entry_zip_next
    (BG (b5G J st.zz st.ti p st.t1 st.t2 U V) x u y v CUP (CJ hv) λh' a1 a2 a3 a4 a5 a6 a7=>ATF) (F.args_zip_next_1 _)))]
  rw[AC1];refine wpAny_letOwnedTupleGo_zip (s:=VT) a1 λh2 R l=>?_;have ne:A2K A2H CY8:=λc f e=>by
   have:∃o,uG:=by
    rw[C78 f f]
    .exact DX st.zz
    .exact DX st.ti
    .exact DX p
    rw[C3Z st.t1.get]
    rw[C3Z st.t2.get]
   rw[ZI o this];exact B03 q (B1F e)
  have t:A5K:=bR;have S:A3U h2 s.heap.objs.size u v:=AX0 (A8U ne z AJ) a5;have kk:E95 A2H:=λc o f e=>by
   rw[AK5 f];exact AX0 gT (EFW a7)
  have I2:DWG AUE :=
   I.turnedT (ch:=A2H) r rfl kk (EB9 [u,v] Y Z S)
  refine OD TY _ I2 (VX _ x y t rfl DF1 DF1) ⟨R,AX0 D.TIz (AO a7 D.TIz D.TITO D.TIi1 D.TIi2 st.ti),⟨u,v,AX0 D.TOz a2⟩,a3.extBut l.extBut D.i1z,a4.extBut l.extBut D.i2z⟩ BXG
  .rw[AF (I.sqk_inj O m) hx]
  .rw[AF (I.sqk_inj O n) hy]
  rw[E7A ne r]
 done:=by
  rw[ELI];obtain⟨xs,ys,m,n,G⟩:=N;rw[EO1];rw[AD l1 W.length l2 B.length];rw[EPT (DUK
   (A1V F.slot_zip_next C F.entry_zip_next (c1l CXF J st.zz st.ti p st.t1 st.t2 U V ?_ (BS h' e hk he)) F.args_zip_next_1))]
  .rw[SC G]
   rw[IH (DUV l1)]
   rw[HM (DUV l2)]
  .rw[ELA he (I.turnedL (ch:=A2H) r) e];rw[AK5 f];exact EFW hk
 self:=ELS (wpAny_pyIter_zip st.zz h)
def nne{a b:Nat}(h:AHR):@Ne qE a b:=h
def zne(n:Nat):ZNe (n+4) (n+2) (n+3) n FJ :=
 ⟨dO 0x6834d53b5dd77a5,dO 0x6834d53b5ddcd65,dO 21378635573765,dO 598601796065141,dO 0x6834d50919fb7a5,dO 0x9d2ad3f27a5,dO 302412516722597,dO 0x9d2ad3f7d65,dO 302412516744549,dO 27269009349⟩
/---/def c7q(K:qF)(ta:TA):TI:=C2V (∃k1 k2 a b,vs=A4X GG/\(∃xs,CB1 H1)/\(∃ys,SqK k2 K H1 b ys)/\R mJ H1)
def c6e{u:Nat}{A:Pos}{a b:Expr}{ta:TA}{p:Pos}(m:BP4)(n:BQ9)(l:DIB)(i:DSJ)
  (hs:C4O:=by rfl) (g:C32:=by rfl) :
  C4X PI (.Tuple es u A) (c7q X.K ta):=by
 rw[ASY];refine Call_ (a3w I m n i (PyProof.Rows.callWith_type1 (EW (BBU l) B s1 (TZ vs d y x)) (IC hs g) (by rw[g];rfl)));obtain⟨k1,k2,J,K,e,⟨xs,o⟩,⟨ys,t⟩,q⟩:=x;rw[DG];cases y with
 |cons r rr =>
  cases rr with
  |cons r' rr =>
   cases rr;cases r;cases r';rw[CL B L v O d.sqk o];rw[CL M z w P d.sqk t];refine b5H v w λh' k C D E F N G=>?_;rw[EC wpAny_pyIter_zip (s:=A8O s1 h') k];refine⟨DE6,[DE6,s1.heap.objs.size+2,s1.heap.objs.size+3,s1.heap.objs.size,BMF],_,_,H1,rfl,DBI s1.toks G,b5P (zne _),
    ⟨k,C,EM _ D,E,F⟩,BB c j,q⟩
   have f:D0J:=by
    rw[C78 j j]
    rw[AFD]
    rw[AFD]
    rw[AFD]
    rw[D76]
    rw[AFD]
   exact d.fpOk f (d.hok.fresh f)
def a2w{I:qE}(b:XA)(a:l≠I) :
  AKQ Walks I [I,l] [I] items.size (λi v=>D0V) (λi h=>sS h I i/\A08 h items):=by
 cases k
 .exact Walks.list b I l a items
 .exact Walks.tuple b I l a items
/---/def trV:B0G
 |ZZ=>b
 |ZW=>D4V
 |.non=>false
 |_=>true
/---/def a9S:B0G
 |bI=>true
 |WP=>true
 |.non=>true
 |_=>false
def a3L{x:V}{v:qB}{Q:x9}(r:ZL)(f:EG a9S x)(h:Q (trV x) s):FH (truthy v):=by
 cases x with
 |non=>cases r;exact truthy_none h
 |bl b=>cases r;exact wpAny_truthy_bool h
 |int i=>rw[GC r];exact PySem.P.truthy_int h
 |_=>cases f
def a6C(xs:DC)(p:BSI)(d:α):EH9 (BIT xs.length) xs.all:=by
 rw[CMK List.all_eq_true List.all_eq_true]
 .intro h x hx;rw[vB hx];have:=h i (List.mem_range.mpr hi);rw[BGB hi this]
 .intro h i hi;have a:=List.mem_range.mp hi;rw[BGB a (h ANG (List.getElem_mem a))]
def b4b(xs:DC)(p:BSI)(d:α):EH9 (AOS xs.length any) xs.any:=by
 have:=a6C xs (FE (! p x)) d;rw[<-List.not_any_eq_all_not,<-List.not_any_eq_all_not]at this;rw[fJ]
def b2U(xs:qJ):∀n,n<=xs.length->preSum (λi=>AQB) n=(xs.take n).sum
 |0,_=>JY preSum
 |FJ,h=>by
  have this:GK xs n xs[n]:=LZ (BMW h);have e:xs.take FJ=xs.take n++[xs[n]]:=by rw[BOJ this]
  rw[preSum,b2U xs n (AX2 h),e,List.sum_append];rw[vE this]
abbrev RL:=AHY
/---/def c5U(K:qF):RL:=EJY ys.all
/---/def c5T(K:qF):RL:=EJY ys.any
/---/def c5M(K:qF):RL:=BLC ns qJ (xs=VY/\BZF p/\QG ns.sum)
def a8j(h:y6):sS C5A s.heap.objs.size 0/\A08 C5A items:=by
 rw[EV ?_ (BS3 h.at)];cases k<;>exact AQY
def a2L(h:y6):l≠s.heap.objs.size:=by
 rw[OM o h.get];exact AV5
def a2N{c:Obj}(a:A1T (b∉[s.heap.objs.size]) (GL (AYX c))):t8 QC h'.get?:=λb o e =>
 a b o (λz=>by rw[OA wM WB];rw[BT3 this]) fO
def c0T(j:ED):AZP "all" c5U:=by
 rw[EPJ call_all_walk]
 .rw[EOD]
  rw[EJ0]
  rw[EPF]
 .have e:BIT a.toArray.size BL6=ys.all trV:=by
   rw[ED8 a6C]
  rw[E9V]
def c0S(j:ED):AZP "any" c5T:=by
 rw[EPJ call_any_walk]
 .rw[EOD]
  rw[EJ0]
  rw[EPF]
 .have e:AOS a.toArray.size any BL6=ys.any trV:=by
   rw[ED8 b4b]
  rw[E9V]
def c0Q(r:ED):AZP "sum" c5M:=by
 rw[QL C A];obtain⟨k,p,a,rfl,hs,q⟩:=h;rw[DU u z A.one];cases z;rw[CL c n g B I.sqk hs];rw[BSU f n.length f];rw[BJP w (I.ok.hd r)];rw[BK7 call_sum_walkG g ⟨s.heap.objs.size,_,_,_,_,_,CZ4,rfl,DE1 w g,a8j g,gA m,?_,BS h' tk t' x⟩]
 .rw[DL4 g.get];have j:=wM;rw[AH9 m m]
  rw[D77]
  rw[BNQ j]
 .intro i v hv;rw[ZN d (rY c) hv]
  rw[E80 (List.getElem?_eq_some_iff.mp d) y a.map a[i] f]
  rw[CL D e1 t e2 n.get y];rw[ACN d];rw[AZ t (by rw[e2];show _=CXH CJG;rw[List.getD_eq_getElem?_getD,AT2 f];rfl)]
 .have e:preSum CZ4 c.toArray.size=a.sum:=by
   rw[List.size_toArray,<-f,b2U a _ (Nat.le_refl _),List.take_length]
  rw[e];rw[EB (BK a.sum) H (I.kept (a2N x)) (ZA t') q]
/---/def c5Q(K:qF):RL:=PY (∃x n t b,xs=[x,.ty n]/\B8W x t/\PySem.W.kitOne K t (.type n)=AC b/\AA6 b)
def c0R:AZP "isinstance" c5Q:=by
 rw[QL f d];obtain⟨x,n,t,b,rfl,ty,e,q⟩:=h;obtain⟨u,v,rfl,c,a⟩:=d.two;cases a;exact b4N I c ty e λtk=>EO ZZ H DK4 q
def a8y:dQ "len" "len":=boot_len
def c7B:DSJ:=NJ
def c7G:dQ "all" "all":=NJ
def c7F:dQ "any" "any":=NJ
def c7C:dQ "sum" "sum":=NJ
def c0X:dQ "min" "min":=NJ
def c7E:dQ "max" "max":=NJ
def c7H:dQ "abs" "abs":=NJ
def a6q:dQ "isinstance" "isinstance":=NJ
def a7e:dQ "sorted" "sorted":=NJ
def c0V:nG "tuple" "tuple":=NJ
def c3Q:nG "list" "list":=NJ
def c0Y:nG "int" "int":=NJ
def c0W:nG "str" "str":=NJ
def c7D:nG "set" "set":=NJ
def a2U{f:TT}{Q:VK}{J:It}(n:Nat)(c:wY)(h0:B6O)
  (hs:BXQ A3C (J.go i H/\D3B/\BB1 J.yld (ARU D5M f d d h (c AT A3D h) (c AT ys d))))
  (hd:ACP c n (J.stop n H/\jA/\A3F)):B4T f J:=by
 rw[ARY ys (n-i) (i<=n) A3C ⟨n,cY 0x1152889b3be69c205,FF,h0⟩ ys];rw[iX LG]
 .obtain⟨q1,q2,q3⟩:=hs i ys H a p;rw[wH ⟨q1,q2,uE,λzs H' p'=>E8O,q3⟩]
 .have e:i=n:= ~~~a5B hi a
  rw[DG];exact .inl ARS
def a2q{h:TT}{Q:VK}{lo:Int}(f:BMZ)(a:wY)(h0:E83)
  (d:C7B)
  (hs:BXQ AQO (E8N BN4 c c (a AT ys c)))
  (hd:DHO):B4T h BW6 :=
 EKN n (d i ys H p) x (by rw[BDD];subst e y;exact hs i ys _ hi p)
  (E7W (d n ys H p))
def S2{l:TT}{Q:VK}(j:A2U)(c:wY)(h0:B6O)
  (k:E7P dN)
  (hs:EO0)
  (hd:DHP):EAU A6I :=
 DJJ (by
   rw[ELN])
  (AV3 (by
   rw[ELO]))
def Z9{l:TT}{Q:VK}(j:A2U)(c:wY)(h0:B6O)
  (k:E7P XD)
  (hs:EO0)
  (hd:DHP):EAU ACD :=
 DJJ (by
   rw[ELN])
  (AV3 (by
   rw[ELO]))
def O3{o:TT}{Q:VK}{zs:AE}(m:A2U)(c:wY)(h0:B6O)
  (n:EDO ys A3C (AJ8/\DA5/\AC6))
  (hs:EKD ys A3C (ARU (g EZ fY D5E) o l l q (c AT A3D q) (c AT ys l)))
  (hd:ACP c y4 A3F):B4T o mJ :=
 CP8 y4 (by
   have d:wP:= ~~~b9x hi
   rw[E5O hi]
   rw[A3R h k (n i ys H (~~~a3P d) (~~~a3P f) p)];rw[DN (ENM d) (~~~a5A m d k) BB4];obtain⟨s,x',w,e,e2,r,t,u⟩:=y;subst e r;exact hs i x' w ys _ s (t xs h) (u zs j) p e2)
  (AV3 (by
   rw[NA h j k (n _ ys H (~~~b9K) (~~~b8c) p) EGX (A5N 0x46f57ec0d2abf3601d8 m) ARS]))
def c3H{zs:AE}{tb:TS}{D:Ends}(d:A5V)(h0:NZ d 0)
  (n:EDO σ BXJ (AJ8/\DA5))
  (hs:EKD σ BXJ (A9Y (g EZ σ D5E) BQV BQV)) (hd:AQP (NZ d y4) A16) :
  AJ7 (A74 ->
   ((mJ).stop i H/\A16)∨((mJ).go i H/\BC4 (∃k,k<m/\W AT k σ' H') (CBB (mJ).yld))):=by
 rw[ARY σ (y4-i) (i<=y4) BXJ DGL σ];obtain⟨h,j⟩:=n i σ H (wT 0x5a832d73fad617) (wT 0x9e5f55a77589617) p;rw[lQ c y4]
 .have hi1:wP:= ~~~b9x c
  rw[E5O c]
  rw[AVN (ENM hi1) BQV (RO _ AG c p')];obtain⟨o,x',s,e,e2,l,q,r⟩:=y;subst e l;exact hs i x' s σ _ o (q xs h) (r zs j) p e2
 .have e:i=y4:= AX 0x1a9197ba402b729ae8eff89ea320374cdd8f3b80fd3f88b05512fb9b54fefa5b80b6d7e1a89db6f8823dd617 hi c
  rw[AK0 EGX]
structure Ok(P:qH)(w:World)(K:qF)(mg:BA)(base:Heap)(x:Str)(k:Nat)(ps:AA)(sp:Sp):Prop where
 ex:E1G BY3
structure FunAt(K:qF)(mg:BA)(x:Str)(st:Stmt)(ps:AA):Prop where
 ex:∃f fd,CLF/\BFB x fd/\nM
section
variable {mg:BA}{base:Heap}
def FunAt.ok{x:Str}{st:Stmt}{N ps:AA}{k:Nat}{sp:Sp}(F:AJZ)(S:yQ)(c:jM)
  (b:AKA x (bJ ->
   D6P DV1)):E0Y:=by
 rw[yO d F.ex];rw[NG f fd h1 h2.kp d (DRS h2.ok)]
#where
section
variable {k:Nat}{sp:Sp}{p:Pos}{e:Expr}{t:TA}
def b7h(O:DDZ)(j:aC)(i:NM)(g:dX)(a:HP:=by decide)
  (h:DB:=by rfl) (b:IL:=by rfl):AUR DUN:=by
 rw[DVX c d];exact b2Y d j i h1 h2 c .nil a9g g a h b
#where
inductive EqV(K:qF)(H:Hp):Nat->V->EN V Bool
 |flat {n:Nat}{x y:V}(fx:oN) (fy:A77):BJG AGD
 |tup {n:Nat}{a b:qE}{xs ys:AE}(e:dH) (ha:XD) (hb:BD2 b) (he:E98) :
   EFL
 |lst {n:Nat}{a b:qE}{xs ys:AE}(e:dH) (ha:dN) (hb:SqL K H b ys) (he:E98) :
   EFL
def a9V:∀{x:V},oN->AY (eqV x x)
 |.non,_=>rfl
 |ZZ,_=>beq_self_eq_true b
 |ZW,_=>beq_self_eq_true i
 |BOG,_=>beq_self_eq_true y
 |BMK,h=>ZS
 |.flt _,h=>ZS
 |AL _,h=>ZS
 |.ty _,h=>ZS
def EqV.same{x y:V}{b:Bool}(I:AM)(h:EL9):x=y->u9:=by
 induction h with
 |flat fx fy=>rw[W2];exact a9V fx
 |tup e c d g f =>
  rw[EPC I.tuple_inj]
 |lst e c d g f =>
  rw[EPC I.list_inj]
def G8{us:AQ}{j:Nat}{u:qB}(r:ZG)(h:MA us u):∃x,BES/\ZR:=by
 obtain⟨c,_⟩:=CV4;rw[FQ a WZ r.length c]
 have b:A1R BRI:=AB4;rw[iR d e q b];rw[GU h];exact EM b q
def EqV.at{n:Nat}{x y:V}{b:Bool}(I:AM)(h:EL9):∀{A:Around}{u v:qB},AO6 A.units->ZR->DNX->C6N b:=by
 induction h with
 |flat fx fy=>intro A u v _ m o;exact c0F m o fx fy
 |@tup n a b xs ys e i k r t =>
  rw[EM9]
  rw[ENR EqV.tup]
  .rw[ENU CWB I.tuple];have:=ARQ SeqAt.RcAt.tuples A (BF4 us.toArray p1) (show s.heap.IsTuple b d.toArray from p2) BYL ARL
   .rw[fJ]
   .rw[DUQ]
    rw[E6W]
    rw[EPE]
 |@lst n a b xs ys e i k r t =>
  rw[EM9]
  rw[ENR EqV.lst]
  .rw[ENU (I.list i) I.list];rw[BP p us.length d.length]
   .have:=ARQ SeqAt.RcAt.lists A p1.isList p2.isList CUN BYL ARL
    .rw[ASC p]
    .rw[DUQ]
     rw[E6W]
     rw[EPE]
   .have:=DJT A CUN BYL;rw[BIQ B us.length d.length p]
    rw[AXT B this]
/---/def a6e(K:qF)(neg:Bool):R2:=λx y H Q=>∃n b,n<=50/\BJG b/\(∃a c,x=BF/\y=fS)/\D3S (! b) b
def c6E(k:HQ):BQT (a6e X.K false):=by
 rw[EPG .Eq SeqAt.RcAt b (by
  cases i with
  |flat fx fy=>cases fx
  |@tup n _ _ xs ys e w z i =>
   rw[ELR SeqAt.RcAt.tuples]
   .rw[fJ]
   .rw[B5M]
    rw[B6U]
    rw[B7L]
  |@lst n _ _ xs ys e w z i =>
   rw[EJC]
   .rw[EAZ SeqAt.RcAt.lists]
    .rw[ASC r]
    .rw[B5M]
     rw[B6U]
     rw[B7L]
   .rw[EFV (DJT X.A AQ3 ARF)]
    rw[AXT C this])]
 exact TJ key BUU
def c6y(k:HQ):BQU (a6e X.K true):=by
 rw[EPG .NotEq SeqAt.RcNeAt (! b) (by
  cases i with
  |flat fx fy=>cases fx
  |@tup n _ _ xs ys e w z i =>
   rw[ELR SeqAt.RcNeAt.tuples]
   .rw[fJ]
   .rw[B5M]
    rw[B6U]
    rw[B7L]
  |@lst n _ _ xs ys e w z i =>
   rw[EJC]
   .rw[EAZ SeqAt.RcNeAt.lists]
    .rw[ASC r]
    .rw[B5M]
     rw[B6U]
     rw[B7L]
   .rw[EFV (CPZ SeqAt.RcNeAt.lists_lengths X.A AQ3 ARF)]
    rw[AXT C this])]
 exact TJ key BUU
def c3T{ns ms:qJ}:EO6 B4M:=by
 rw[EN5]
 .rintro⟨h1,h2⟩;refine JL List.ext_getElem h2 i a b;have:=h1 i (iC b9M h2);simpa[List.getD_eq_getElem?_getD,a,b]using this
 rw[DQB]
def c0t{ns:qJ}{j:Nat}{x:V}(h:D98):AO8 t0/\AFT:=by
 rw[AYU];cases e:BCR with
 |none=>rw[AJN]
 |some z =>
  rw[e]at h;obtain⟨a,_⟩:=CDA;rw[AZ (by rw[List.getD_eq_getElem?_getD,e];exact ADN h) a]
def EqV.ints{ns ms:qJ}(c:BZF a)(d:AQT k b ms.map):DYF:=by
 have step:∀j x y,D98->MA (AOW ms.map) y->AP9 0 x B4M:=λj x y e f=>by
  obtain⟨rfl,_⟩:=c0t e;obtain⟨rfl,_⟩:=c0t f;rw[jE (EK3 (BK t0) CIT) (APW (eqV (.int t0) CIT=decide (t0=BAE)))]
 rw[<-c3T];cases k
 rw[B60 EqV.lst B4M]
 rw[B60 EqV.tup B4M]
def c0y:AHU c7K b4c:=by
 rw[ND n o];obtain⟨p,xs,i,z,rfl,rfl,m,l,q⟩:=h;rw[wB n o];rw[AHN b g C m];rw[EEH A e k (a4E l) c c];rw[iX AX9]
 .have hj:i.toNat=j:=by
   rw[BO4 k]at h1;rw[AQX]
  exact wpAny_getItem_list g.isList a AG DHV fin
 .rw[DCD (by
   rw[C1J (seqIndex_neg AGW e) f])]
  exact wpAny_getItem_list_neg g.isList AGW (C07 (b9a e f)) AG DHV fin
/---/def a7K:R2:=C3K a ys BF A4E (fN b ys) DCB (CL9 AUY)
def b7j:AH6 a7K:=by
 rw[ND B C];obtain⟨a,b,xs,ys,rfl,rfl,k,l,E,q⟩:=h;rw[BP z xs []]
 .subst z;rw[mK B C];rw[AOG F J (AW5 (uU k)) A K (AW5 BU2)];cases J;rw[BLF w t n (id p1)];obtain⟨⟨r,j,i,m⟩,g,d,G,f⟩:=id p2;simp only at t hd d f;subst t hd d f;exact CQS (PN w) BE4
   (tuple_addW0 a b _ _ n G dd j sl m AJ) ⟨w,g,lA GG (q b H kJ l)⟩
 .refine AO (ZE c2z) v u Q I B C ⟨a,b,xs,ys,rfl,rfl,uU k,BU2,z,E,A84,DV _ p D⟩
  .rw[uP (E39 (BDW k))]
  .exact q p _ (CME D) A0
open PySem.AutoSeq1 (wpAny_loadPart')
def Z1:ALL (lS fillsNumberSlot "tuple" "mul") :=
 PySem.fillsNumberSlot_seq (id:="tuple.__mul__") (r:=A0S "tuple.__rmul__") F.slot_tuple_mul.lookup (by rw[pS]) F.slot_tuple_rmul.lookup PF
def a2D:ALU seqRepeat? "tuple"=pure (A0S "tuple.__mul__"):=by
 unfold seqRepeat?;rw[EHR "__mul__" (id:="tuple.__mul__") F.slot_tuple_mul.lookup,EHR "__rmul__" (id:="tuple.__rmul__") F.slot_tuple_rmul.lookup];rfl
def a5b(a:Int)(t:Tok)(l:qE)(items:DI)(n:Nat)(dd:IY)(sl:eH) :
  A4R Builtin.«int.__rmul__» (MD [BJR,FP]) (AVX/\AU4 Value.notImplemented s) :=
 (A7V (by rw[nL c];rw[uL b h];wp_walk;rw[oH]))
def b0s(l:qE)(items:DI)(n:Nat)(dd:IY)(sl:eH)(u:Tok) :
  E0L 1 (AUV l s) :=
 (A7V (by
  rw[E7Q b]
  rw[AIC]
  rw[oH]))
def b0r(l:qE)(items:DI)(n:Nat)(dd:IY)(sl:eH)(x:Int)(u:Tok)(e:CW6)(h1:1<x)(h2:¬vN (GM (x < BVS)) (GM (BM7 x)))
  (f:¬(E1R > BZJ)) (i:¬EG Builtin.Tuple.tupleTooMany E1R) (hsz:CB (EIN).size) :
  A4R Builtin.«tuple.__mul__» (MD [FP,.int x u]) (AVX /\
   DVW EIN) :=
 (A7V (by
  rw[E7Q m];have e1:(x==1)=false:=by simp;rw[DQ 0xb7c2aff86a6e03f6 h1]
  have e2:vM (x<=0):=by simp;rw[DQ 0x8d3953a323f6 h1]
  have j:¬(vN items.isEmpty (x==1)):=by rw[e,e1];decide
  have k:¬(vN (GM (x<=0)) items.isEmpty):=by rw[e,e2];decide
  rw[AIC]
  rw[CF h2]
  rw[AIC]
  rw[CF f]
  rw[AIC]
  first
   |rw[oH]
   |(rw[CF i];rw[AIC];rw[oH])))
def a5M{α:Type}(a:DC):A4U k qR DC EMC
 |0,qR=>AJ
 |DA,qR=>by
  rw[E0P]
  rw[E2A e (a5M a k) List.replicate_succ List.flatten_cons]
/---/def c4B:R2:=EHU x8
def b2Z:AH7 c4B:=by
 rw[EEO M N A k j K];rw[wB M N];rw[AHO d p1 L (uU A)];rw[E0V i C C];rw[EH1 C f g d.length f k]
 refine EB4 ADJ n
  (EM1 n n d.toArray i ADJ)
 rw[BP h1 n 1]
 .subst h1;rw[lO F.slot_tuple_mul ADJ F.entry_tuple_mul F.args_tuple_mul_2 (b0s a d.toArray m dd sl t) ⟨i,BF,H,I,rfl,E39 ?_⟩];rw[OI A]
 .have e0:=a5M d n.toNat [];rw[List.nil_append]at e0;have G:BV (YW n.toNat d)=C03:=a8g d n.toNat;have B:CB C03:=by
   have e1:ER C03=ASG*n:=by
    rw[f];push_cast;rw[TL Int.toNat_of_nonneg b8a j,Int.mul_comm]
   omega
  rw[EC3];have l:CSV*n<=16777216:=by rw[sM f];rw[D4 0x196f32708585d46dd6d008c00b16cdd2097347b97 K hs]
  have J:n<=CSV*n:=by
   rw[FQ D (PV<=BJ d.toArray.size) List.size_toArray (lq 0x800e5f36745d g)]
   have:=Int.mul_le_mul_of_nonneg_right D (ABT (NW<=n) b8a j);rw[NE 0xe752e15be9812]
  rw[E6V ADJ (b0r a d.toArray m dd sl n t (by simp;intro z;rw[z]at g;rw[BT3 g]) (AX 0x366b6479d4806fdbccb2767f6 j h1) ?_ ?_ ?_ ?_) i]
  .simp only[Bool.or_eq_true,decide_eq_true_eq,not_or];omega
  .omega
  .simp only[Builtin.Tuple.tupleTooMany,decide_eq_true_eq];rw[D4 0x2cea19503342afe8449575e8baf4da29bc112e0317 hs l]
  .rw[ENP];rw[e0',List.size_toArray,G];exact B
  .rw[ENP];rw[e0'];have E:A5K:=bR;refine DXY CF5 O E;rw[CK (OH a8g f B) _ (r.rep n.toNat) AF7]
#where
section
variable {B:KL}{H H':Hp}{K:qF}{N:AA}{Q:VK}{X:Cx}{a b p:qE}{caps σ:St}{es:BH}{g:TG}{i k n:Nat}{l:EK}{o:HO}{rss:LLI}{sp:Sp}{src:LQ}{st:Stmt}{te tl:TE}{tg:Expr}{v:V}{vs:AE}{x:Str}{xs:qJ}
section
variable {pos:Pos}
def c2l(K:qF){t:TGs}(c:ED)(h:DB5)(b:AS:=by rfl)
  (d:C5L:=by rfl) (a:C61:=by rfl):E9W (a9Q K n t):=by
 subst b;exact c6g c h d a
def b6W(K:qF){l:Expr}(b:AJE)(a:AS:=by rfl):D7X c0u:=xH c2j
def c2h(K:qF){l:Expr}(b:AJE)(a:AS:=by rfl):D7X c3E:=xH c6f
def c2g(K:qF){h:Nat}{i:Pos}{a b:Expr}{ta:TA}{p pos:Pos}(f:BP4)(g:BQ9)(e:DIB)(d:AS:=by rfl)
  (hs:C4O:=by rfl) (c:C32:=by rfl) :
  C4X PI E5H (c7q K ta):=by subst d;exact c6e f g e c7B hs c
/---/def c7Z(K:qF)(ta:TE):TT:=C4R ta (c7I K x H' k)
def b4e(K:qF){a:Expr}{ta:TE}(d:UU)(e:C6U)(c:AS:=by rfl):gG a DB0:=by
 subst c;exact b6G d e
def c0q(K:qF)(a:AS:=by rfl):D7S b4c:=ZT c3y
def c3x(K:qF)(a:AS:=by rfl):D7S c1O:=ZT c0o
def b4R(K:qF)(a:AS:=by rfl):c7K X (b4c K):=ZT c0y
def b6h(K:qF)(a:AS:=by rfl):BWL c5O:=ZT c1B
def c1A(K:qF)(a:AS:=by rfl):BWL b6y:=ZT b6g
def c6D(K:qF)(a:AS:=by rfl):AZH DAZ:=ZT b4l
def b4k(K:qF)(a:AS:=by rfl):QD .NotIn DAY:=ZT a7N
def b7m(K:qF)(b:HQ)(a:AS:=by rfl):BQT B1L:=xH c6E
def c6x(K:qF)(b:HQ)(a:AS:=by rfl):BQU D53:=xH c6y
def b5y(K:qF)(b:ED)(a:AS:=by rfl):oK "all" c5U:=xH c0T
def b5x(K:qF)(b:ED)(a:AS:=by rfl):oK "any" c5T:=xH c0S
def b5j(K:qF)(b:ED)(a:AS:=by rfl):oK "sum" c5M:=xH c0Q
def b5t(K:qF)(a:AS:=by rfl):oK "isinstance" c5Q:=ZT c0R
/---/def c8v(K:qF):RL:=DYN CZH
/---/def c4E(K:qF):RL:=DYN DXG
/---/def b0S(K:qF):RL:=EF3 BIZ BJF
def b5s(K:qF)(a:AS:=by rfl):oK "len" c8v:=ZT a8w
def b2f(K:qF)(a:AS:=by rfl):iK "list" (c4E K):=ZT a8u
def b0f(K:qF)(a:AS:=by rfl):iK "tuple" (b0S K):=ZT a6p
/---/def c8t:RL:=DJV
/---/def c9Q:RL:=CQD (j > i)
/---/def c5R:RL:=EHX
def b5l(a:ED):CZQ c8t:=b5n a
def b5v:BTG c5R:=b5w
variable {o e:Expr}{to:TE}{t:TA}{name:Str}{qO qN:Pos}{T id:String}{r:OU}
def a0R(K:qF)(l:DE3)(f:E84)(g:C6L)(j:DV3)(k:AHV)(i:dX)(h:AS:=by rfl)
  (b:BSF:=by rfl)
  (d:HI (AMB
   && AMA):=by rfl)
  (c:SQ:=by rfl) (hs:DB:=by rfl) (a:QQ:=by rfl) :
  C0V (BA5 T r):=by subst h;exact c8E l f g j k i b d c hs a
#where
/---/def IT(H:Hp)(v:V)(ns:qJ):Prop:=∃a,v=BF/\YP (NT ns.map)
def IT.same{ns:qJ}(h:BVB)(s:BN)   : D28:=tR a e q h a e (s a _ q)
def Same.upd(s:BN)(hp:lW):JJ (upd H' p o):=GR u (by
 rw[AF (BR6 BSO) BSO])
def Y8{u:HO}(a:BPX)(hp:RH):DVQ H:=AH (BR6 a) a
/---/def Off(l:EK)(H H':Hp):Prop:=zW (b∉l) A0U H'
def Off.refl(l:EK)(H:Hp):BOP H:=DTK
def Off.trans{H1 H2:Hp}(a:BOP H1)(b:DPY l):BOP H2:=λc o d e=>b c o d (a c o d e)
def Same.off(s:BN):AG3:=PU _ e (YH s)
def Off.upd(s:AG3)(hp:lW):EF2:=UL a e (by
 rw[AF (BR6 B5S) B5S])
def Off.set(s:AG3)(hp:p∈l):Off l H (L2.upd H' p o):=UL a e (by
 rw[AF (A5 (by rw[W2];exact a hp)) B5S])
def Off.mono{a:EK}(s:AG3)(h:AGI l a):jU a:=mE c s (λz=>c (h b z))
def K6(ns:qJ):rJ (A1F ns.map):=List.length_map _
def K8{ns:qJ}{x:V}(h:OZ (CL4)):∃z,DJ ns z/\AO8 z:=by
 rw[AYU];cases e:CXG with
 |none=>rw[AJN]
 |some z=>rw[DVH]
def R1{α β γ:Type}(f:B49 γ){xs:DC}{ys:A57}{x:α}{y:β}(a:YY)(b:BUJ):A3A AT=A3A i++[f x y]:=by
 have:DJ ((A05)) (f x y):=A2J List.getElem?_zipWith a b
 rw[BOJ this]
def a2u{k1 k2:Bool}{ys:qJ}(f:B10)(r:AQT k1 a xs.map)(t:AQT k2 b ys.map)(o:NL)
  (c:EB2)
  (g:AK2) (k:B5E n (IV->DXK->E08))
  (hd:BXO) :
  B51:=by
 rw[SF q]
 rw[EJX]
 .rw[B71 l K8 d m K8];rw[EM3]
  .match j,e with
   |0,e=>rw[CG]
   |1,e=>rw[CG]
   |j+2,e=>exact e
  .exact k x' d _ _ s' (B48 s' l m)
 .rw[E1D (by
   rw[B5Z K6 K6])]
  rw[B15]
def Sub.one:Sub C8H AB9:=FN (λj u e=>by
 match j,e with
 |0,e=>rw[CG]
 |JC,e=>exact e)
def a5e{e:TT}(h:X3)(c:UT)(a:wY)(h0:a 0 [] H)(g:C7B)
  (hs:BXQ AQO (e B2T H λb d=>U3 b (te B2T d λv f=>a AT A3D f) (a AT ys d)))
  (hd:DHO):A8H A8Y e te BW5 H:=by
 rw[SF j]
 refine a2q (~~~O7 h j) a h0 g (DY i ys H hi p) hd;show Sub _ (AM4 0 (DL (0+OE)))/\_;rw[c,Int.zero_add];rw[AZ Sub.one (hs i ys H hi p)]
def a8K(f:D0O)(j:NL)(b:BIV YQ)(c:UT)
  (e:∀x H1 g,jF->IV->g (f x) H1->vQ D7H g) (hd:AUU xs.map):BU4:=by
 rw[SF k]
 rw[EC (Z9 (xs:=YQ) (AH K6 (O7 j k)) (iS (B33 xs.take)) u5) (US ys B3C) ?_]
 .rw[C44 K8 (DL z) (EDE e CX8)];rw[DS1]
 rw[B59 K6]
def a5c(f:VF V)(c:X3)(a:UT)(b:∀(i:Nat) H1 Q1,LG->IV->Q1 (f i) H1->vQ B2T Q1)
  (hd:AUU (rL n)):A2B BW5:=by
 rw[EA1 c (ys=rL i f) (BG2 EJ)]
 .rw[C5W s rfl];refine b i H' _ hi s CX8;rw[BOK List.range_succ]
 .rw[lP ys];exact hd H' p s hp
def Room.u60{A:Around}(r:AZ7):A.units+60<cLine:=ACY r.un 0x51622c9d60c00f9279bb6f763759731044e1c7967c049f127
def V3{t u:TS}{D:Ends}(a:VP)(fin:AQP DG7 DOT)(h:(∀σ H,DG7->DOT)->D9A):c5x t u D σ H:=h fin
def c7T{neg:Bool}{cs:qJ}(a:ECZ)(e:BSL)
  (q:AL2 (A42 E28 AZS)):A2G tOp D54 te (b3Q K9) :=
 a _ ⟨FF,λp d=>⟨1,_,AK,EEI EqV.ints (SqL.of (Y8 e d)),AJK,q p d⟩⟩
def c7W{neg:Bool}{Q:UQ}{cs:qJ}(a:ECZ)(d:BSL)
  (q:AL2 (Q E28 AZS)):nH M0 (DV5 D54 te) :=
 c7T a d λp e=>DS (q p e)
def cut_lo(xs:qJ)(k:Nat)(a:B1H):B14 YQ A56=CC6 V.int:=by
 rw[E68 List.length_map AX3 List.drop_zero Nat.sub_zero]
def cut_hi(xs:qJ)(k:Nat)(a:B1H):V2 YQ A56 none=GN xs.drop k V.int:=by
 rw[E67 AX3 BPH List.map_drop]
def b3U(xs:qJ)(k:Nat)(z:Int)(a:A6K):xs.take k++[z]++xs.drop DA=DNT:=by
 rw[List.set_eq_take_append_cons_drop,ZX,List.append_assoc];rfl
def c5V{j:Nat}{tx:TE}{z:Int}(hi:D68)(l:MA σ BO0)(h:CZW)(c:A6K)(m:NL)
  (f:∀H' (N:VK),BN->N (.int z) H'->tx σ H' N) (q:y7 DNT) :
  A2G tOp a7K (tOp a7K (BXW uB K5 (b2z (J7 j))) (b5T (J9 tx K9))) (BXW uB (b2z (tOp BXM (J7 j) (tC (.int 1)))) K5):=by
 rw[jC g]
 refine⟨_,hi,_,l,k,rfl,a,_,rfl,FB h,?_,A41 t⟩
 rw[E1X HT.sIx_none]
 .rw[cut_lo xs k (~~~a3P c)];have s1:JJ DBQ:=ACO t;have e1:PJ H p BH1 p BH1:=A0;rw[AE2 DBQ e1];refine f H1 _ s1 (iO (w5 (CB 1) 0x226afaa78d5523cd g) p2 d);have s2:aI H1 (PQ H1 p2 AZY):=C9J H1 d;rw[pH e2 H1 p2 AZY p2 AZY];rw[AWI H1 p2 AZY H2 s2 e2];refine⟨p,p2,_,_,rfl,rfl,BRF,e2,?_,BS u b x r⟩
  .rw[gW List.length_take];rw[dR DMB 0xe2b05d8098cc59852184fc3367ddc80e7 m g]
  .have s13:JJ b:=ASD s1.trans s2 x;refine⟨_,hi,_,l,_,_,rfl,rfl,_,rfl,a,_,rfl,QA s13 h,?_,BB n e⟩
   rw[E1X E7U]
   .rw[E7U,cut_hi xs DA (~~~a8b c)];have o:aI b (upd b n (NT (GN xs.drop DA))):=VC b e;refine⟨u,n,_,_,rfl,rfl,AI o r,A0,?_,BS w A y s⟩
    .rw[List.length_append,List.length_map,List.length_take,List.length_map,List.length_drop];rw[dR (DMB+_) 0x21561268ab9bbf0249ae81f9064d08c1c23e33efe57367ddc80e7 m g]
    .refine AO q (GI s13.trans o y) (AY9 w);rw[s,<-b3U xs k z c];simp
structure JE(X:Cx)(e:Expr)(t:TE):Prop where
 h:DF e t
structure JT(X:Cx)(e:Expr)(t:TT):Prop where
 h:D79
structure JW(X:Cx)(e:Expr)(t:TT):Prop where
 h:D7A
structure JA(X:Cx)(es:BH)(t:TA):Prop where
 h:B0C
structure JS(X:Cx)(st:Stmt)(t:TS):Prop where
 h:BXI
structure JB(X:Cx)(st:KL)(t:TS):Prop where
 h:D97
structure JG(X:Cx)(tg:Expr)(t:TG):Prop where
 h:PG X tg t
structure JGs(X:Cx)(ts:BH)(t:TGs):Prop where
 h:PGs X ts t
structure JI(X:Cx)(tg iter:Expr)(t:TI):Prop where
 h:AIH iter t
structure JF(X:Cx)(ifs:BH)(t:TT):Prop where
 h:PIf X ifs t
structure JO(X:Cx)(e:A5C)(t:TO):Prop where
 h:AQ4 PO
section
variable {a b c e o:Expr}{rest:BH}{ta tb tc to:TE}{tA tB:TT}{t:TA}{pos p qO qN p2:Pos}
def jv(i:Nat)(b:jD:=by rfl)(c:B19:=by first|exact Or.inl rfl|exact Or.inr (Or.inl rfl)|exact Or.inr (Or.inr rfl))(hd:HP:=by decide)
  (a:DPH:=by decide):CQ A1S uB:=⟨c6i b c hd a⟩
def A4{i j}:B4Y ZW (BV4 .int):=⟨c6o⟩
def a5H{i j}:B4Y (.bool i) (BV4 .bl):=⟨c8F⟩
def J5{j}:B4Y .none D8G:=⟨c6m⟩
def B2{x j}:B4Y SK C1A:=⟨c6k⟩
def c7k{u:qB}(a:NM)(b:AGG)(d:BV6)(r:NQ)(c:A4I:=by decide)(hd:HP:=by decide):DEW:=⟨c2s a b d r c hd⟩
def K4(c:BZ)(d:CY):B0F BXM:=SR c6G
def a5G(c:BZ)(d:CY):A0M .Sub D9H:=SR c6u
def Z6(c:BZ)(d:CY):AHF DS8:=SR c6z
def a1S(c:BZ)(d:CY):A0M .Mod (uI DND (i % j)):=SR c6A
def b1Q(c:BZ)(d:CY):DX3 c9j:=SR c2y
def c0m(c:BZ)(d:CY):A0M .Pow (uI c9i DLT):=SR c6w
def a1D(c:BZ)(d:CY):B0F ((a7K)):=SR b7j
def c5h(c:BZ)(d:CY):B0F ((c5S)):=SR c6F
def c7i(c:BZ)(d:CY):AHF ((c4B)):=SR b2Z
def b3m(c:BZ)(d:CY):AHF ((c5P)):=SR c6v
/---/def a2E:R2:=EGM
def M9(c:BZ)(d:CY):B0F a2E:=SR b0W
def a2Q(b:BZ):CQ (CLZ .USub) (tUn DGY ta):=⟨c8C c5t b.h⟩
def a3T{op}(h:BZ):AKD (.BoolOp op KG pos):=AHS c6l
def a6L(c:BZ)(d:DOK .And):DQZ .And DCV:=B3S c6s
def c8Z(c:BZ)(d:DOK .Or):DQZ .Or DCW:=B3S c8D
def a2R(f:B1A)(d:BZ)(e:CY):CQ DJ3 (tIf tA ta tb):=bD b7b f.h d.h e.h
def a0C(c:BZ)(d:CY):A6D .Eq ((rEq)):=B0R c4L
def K3(c:BZ)(d:CY):UW .Eq ((rEq)):=oS c4L
def c5f(c:BZ)(d:CY):A6D .NotEq ((rNe)):=B0R c4K
def a6J(c:BZ)(d:CY):UW .NotEq ((rNe)):=oS c4K
def a9E(c:BZ)(d:CY):UW .Lt (t9 (i<j)):=oS c8G
def c0b(c:BZ)(d:CY):A6D .LtE xT:=B0R a6E
def c8W(c:BZ)(d:CY):UW .LtE xT:=oS a6E
def U5(c:BZ)(d:CY):UW .Gt (t9 (j<i)):=oS c8H
def c8X(c:BZ)(d:CY):UW .GtE (t9 (j<=i)):=oS c8I
def c0d(K:qF)(f:HQ)(d:BZ)(e:CY)(c:AS:=by rfl):A6D .Eq B1L:=(C6D a1v b7m)
def c7c(K:qF)(f:HQ)(d:BZ)(e:CY)(c:AS:=by rfl):UW .Eq B1L:=(C6D J3 b7m)
def b1L(K:qF)(f:HQ)(d:BZ)(e:CY)(c:AS:=by rfl):UW .NotEq D53:=(C6D J3 c6x)
def c7a(c:BZ)(d:CY):A6D .Is C2S:=B0R b7k
def a1d(c:BZ)(d:CY):UW .Is C2S:=oS b7k
def a4v(c:BZ)(d:CY):UW .IsNot C2T:=oS c2x
def b1M(K:qF)(d:BZ)(e:CY)(f:BU5)(c:AS:=by rfl):UW .In DAZ:=(DJS c6D)
def b4I(K:qF)(d:BZ)(e:CY)(f:v0 .NotIn)(c:AS:=by rfl):UW .NotIn DAY:=(DJS b4k)
def a2n(h:JW X e tA):B9N e:=⟨h.h.pt⟩
def a1z(b:AI3):BWJ KG tA:=BT5 pw_and1
def a0u(b:AI3):BWK KG tA:=BT5 pw_or1
def a3A(c:AI3)(d:BWJ nK tB):BWJ vX (c8g tA tB):=B3S pw_and
def a1c(c:AI3)(d:BWK nK tB):BWK vX (tOr tA tB):=B3S pw_or
def M7(b:AI3):JT X DID DK5:=BT5 c5W
def F8(K:qF)(d:BZ)(e:C6U:=by rw[eC])(c:AS:=by rfl):JT X a DB0:=⟨b4e K d.h e c⟩
def jaN:JA X [] K9:=⟨c6t⟩
def jaC(a:XE)(b:BPO)(hs:DB:=by rfl):BXB JA J9:=bD c2t a.h b.h hs
def Q5{x1}(h:BPO):sK .Tuple es x1 (b5T t):=AHS c6j
def D6(h:BPO):CQ DQX (b3Q t):=AHS c6n
def J0(K:qF)(d:BZ)(e:CY)(hs:AXI:=by rw[A7A])(c:AS:=by rfl):C4U CXX:=(EAM c0q)
def D7(K:qF)(d:BZ)(e:CY)(hs:AXI:=by rw[A7A])(c:AS:=by rfl):C4U (c1O K):=(EAM c3x)
def G6:JO X none K5:=⟨c1Y⟩
def G5(h:XE):JO X BGE D6T:=AHS c1X
def a2P(K:qF){lo hi:A5C}{tl th:TO}(b:XE)(c:C2A)(d:C2B)(a:AS:=by rfl):EB0 c5O:=(C6X b6h)
def a9L(K:qF){lo hi:A5C}{tl th:TO}(b:XE)(c:C2A)(d:C2B)(a:AS:=by rfl):BI1 e AVD (BXW te tl th):=(C6X c1A)
def A8{ps:AA}(O:DDZ)(g:aC)(f:NM)(c:FT)(a:HP:=by decide)
  (d:DB:=by rfl) (b:IL:=by rfl):A8W A0K DUN:=⟨b7h O g f c.h a d b⟩
def C8(K:qF)(f:AYH)(g:AZ0)(c:FT)(b:AS:=by rfl)(d:DB:=by rfl)(a:IL:=by rfl):xW "len" c8v:=BZG b5s a8y
def a2o(K:qF)(g:IB "sum")(h:L1 "sum")(c:FT)(d:ED:=by rfl)(b:AS:=by rfl)(f:DB:=by rfl)(a:IL:=by rfl):xW "sum" c5M:=(AK6 b5j c7C)
def a1g(K:qF)(g:IB "all")(h:L1 "all")(c:FT)(d:ED:=by rfl)(b:AS:=by rfl)(f:DB:=by rfl)(a:IL:=by rfl):xW "all" c5U:=(AK6 b5y c7G)
def c7g(K:qF)(g:IB "any")(h:L1 "any")(c:FT)(d:ED:=by rfl)(b:AS:=by rfl)(f:DB:=by rfl)(a:IL:=by rfl):xW "any" c5T:=(AK6 b5x c7F)
def a6n(K:qF)(f:IB "isinstance")(g:L1 "isinstance")(c:FT)(b:AS:=by rfl)(d:DB:=by rfl)(a:IL:=by rfl):xW "isinstance" c5Q:=BZG b5t a6q
def c7f(f:CWM)(g:CYB)(b:FT)(c:ED:=by rfl)(d:DB:=by rfl)(a:IL:=by rfl):AHP "min" ((c8t)):=(E61 b5l c0X)
def B7(K:qF)(f:IB "tuple")(g:L1 "tuple")(c:FT)(b:AS:=by rfl)(d:DB:=by rfl)(a:IL:=by rfl):xW "tuple" b0S:=DUE b0f c0V
def c3n(K:qF)(f:IB "list")(g:L1 "list")(c:FT)(b:AS:=by rfl)(d:DB:=by rfl)(a:IL:=by rfl):xW "list" c4E:=DUE b2f c3Q
def a8i(d:CWN)(f:CYC)(b:FT)(c:DB:=by rfl)(a:IL:=by rfl):AHP "int" ((c5R)):=(DHT b5v)
def E4(K:qF)(h:aF)(g:FT)(f:AS:=by rfl)(b:bV "append":=by rfl)
  (d:jK:=by rfl)
  (c:SQ:=by rfl) (hs:DB:=by rfl) (a:QQ:=by rfl) :
  AIK "append" b2S:=(AIL PySem.F.slot_list_append PySem.F.type_list_append b4A)
def a9J(K:qF)(h:aF)(g:FT)(f:AS:=by rfl)(b:bV "pop":=by rfl)
  (d:jK:=by rfl)
  (c:SQ:=by rfl) (hs:DB:=by rfl) (a:QQ:=by rfl) :
  AIK "pop" b6B:=(AIL PySem.F.slot_list_pop PySem.F.type_list_pop b7H)
def Z5(K:qF)(h:aF)(g:FT)(f:AS:=by rfl)(b:bV "extend":=by rfl)
  (d:jK:=by rfl)
  (c:SQ:=by rfl) (hs:DB:=by rfl) (a:QQ:=by rfl) :
  AIK "extend" b2R:=(AIL PySem.F.slot_list_extend PySem.F.type_list_extend b4z)
def A7(a:X.N.Nodup)(hi:jD)(c:A78)(b:A7C:=by rw[eF]):DM7 JG:=⟨c2m a hi c b⟩
def D8:JGs X [] b1W:=⟨c2k⟩
def B3{u:TGs}(h1:JG X e g)(h2:DIX)(hs:E8K:=by rfl):JGs X IO (a0D g u):=(bD b6X h1.h h2.h hs)
def G7(K:qF)(n:Nat){u:TGs}(h:DIX)(c:ED:=by rfl)(b:AS:=by rfl)(d:C5L:=by rfl)(a:C61:=by rfl):kG JG .Tuple es k (a9Q K n u):=⟨c2l K c h.h b d a⟩
def c0j{i:Expr}{a:TE}(c:aF)(hi:CQ i a)
  (b:ECX (do
   let ov <-holding [v] (eval o X.env)
   let iv <-holding [v,ov] (eval i X.env)
   standAt pos
   holding [v,ov,iv] (setItem ov iv v)
   release [v,ov,iv] []):=by rw[eC]):kG JG .Subscript o i (c9a to a b6z):=YE c6h c.h hi.h a8W b
def E7(K:qF){l:Expr}(b:C0N)(a:AS:=by rfl):DH6 c0u:=DLX b6W
def F5(K:qF){l:Expr}(b:C0N)(a:AS:=by rfl):DH6 c3E:=DLX c2h
def L7(K:qF){h:Nat}{i:Pos}(f:BP4)(g:BQ9)(e:A81 VD)(d:AS:=by rfl)(hs:C4O:=by rfl)(c:C32:=by rfl) :
  C4X JI E5H (c7q K t):=(bD (c2g K f g e.h) d hs c)
def G0(c:CWL)(d:CYA)(b:A81 KG)(hs:DVE:=by rfl):JI X tg DRG (c5j t):=⟨b4i c d b.h hs⟩
def B8:JF X [] Q0:=⟨c2f⟩
def O9(h:B1A):JF X [c] tA:=AHS c2e
def B9{b c:Expr}{f:BH}{scope:Scope}{j:TI}{i:TT}(hi:DH9 j)(e:yR)(d:A7M)(h:yE)
  (m:DDF) (n:u6 JF f i) (l:DC2 c)
  (k:ED:=by rfl) (hs:C5B:=by rw[eC]):CQ (.ListComp c (ARD b f) scope pos) (B6P j i) :=
 ⟨c2r k hi.h e d h (A7E m) (A7E n) (A7E l) hs⟩
variable {sts:KL}{u v:TS}
def B4:JB X [] c3Y:=⟨c1Q⟩
def A1(h1:DGS)(h2:JB X sts v):JB X (st::sts) (c5x u v):=⟨b6J h1.h h2.h⟩
def A3(h1:DGS):JB X [st] u:=⟨c1P h1.h⟩
def c0f:E3O JS:=⟨b6O⟩
def B0(a:XE):JS X DI8 (c1s te):=⟨c5Y a.h⟩
def E3(a:XE)(hs:DS9:=by rfl):JS X DP0 (c3Z te):=⟨c1S a.h hs⟩
def C0{A:KL}(d:B1A)(a:JB X A u)(b:BZB):JS X (.If c A B pos) (c8c tA u v):=bD c8B d.h a.h b.h
def a9F(b:B1A)(a:BZB)(hp:B75:=by rw[CRQ]):JS X (E3K B) (b5S tA v):=bD b6K hp b.h a.h
def L6{a:Expr}{b:TI}(hi:JI X tg a b)(e:DCM)(c:BZB)(hp:B75:=by rw[CRQ])(d:ED:=by rfl)
  (hs:AR9 (foldedSetIterable a X.env x):=by rw[eC]):JS X (.For tg a B [] pos) (c8d b g v):=⟨c5Z hp d hi.h e.h c.h hs⟩
def B1{pos':Pos}(a:X.N.Nodup)(hi:jD)(d:A78)(b:XE)(hs:DT6:=by rfl)
  (c:A7C:=by rw[eF]):E71 JS:=⟨c5X a hi d b.h hs c⟩
def K7{y:Str}{m c:Pos}{b d:Expr}{e:BH}{scope:Scope}{o:TI}{n:TT}
  (p:X.N.Nodup) (w:B1M) (v:B52) (hi:DH9 o) (h:yR) (f:A7M) (k:yE)
  (t:DDF) (u:u6 JF e n) (j:DC2 d)
  (q:ED:=by rfl) (l:E43 DDY DQN c.line:=by rfl) (hs:C5B:=by rw[eC])
  (r:B6W:=by rw[eF]) :
  JS X (.Assign [DQN] DDY c) (BKQ (B6P o n)) :=
 ⟨c1R p w v q hi.h h f k (A7E t) (A7E u) (A7E j) l hs r⟩
def b1O(a:XE)(b:DCM)(hs:ED6:=by rfl)(hw:EHQ:=by rfl)
  (h1:DXU:=by rfl):E60 JS:=⟨c6b a.h b.h hs hw h1⟩
def b1N(K:qF){i:Expr}{c:TE}{tpos:Pos}(h:aF)(hi:CQ i c)(g:XE)(d:AS:=by rfl)
  (f:∀b a new,augStore i b a new=(do holding [new,b,a] (setItem b a new);release [new,b,a] [];pure .next):=by intros;rfl):JS X (.AugAssign D7V .Add e pos) (c4c to c te CXX DP1 b6z):=(bD (c1U h.h hi.h (b4R K d) g.h) c7n a8W f)
#where
section
variable {P:qH}{w:World}{mg:BA}{base:Heap}
def FunAt.okJ{ps:AA}(F:AJZ)(S:yQ)(c:jM)
  (b:AKA x (bJ ->
   AUN DV1)):E0Y :=
 F.ok S c λa f A outer s H vs Q E e h=>EL1 (CQN E e h)
def Fun.okJ{qual:Str}{f:qE}{fd:FuncData}{ps:AA}(F:BZO)(S:yQ)(c:jM)
  (b:EPQ (bJ ->
   D9T)):EDC :=
 F.ok S c λa A outer s H vs Q E e h=>EL1 (ELC e h)
#where
/---/def b2K(K:qF):Sp:=BQ _ (nP a ns qJ (vs=OG/\B53/\ns.length<=63/\∀H',AJJ))
def law_walk{l:PySem.W.OpenLaw}{q:qH}{b:AA}{XP:BUH}{e:BUG}{d:DefRec}{K:DKI}(k:Nat)(m:CD7 63)(c:BOW)(o:BQG)
  (i:EKQ e)
  (F:EM7 (BZ4 ->
   ∃fd:FuncData,DZ5 [("_law_script",u)]/\DDQ (C5O C00 CX0 k fd AS1 COX))) :
  E1F PySem.W.WalkO e :=
 BG L2.walk_of n 63 k k (x:="_law_script") (CX:=CO CX0) (sp:=λw=>COX) m AK c o i F (λ_ _ a p j _ g=>⟨a,p,rfl,g,j,A1E⟩) λ_ _ _ _ _ z=>z
/---/def Its(H:Hp)(vs:AE)(rss:LLI):Prop:=EAH V (∃r,BYO/\B24)
def Its.same{H H':Hp}{vs:AE}{rss:LLI}(h:SO)(s:BN):B4V:=(C6I (e2.same s))
def Its.nil:OY [] []:=FN (λi v e=>BRM)
def Its.snoc{r:qJ}(h:SO)(b:B24):OY (vs++[v]) (rss++[r]):=by
 rw[EV CXS (VO i u)];rw[D9K]
 rw[C3U q (A07 u) q]
 .rw[TL List.getElem?_append_right X9 hi]at e;have a:i-vs.length=0:=by
   rw[BCB BPT];omega
  rw[a]at e;simp at e;rw[DG];rw[DN r ?_ b];rw[List.getElem?_append_right (by rw[vF CD X9 hi]),<-CD,a];rfl
def Its.mem(h:SO)(e:ABG):∃r,BIS/\BYO/\B24 :=
 let ⟨r,e1,e2⟩:=A9W
 ⟨r,A0P e1,e1,e2⟩
def a2Z{k1 k2:Bool}{ys:qJ}(f:B10)(o:NL)
  (c:EB2)
  (g:AK2) (m:B5E n (jF->B0T->IV->DXK->E08))
  (hd:BXO) :
  B51:=by
 rw[SF q]
 rw[EJX]
 .rw[B71 k K8 d l K8];rw[EM3]
  .match j,e with
   |0,e=>rw[CG]
   |1,e=>rw[CG]
   |j+2,e=>exact e
  .exact C3O m BQD AYD s' (B48 s' k l)
 .rw[E1D (by
   rw[B5Z K6 K6])]
  rw[B15]
def a7l(f:qJ->V)(l:JR vs.length)(b:DCE)(k:SO)(c:UT)
  (g:EEG f (vQ AB9 j)) (hd:AUU rss.map):BU4:=by
 rw[SF n]
 rw[EC (Z9 (xs:=vs) (BXF n) (iS (B33 rss.take)) u5) (US ys B3C) ?_]
 .rw[CGT];rw[CL r m d e k.mem hx];rw[AA8 bN c (BJZ (E8D m (e.same s) s) nD)];rw[DS1]
 rw[B59 k.1]
def b4F{j:TT}(t:D1U)(k:NL)(b:BBI SqL YQ)(c:UT)
  (f:∀x H1 g,jF->IV->g (t x) H1->j D7H H1 g) (hd:AOC (LW D78)):C4W j A6I:=by
 rw[SF l]
 rw[EC (S2 (xs:=YQ) (AH K6 D2G) (iS (ys=DU9 V.int)) u5) (US ys DR8) ?_]
 .rw[C44 K8 (DL z) (EDE f ?_)];rw[BM0 d];cases e:t z with
  |true=>rw[AH5 s A67]
  |false=>rw[AZ s A67]
 rw[B59 K6]
def b5F{k1 k2:Bool}{us:AE}(f:Int->qJ->V)(q:NL)
  (c:CPK (SqK k2 K H' b us)) (o:SN)
  (d:AK2) (m:∀x v r H1 n,jF->BIS->CON->IV->n (f x r) H1->vQ (AQK x JZ) n)
  (hd:BEL BHQ) :
  B51:=by
 rw[SF u]
 rw[AVY YQ us (AH K6 (O7 q u)) (zs=D16 i) (AH EJ YX)]
 .rw[CCW g K8];subst e1;rw[CL r t k l o.mem hy];rw[AW2 DPE DPE BGN [z] z d (AQK x' BMD)];rw[A4F]
  .match j,e with
   |0,e=>rw[CG]
   |1,e=>rw[CG]
   |j+2,e=>exact e
  .exact m x' z r _ _ (List.mem_of_getElem? g) t (l.same s') s' (B48 s' g k)
 .rw[lP zs];have e:D16 (min BID us.length)=BHQ:=by
   rw[B5Z K6 o.1]
  rw[B15]
def a5d{d:TT}(t:dH)(f:X3)(a:UT)(b:∀(i:Nat) H1 (c:UQ),LG->IV->A3N (c (t i) H2)->d B2T H1 c)
  (hd:AOC (BGW (DJ6 n))):C4W d BW5:=by
 rw[EA1 f (ys=FC (DJ6 i) V.int) (by rw[BLV EJ List.length_map];rw[B97 ZJ AJ])]
 .rw[C5W s rfl];refine GQ (b i H' _ hi s) H2 s2;rw[List.range_succ,List.filter_append];cases e:t i with
  |true=>rw[AH5 nD A67]
  |false=>rw[AZ nD A67]
 .rw[lP ys];exact hd H' p s hp
def C3:JS X st AJO:=⟨A1M _ _ h.elim⟩
#where
section
open PySem.W
variable {A:Around}{C:qE}{H:Hp}{K:qF}{N:AA}{P:qH}{X:Cx}{base:Heap}{e:Expr}{es:BH}{mg:BA}{t:TA}{w:World}{x:Str}
/---/def a8o(p C:qE):HO:=BYI (∃o,ASZ p/\o.cls=HJ)
def ObjOk.there{h:Heap}{a:qE}{o:HO}(x:B37):∃u,ZO u:=by
 induction o with
 |lst xs=>rw[DLM];rw[dW]
 |tup xs=>obtain⟨_,_,_,b,e,_⟩:=x;rw[dW]
 |dK qM=>rw[B62];rw[dW]
 |dT qM=>rw[B62];rw[dW]
 |set S n=>rw[E22];rw[dW]
 |ins C dx fs=>rw[DLN];rw[dW]
 |own y=>obtain⟨_,e⟩:=x;rw[dW]
 |xd fs=>rw[DLO];rw[dW]
 |rng lo hi=>rw[BM2 e];rw[dW]
 |frz b u c=>obtain⟨e,_⟩:=x;rw[dW]
 |tbl ps=>exact DX x
 |met f y=>exact DX x
 |ext φ=>exact bS
/---/def Cov(l:HL)(H:Hp)(h0 h B:Heap):Prop:=kE UJ (CXW->(D8Q∨∃o',XJ h0.get? o')->GL B.get?)
def a2T{l:HL}{H':Hp}{h0 h1 h2 B:Heap}(f:E62 h1)(i:BHP h1)(d:DTX h1)(st:D0H)(s:h1.UpToSlots h2)(p:h1.FunFrames base l)(t:VN AC4 tO) :
  E62 h2/\BHP h2/\DTX h2:=by
 have y:∀b,D8R->CXW:=λb n c=>n (t b c);rw[DN ⟨?_,?_,f.free,?_,f.tups,f.frzs,f.tbls⟩ ?_ ?_]
 .intro b o e n c hx;exact st b o (d b o (mG f.keep c hx) c (.inr BT4))
 .intro b o e n c hx;rw[ZI sl (mG f.slot c hx)];rw[EMI];rw[QN j h E7F j h]
 .intro b o e hx;rw[ZI g (YV f.there hx)];by_cases c:b∈AC4
  .rw[EMI];rw[uL j E7F];exact DX h
  .rw[AZ g (st b g (d b g q c (.inr BT4)))]
 .intro a o e;refine EIA i (BS b u c q);have k:D8R:=by
   rw[TR c c]
   .rw[e];rw[jY]
   .rw[c];rw[jY]
  exact st b u (d b u q (y b k) (.inl k))
 .intro b o e c ho;have ex:D5Z g g:=by
   rw[AWC ho k q]
   .cases eq:H' b with
    |none=>rw[FO eq k]
    |some u=>exact(i b u eq).there
   .exact f.there b o' q AJ
  obtain⟨g,x⟩:=ex;rw[AD h (d b g x c ho) r (st b g h)];rw[AU e r r];exact h
/---/def CXE(P:qH)(w:World):CXT:=λouter H s E e s' =>
 ∃(p C:qE) (H':Hp) (B:Heap) (a0:qB),e=EZ/\D4O/\uZ/\DXR/\DBO /\
  lW/\CQE outer s'.heap/\D9U s.heap/\AUT HJ
/---/def b5V(C:qE)(E:XK)(t:TA):TS:=λ_ σ H=>XN t vs (CB vs.length/\E HJ none H1)
def b6M{qual:Str}{scope:Scope}{f:qE}{cd:qB}{outer:HL}{a:qC}{i:Hp}{E:XK}{bmB F:AQ}{B Y qQ V g U:String}{np qN pos:Pos}
  (O:DJQ) (Fn:ExcBaseFacts Y qQ U F) (J:D2R Y) (Z:ExcBaseFacts B V g bmB)
  (hg:Gl B73 x)
  (ha:PA B73 IO t) (hd:HP:=by decide)
  (y:BKX AMN AMN D5B:=by rfl)
  (S:A7Y qN D5B:=by rfl) :
  EL5 PS B73:=by
 rw[UO];obtain⟨tl,NC,nm,q,bs,m,sn,sub,ab,col,dd,k0,k1,k2,k3,k5,mN,hC,hN,R,T⟩:=O.obj;refine BG (BG (BG wpAny_Raise_call_subU C C nm nm (q:=q) (N:=NC)) bs bs bm tl (hdct:=m) (sn:=sn)) sub sub ab ab (col:=col) (dd:=dd) (k0:=k0) (k1:=k1) (k2:=k2) (k3:=k3) (k5:=k5)
  Fn J Z (mN:=mN) (T.hasType Z.hasBase) (I.ok.hd rfl) (by show(backTo qN (starEach (e::es) (envOfC qual scope a.heap.objs.size f cd))).any _=false;rw[y];show(false || (backTo qN (starEach es (envOfC qual scope a.heap.objs.size f cd))).any (·.1))=false;rw[S];rfl) R (N9 I hg O.bound nW hd)
 have k:=AMR ha qN h;have L:starEach IO (B73).env=_:=y;rw[L]at k⊢;refine Calls.evalArgs_plain (wpAny_mono k (λus s2 ⟨vs,H1,c,r,hl,q⟩=>iY (BHO hl) (AI c.bk hC) (hN.keeps c.bk) (T.keeps c.bk) (DV h' p Q)) λ_ _ z=>z);have M:∀env∈(BBQ),∀b,env.frame=AC b->b∈BQM:=λenv y b d=>YM List.mem_filterMap.mpr env y d;refine BG wpAny_leaves_madeW base CQ1 h s2.heap c.ok.frames rfl (fU o (of_hideAll _ q)) (funFrames_hide c.stack M) Q (EX h2 t x1 x2 x3 x4);have v:AGI ACA BQM:=λb d=>by
  rw[D2 env h1 h2 List.mem_filterMap.mp d];rw[EDJ]
 have n:ECA a.heap.objs.size BQM:=λb h1 h2 h3=>by
  rw[E3C X q2 h3 (CR8 X) X]
  .exact h2 (ADN q2)
  rw[E9N X q2]
 have G:Cov outer H1 a.heap s2.heap CQ1:=λb o eb nb d=>by
  refine hideAll_get _ eb (DF8 n);subst z;rw[AWC d d d]
  .exact d c.free
  .exact B03 d cX
 have hp:ALC:=by
  cases eq:H1 p with
  |none=>rfl
  |some u =>
   obtain⟨o,eo⟩:=(c.hok p u eq).there;rw[AU Q.new eo eo]
 obtain⟨U2,W,j⟩:=ENQ i H1 a.heap s2.heap h2 c.base c.hok G x1.1 (GI Heap.UpToSlots.of_keeps Q.keeps x4) c.funs λb d=>c.stkFree b (v b d);exact⟨p,C,H1,_,bZ,rfl,c.os,c.bare,U2,W,hp,x1,j,q⟩
/---/def XP(X:Cx)(qL:CV)(R:D6U)(e:qB)(s':qC):Prop :=
 ∃(σ1:St) (H1:Hp) (s1:qC) (p C:qE) (H':Hp) (B:Heap) (a0:qB),e=EZ/\eM σ1 H1 s1/\BU9/\uZ/\C48/\AIJ /\
  lW/\DJW s'.heap/\C36/\R σ1 C H'
abbrev TX:=Ends->(St->CJ3)->VP
/---/def PSx(X:Cx)(sts:KL)(t:TX):Prop :=
 ENC D Ends R D6U (t D R σ H) (FV T6 X.A (eJ execs sts) COI (XP X qL R) s)
structure OkE(P:qH)(w:World)(K:qF)(mg:BA)(base:Heap)(x:Str)(k:Nat)(ps:AA)(sp:Sp):Prop where
 ex:E1G DA2
def FunAt.okE{st:Stmt}{ps:AA}{k:Nat}{sp:Sp}(F:AJZ)(S:yQ)(e:jM)
  (b:AKA x (bJ ->
   AUN (CNO A85))):C62 DA:=by
 rw[yO i F.ex];refine⟨f,fd,h1,h2.kp,i,?_⟩;rw[EK4]
section
variable {M:Model}{E:qI}
structure ClsX(K:qF)(C:qE)(above:AQ):Prop where
 ex:EPS (HK above (EG bm.contains v))
#where
section
variable {qL:CV}{σ:St}{H1 H':Hp}{s1 s':qC}{p:qE}{B:Heap}{a0:qB}{h2:Heap}
def Inv.land(a:C0R)(e:BU9)(k:uZ)(g:C48)(d:AIJ)(i:DZ4)(c:C36)(st:D0H)(m:D0I) :
  A92 D3W:=by
 have j:DFV:=λb h=>by
  rw[AWE l (a.stack.mem h)];exact g.free b o l (a.stkFree b h) AJ
 obtain⟨U2,f,_⟩:=a2T g d c st m i j;exact a.call' (ch:=[]) e U2 f k BWA
def Inv.landX(i:C0R)(v:BU9)(I:uZ)(D:C48)(t:AIJ)(hp:lW)(G:DZ4)(j:C36)(c:DJW h2)(O:D0I) :
  KN B35 D3W:=by
 have H:DFV:=λb h=>by
  rw[AWE s (i.stack.mem h)];exact D.free b o s (i.stkFree b h) AJ
 obtain⟨U2,y,f⟩:=a2T D t j F0 O G H;rw[AAB d l c.there];have w:p∉lX:=λh=>by
  obtain⟨_,o,s,K⟩:=(aX).mem h;obtain⟨L,vs,_,_,_,g,_,m,_⟩:=OW.2;rw[AU s g g];exact K vs m
 have r:∀o,s1.heap.get? p≠AC o:=λo e=>by
  rw[AF0 (f p x d w (.inr BT4)) KR]
 have F:CHY B35 h2:=by
  refine⟨U2.keep,U2.slot,C4J n J,U2.there,D3U,DHF,BTP⟩
  .rw[AF (A5 (by rw[W2];exact r o e)) (U2.free b o e n J)]
  .have q:=BOO U2.tups;rw[AF AIW q]
  .have q:=kD U2.frzs u;rw[AF AIW q]
  .rw[QN more q (BON U2.tbls) more (AH AIW q)]
 have A:AN0 B35 h2:=λa o e=>by
  rw[BP E a p]
  .rw[BM1 E];rw[AV ⟨x,d,l⟩ ⟨x,d⟩ (λg1 P (UC M N) k=>UC (k o M) N)]
  .rw[A5 E]at e;refine(y a o e).stay (UL _ q q) CKD λb xs q=>?_
   .rw[AF AIW q]
   .rw[AF AIW q]
 exact i.call' (ch:=[]) v F A I BWA
#where
section
variable {qL:CV}{σ:St}{s:qC}
abbrev Cx.held(X:Cx)(p:qE):Cx:={X with A:=X.A.mark WA,calm:=false,xe:=AHG}
def Inv.held(I:AM)(p:qE):DDT :=
 B40 ⟨I.ok.mod,I.ok.kind,I.ok.glob,I.ok.blt,I.ok.above,I.ok.inj,I.ok.has,I.ok.cab,AWK,I.ok.frames,I.ok.stk,I.ok.exf,I.ok.bs,I.ok.bsz,I.ok.noex,I.ok.exfs,I.ok.funs,I.ok.frf⟩
def Inv.unheld{p:qE}(J:X.Ok)(I:DDT):AM :=
 B40 J
#where
structure JX(X:Cx)(sts:KL)(t:TX):Prop where
 h:PSx X sts t
section
variable {k:Nat}{ps:AA}{sp:Sp}{y:Str}{p pos qN pos':Pos}{i:Nat}
#where
def a2O{qual:Str}{scope:Scope}{f:qE}{cd:qB}{outer:HL}{b:qC}{c:Hp}{E:XK}{bmB d:AQ}{B k qQ j a i:String}{np qN pos:Pos}
  (O:DJQ) (m:ExcBaseFacts k qQ i d) (g:D2R k) (l:ExcBaseFacts B j a bmB)
  (p:Gl C6B x)
  (n:JA C6B IO t) (hd:HP:=by decide)
  (o:BKX BHR BHR D5C:=by rfl)
  (h:A7Y qN D5C:=by rfl) :
  EL5 JS C6B:=⟨b6M O m g l p n.h hd o h⟩
#where
section
open PySem.W Builtin Builtin.ObjectAttr Builtin.Getset_descriptor
section
variable {K:qF}{prog:qH}{w:World}{A:Around}{E:qI}{h:Heap}{g:uM}{d:Drawn}{t:Nat}{os:OsState}{a:qE}{o:Obj}{nm q:Str}{C N:qE}{bs bm:AQ}{hdct:Bool}{sn:AA}{sub:AQ}{ab:Bool}{col:tV}{dd:IY}{k0 k1 k2 k3 k5:SZ}{qQ:String}
#where
section
variable {X:Cx}{es:BH}{e:Expr}{t:TA}{pos p:Pos}
def a1i{x:Str}{v:V}{u:qB}(a:NM)(b:BV7)(r:NQ)(hd:HP:=by decide):DEW:=⟨c2o a b r hd⟩
#where
#where
section
variable {A:Around}{H:Hp}{K:qF}{w:World}{α:Type}
def Z7{ca:xR}{xs:DC}{i:Nat}{x:V}(h:OZ ((xs.map ca))):∃z,DJ xs z/\x=ca z:=by
 rw[AYU];cases e:xs[i]? with
 |none=>rw[AJN]
 |some z=>rw[DVH]
def c1k{β:Type}{src:LQ}{σ caps:St}{Q:VK}{k1 k2:Bool}{a b:qE}(ca:xR)(d:β->V){xs:DC}{ys:A57}{te:TE}(f:B49 V)(q:NL)
  (c:ELF d)
  (k:AK2) (n:B5E o (jF->B0T->IV->A3N (DCK o)->vQ (C39 d) o))
  (hd:BXO) :
  B51:=by
 rw[SF r]
 rw[AVY AP3 (ys.map d) (IF (O7 q r)) (zs=A3A i) (AH EJ YX)]
 .rw[B71 l Z7 g m Z7];rw[AW2 DAF DAF ARC [d g] (d g) k (BFK x' d g)];rw[A4F]
  .match j,e with
   |0,e=>rw[CG]
   |1,e=>rw[CG]
   |j+2,e=>exact e
  .exact n x' g _ _ AYD (List.mem_of_getElem? m) s' λH2 s2=>B48 AZ4 l m
 .rw[lP zs];have e:A3A (min (EI xs.map ca) (EI ys.map d))=A05:=by
   rw[B5Z List.length_map List.length_map]
  rw[B15]
def b3P{src:LQ}{σ caps:St}{Q:VK}{a:qE}(ca:xR){xs:DC}{j:TT}(t:BSI)(k:NL)(b:BIV AP3)(c:UT)
  (f:∀x H1 (g:UQ),jF->IV->A3N (g (t x) H2)->j (BBE x::caps) H1 g) (hd:AOC (aJ D78 ca)):C4W j ACD:=by
 rw[SF l]
 rw[EC (Z9 (xs:=AP3) (IF D2G) (iS (ys=DU9 ca)) u5) (US ys DR8) ?_]
 .rw[C44 Z7 (BBE z) (GQ (f z H' _ CJO s) H2 s2)];rw[BM0 d];cases e:t z with
  |true=>rw[AH5 nD A67]
  |false=>rw[AZ nD A67]
 rw[B59 List.length_map]
def c4J{P:qH}{mg:BA}{base:Heap}{N:AA}{qual:Str}{scope:Scope}{f:qE}{cd:qB}{outer:HL}{d:qC}{v:Hp}{E:XK} :
  a0z A85 (AKR outer d v E) E:=by
 intro qL σ H1 s1 e s' I h;obtain⟨p,C,H',B,a0,rfl,s,x,J,n,L,c,i,q⟩:=h;have g:=I.land s x J n aX i F0 (PU e _ (BG8 e));refine wpAny_leaves_onW (base:=B) I.ok.frames rfl c λh' D M=>?_;have r:AGI ACA DPP:=λb a=>by
  rw[AJB env (List.mem_filterMap.mp a)];rw[EDJ]
 have m:ECA d.heap.objs.size DPP:=λb h1 h2 G=>by
  rw[E3C u y G (List.mem_cons.mp u) u]
  .exact h2 (ADN y)
  rw[E9N u y]
 have j:D9U d.heap:=λb o F nb a=>by
  refine i b o F (DF8 m) ?_
  .subst z;rw[AWC a a a]
   .exact a g.free
   .exact B03 a cX
  .rw[AWC a a a]
   rw[IH a]
   rw[HM (I.base.there b o' a A09)]
 obtain⟨U2,t,k⟩:=ENQ v H' d.heap s'.heap h' g.base n j D.1 M g.funs λb a=>g.stkFree b (r b a);exact⟨p,C,H',B,a0,rfl,g.os,x,U2,t,L,D,k,q⟩
def b3p{P:qH}{mg:BA}{base:Heap}{N:AA}{qual:Str}{scope:Scope}{f:qE}{cd:qB}{outer:HL}{b:qC}{a:Hp}{E:XK}
  {k:Nat}{ps:AA}{sp:Sp}{x:Str}{e:Expr}{es:BH}{t:TA}{p pos:Pos}(O:C62 k) (m:DPG) (l:Gl rH x)
  (i:DIG) (c:HP:=by decide)
  (j:E93:=by rfl)
  (d:D2H:=by rfl) :
  JE rH (A8C A0K) (a3M sp [] E t):=by
 obtain⟨n,fd,h1,h2,g,h⟩:=O.ex;exact YE (b2Y h m l h1 h2 g .nil c4J) i.h c j d
def Its.put{vs:AE}{rss:LLI}{c:qE}{xs:AE}{o:HO}(h:SO)(b:BRQ):BZ6:=DA4
open _root_.HT
section
variable {prog:qH}{E:qI}{s:qC}
def a1M{t sl:qE}{items:DI}{e f:qB}{lo hi:FX}{Q:qI}(a:DIL)(hs:C2L e f)(pl:IsPart e lo)(i:IsPart f hi)
  (hw:E6N) (h:DF7):ECH:=by
 rw[CL os d c g id hs];have b:DSF:=⟨os,d,c⟩;unfold getItem
 rw[CS3]
 first|rw[A65]|skip
 rw[DQL a.typeIs (DT9 a.typeIs
  (EF9 a.typeIs))]
 rw[EE3 (tupleItemsOf_ a ?_) (wpAny_typeOf b ?_) i];rw[hw.1,hw.2];rw[ATM (HI ((AQ6==0 && PV==1 && (items.size-0)==items.size)))];rw[PK if_pos];rw[BQK (A9C wpAny_typeOf a.typeIs)];rw[BO AR0 wpAny_bind (A55 wpAny_rule BE1)]
#where
section
variable {X:Cx}{e:Expr}{te:TE}{lo hi:A5C}{tl th:TO}{pos p2:Pos}
/---/def c5N(K:qF):A7S:=C6V (C2U (XD /\
 ((BL7)->LV a H)/\(D0C->DGD)))
def c1z(K:qF)(j:AS):BWL c5N:=by
 subst j;rw[C83 i f g];obtain⟨a,xs,rfl,e,k,l⟩:=h;by_cases hw:BL7
 .cases i;obtain⟨c,r,d,o⟩:=I.tuple e;rw[DGT b xs.length r.length.symm]
  rw[E0R d.typeIs];exact a1M d hs f g (AH b hw) (lA BF (k hw))
 .exact ZE b6g BF v m n lo hi sl Q I i hs f g ⟨a,xs,rfl,e,hw,l hw⟩
def c8Y(K:qF)(b:XE)(c:C2A)(d:C2B)(a:AS:=by rfl):EB0 c5N:=(C6X c1z)
def b0t(l:qE)(items:DI)(n:Nat)(dd:IY)(sl:eH)(u:Tok)(a:CW6) :
  E0L 0 (DVW #[]) :=
 (A7V (by
  rw[nL e];rw[uL b h];have f1:=AutoSeq1.idx_int;have c:¬(vN items.isEmpty (NW==1)):=by rw[XL a]
  wp_walk using PySem.AutoSeq1.wpAny_loadPart' b
  rw[oH]))
/---/def b6A:R2:=EHU (0<=n)
def c2w:AH7 b6A:=by
 rw[EEO w A l i C D];rw[BP k n 0]
 .subst k;rw[wB w A];rw[AHO f p1 E BU2];rw[E0V j p p];rw[EH1 p g d f.length g i]
  refine EB4 BPP 0
   (EM1 0 0 f.toArray j BPP)
  rw[E6V BPP (b0t a f.toArray m dd sl t (by simp;intro z;rw[z]at d;rw[BT3 d])) j];have B:A5K:=bR;refine DXY [] G B;rw[CK FF [] .nil AF7]
 .exact ZE b2Z BF BN1 v u Q I w A ⟨a,xs,n,rfl,rfl,l,i,A5N 0x366b647936973107fc4661236 C,D,q⟩
def b1P{a b:Expr}{ta tb:TE}(c:BZ)(d:CY):AHF b6A:=SR c2w
#where
#where
section
variable {A:Around}{C a:qE}{E Q:qI}{H H':Hp}{P prog:qH}{X:Cx}{e:Expr}{es:BH}{h h':Heap}{qM:aA}{o:cZ}{p pos:Pos}{qL:CV}{ps:AA}{s:qC}{sp:Sp}{ta te:TE}{u:qB}{v y:V}{w:World}{x:Str}{xs:AIY}{σ:St}
/---/def c4C(K:qF):RL:=PY (nP p ns qJ (xs=VY/\AP8 AO3/\CUU/\ECB (M<=a)))
/---/def c8A:RL:=PY (∃i:Int,xs=ATN/\QG BFN)
def b5z:rE "abs" c8A:=by
 rw[QL c b];rw[DU i q h];rw[DU u a b.one];rw[GC a];exact call_abs_int λu tk=>TN WP DK4 (ZA u) q
def c7h{t:TA}(d:IB "abs")(f:L1 "abs")(b:FT)(c:DB:=by rfl)(a:IL:=by rfl):AHP "abs" c8A:=(ARO E5 b5z c7H)
/---/def c4D(K:qF):RL:=BLC ns qJ (xs=VY/\BZF p/\CUU/\ECB (a<=M))
def b5p(K:qF)(F:ED)(D:AS:=by rfl):oK "max" c4D:=by
 subst D;rw[QL P N];rw[RZ k p d rfl hs z q];rw[cR M N.one M];rw[CL c A w O I.sqk hs];rw[BSU m A.length m];rw[BJP G D6S];have f:∀i v,rY c.toArray->∃t,v=CXH AT6:=λi v y=>by
  rw[ZN r (rY c) y]
  rw[E80 CX7 L d.map d[i] m]
  rw[CL R e1 t e2 A.get L];rw[ACN r];rw[AZ t (AAQ e2 List.getD_eq_getElem?_getD (AT2 m))]
 rw[BK7 call_max_walk w ⟨s.heap.objs.size,_,_,_,_,_,_,rfl,DE1 G w,a8j w,CKC,?_,CmpOf.ints_gt CZ3 f,DY v h' tk y J⟩]
 .rw[DL4 w.get];have x:=wM;rw[AH9 g g]
  rw[D77]
  rw[BNQ x]
 .rw[AF List.size_toArray (lq 0x4657974ca1d04865c5e z m)]
 .rw[GC (AI f y)];obtain⟨B,C⟩:=argBest_gt CZ3 CTW;rw[DGT n d.length m.symm]
  have g:argBest (λi j=>GM (AT6 > d.getD j 0)) CTW<d.length:= ZU 0x3f709f857b0d021007e55fb1eec85f z B n
  rw[EBB (I.kept (t':=tk) (a2N J)) E]
  .rw[KK List.getD_eq_getElem?_getD BOL List.getElem_mem g]
  .rw[vB E];have:=C i (kM c4V n);have e:AT6=d[i]:=by rw[List.getD_eq_getElem?_getD,cC];rfl
   rw[KP e this]
def c3m(K:qF){t:TA}(g:IB "max")(h:L1 "max")(c:oB)(d:ED:=by rfl)(b:AS:=by rfl)(f:pF:=by rfl)(a:oR:=by rfl):BUZ "max" c4D:=(AK6 b5p c7E)
section
variable {k:Bool}
def c5q{α:Type}{M:Model}{c:Bool}{t u:BRX}{Q:BPD}(h1:D3P)(h2:KO M u Q):KO M (U3 c t u) Q:=by
 cases c
 .exact h2
 .exact h1
#where
def a8z:nG "enumerate" "enumerate":=NJ
section
variable {M:Model}
def P0{nm q:Str}{N:qE}{bs bm:AQ}{hdct:Bool}{sn:AA}{sub:AQ}{ab:Bool}{col:tV}{dd:IY}{k0 k1 k2 k3 k5:SZ}{qQ:String}{g:uM}{d:Drawn}{t:Nat}{os:OsState}{e:qE}{k:Obj}{Q:x9}
  (j:DRQ) (l:iA e k) (b:k.cls=HJ)
  (a:BIM) (m:Q true B5D):C4Z (RC excMatches e HJ) B5D:=by
 have c:A2D (AE4 BH6 bm):=by rw[DL2 a]
 have i:AY (TK (AE4 BH6 bm) C):=by rw[OI List.contains_cons]
 rw[DZ0]
 repeat (first | rw[DCT l b]|rw[DLW j] | (with_reducible rw[LF wpAny_isSubtype_exc j];first|rw[c]|rw[i])|wp_step)
 exact m
#where
/---/def b5U(K:qF)(D:qE)(tx:TX)(ts:TS):TS:=DR6 (λσ1 C H'=>C=D/\C68 ts C)
def b6L{body:KL}{tx:TX}{ts:TS}{n:Str}{np m:Pos}{M:Stmt}{b:KL}{D:qE}(j:BYC)(x:B4B)(hx:PSx X body tx)
  (hg:IB n) (hm:A4D n D) (Z:ClsX X.K D [])
  (A:B6S PSs M b ts) (hd:A8D n:=by decide) :
  PS X (C6O [C5C (.Name n np) M b m]) (b5U X.K D tx ts):=by
 rw[jQ J h];rw[EHB hx J]
 .cases f with
  |next=>rw[AWM q]
  |brk=>exact q
  |cont=>exact q
  |ret v=>exact q
 .obtain⟨σ1,H1,s1,p,C,H',B,a0,rfl,I1,hos,hbare,hU,hok,hp,fl,cov,hC,k⟩:=q;subst hC;rw[AD O (W1 fl) l fl];rw[j]at l;rw[EDL j x l i F];refine JL wpAny_landsW i W c d;rw[<-j]at c;have d:=F.trans d;have K:eM σ1 H' (A1U W):=DA6 O cov F0 d;rw[BLK K.held hg hm hd];obtain⟨oe,y,u⟩:=c.there;obtain⟨a1,q',R,U,T,w,a2,P,S,N,V,j0,j1,j2,j3,j5,o,E,t,_⟩:=Z.ex;refine P0 (AI K.kIn E) y u t ?_;rw[CP3 c Y r G];have Q:eM σ1 B35 (A1U Y):=CQ4 O r d.trans G;refine BJC (A p qL _ _ _ J (Q.held p) CN1) COB;cases f with
  |next=>rw[C26]
  |brk=>rw[C26]
  |cont=>rw[C26]
  |ret v=>rw[C7W g g.unheld]
section
variable {k:Nat}{qN:Pos}{t:TA}
def c0e(K:qF){body:KL}{tx:TX}{ts:TS}{c:Str}{np b:Pos}{g:Stmt}{a:KL}{D:qE}(l:DWC)(j:IB c)(k:A4D c D)(h:C0L D)
  (f:B6S JB g a ts) (i:AS:=by rfl) (e:BYC:=by rfl) (d:B4B:=by rfl) (hd:A8D c:=by decide) :
  JS X (C6O [.ExceptHandler (AC (.Name c np)) none (g::a) b]) (b5U K D tx ts):=by
 subst i;exact YE (b6L e d l.h j) k h (λp=>(f p).h) hd
#where
section
variable (P:qH)(w:World)
#where
section
variable {o:HO}
#where
section
variable {x e:qE}{o':HO}
#where
section
variable {fs fs' ex ex':EK}{H1 H2:Hp}{h1 h2:Heap}{x e:qE}{o:HO}
#where
section
variable {σ:AFX}
#where
section
variable {a b:Expr}{tb:TE}
variable {tA tB':TT}{rest:BH}
#where
section
variable {xs ys:AE}
#where
section
variable {st:Stmt}{rest:KL}{t u:TS}
#where
section
variable {tg:Expr}
#where
section
variable {a b c:Expr}{tb tc:TE}
#where
section
variable {K:qF}{x dx f:qE}{mA:BA}{name:Str}{v:qB}
#where
section
variable {dx:qE}{fs fs':OO}
#where
section
variable {dx:qE}{fs:OO}{f:Str}
#where
section
variable {o value:Expr}{f:Str}{pos' tpos:Pos}{tv:TE}
#where
section
variable {c:qB}{b:Bool}
#where
section
variable {t:TA}
#where
section
variable {s':qC}
#where
section
variable {CX:CXT}{k:Nat}{f:qE}{fd:FuncData}{dvs:AE}{ds:AQ}{E:XK}{m:Str}{qO:Pos}{o:Expr}{t:TA}
#where
section
variable {CX:CXT}{k:Nat}{f:qE}{fd:FuncData}{ks:AA}{E:XK}{m:Str}{qO kpos:Pos}{o:Expr}{kws:A88}{t tk:TA}{nm:CT4}
variable {g:E2K}{gV:DWA}
#where
section
variable {t:TA}{id T:String}{r:AHY}
#where
section
variable {κ:Type}[AIM]
/---/def R0(qM:NK)(k:κ):cZ:=FC (qM.find? λkv=>AAH A4W) (·.2)
/---/def putK(qM:NK)(k:κ)(v:V):NK :=
 if BYR kv A4W then qM.map (λkv=>if A4W=k then(A4W,v)else kv)else E7I
def a2x{p:BYF}{r:NK}{k:κ}(e:DT=k):R0 AZ9 k=AC QH:=E1U
def a2y{p:BYF}{r:NK}{k:κ}(e:¬DT=k):R0 AZ9 k=R0 r k:=E1U
def a0H(k:κ):∀qM:NK,DTY (R0 qM k).isSome
 |[]=>rfl
 |AZ9=>by
  rw[List.any_cons];rw[AIS]
  .simp only[a2x e,A5G,Bool.true_or,Option.isSome_some]
  .rw[a2y e,AX4,Bool.false_or];exact a0H k r
def a1a(qM:NK)(k:κ)(v:V):BV A3I<=qM.length+1:=by
 rw[wD putK]
 .rw[AF List.length_map b8C]
 .rw[BC8 List.length_append List.length_nil];rw[SJ 4030111308581]
def a9d{qM:NK}{k:κ}(v:V)(h:E0C):A3I=E7I:=by
 unfold putK;rw[KK a0H h if_neg AK]
def RelO.isSome_eq{u:SZ}(r:D55):o.isSome=u.isSome:=by
 cases o with
 |none=>cases u with
  |none=>rfl
  |some _=>rw[yA r]
 |some _=>cases u with
  |none=>rw[yA r]
  |some _=>rfl
def RelO.getD{u:SZ}{d:V}{d':qB}(r:D55)(a:RelV d d'):BYH d (u.getD d'):=by
 cases o with
 |none=>cases u with
  |none=>exact a
  |some _=>rw[yA r]
 |some _=>cases u with
  |none=>rw[yA r]
  |some _=>exact r
def KV.val{qM:NK}{vs:xV}(r:cO)(k:κ):RelO ADX (valueAt vs k):=by
 rw[C0B];induction r with
 |nil=>exact True.intro
 |@cons p q ps qs h t a =>
  rw[OK h];rw[AIS]
  .rw[EID (BHA AE0) (by rw[AD1 valueAt e'])]
   rw[DXN]
  .rw[EIW valueAt (BHA qs) (by rw[AD1 valueAt e'])]
   rw[DXO]
def KV.any{qM:NK}{vs:xV}(r:cO)(k:κ):DTY (CNM vs.any):=by
 rw[C0B];induction r with
 |nil=>rfl
 |cons h t b=>rw[DLC b CD]
def KV.repl{qM:NK}{vs:xV}(r:cO)(k:κ)(c:LO) :
  KV E1K (CQA vs.map u):=by
 unfold KV at r⊢;induction r with
 |nil=>rw[ABS]
 |@cons p q ps qs h t b =>
  rw[DW3 b];rw[OK h];rw[AIS]
  .rw[D8O];rw[AZ h1 c]
  .rw[DSV];rw[AZ h1 h2]
def KV.put{qM:NK}{vs:xV}(r:cO)(k:κ)(a:LO):KV (putK qM k y) (stored vs k u):=by
 unfold putK stored;rw[r.any k];rw[nO (HI (vs.any λb=>AAH WN))]
 .rw[IG,IG];exact r.repl k a
 .rw[FZ,FZ];exact Paired.snoc r (FN a)
def KV.length{qM:NK}{vs:xV}(r:cO):BLS qM.length:=BPR
#where
def a3S{k:Key}(r:RelV (kV k) u):AY ((D5 P w).is k u):=by
 cases k with
 |inl i=>rw[OM t (ANI AHC r)];rw[uP (a9p P w i t)]
 |inr x=>rw[OM t (ANI B0L r)];rw[uP (a9o P w x t)]
def a6M{P:qH}{w:World}:∀{ks:VR}{us:AQ},A3W ks.map kV us->ItemsAre A28 ks us
 |[],_,r=>by rw[C0S r r]
 |k::ks,_,r=>by
  rw[AWA r];cases r with
  |cons h t=>exact .cons (a3S h) (a6M t)
abbrev KT(H:Hp):EN aA AIY:=C2D (C4L E3M)
def KT.val(r:A4Q)(k:VR):RelO (R0 qM k) ((atKey xs k).map (·.2)):=by
 induction r with
 |nil=>exact True.intro
 |@cons p q ps qs h t a =>
  rw[C08 h];rw[AIS]
  .rw[EID (atKey AE0 k) (by rw[AD1 atKey e'])]
   rw[DXN]
  .rw[EIW atKey (atKey qs k) (by rw[AD1 atKey e'])]
   rw[DXO]
def KT.repl(r:A4Q)(k:VR)(d:LO) :
  KT H E1K (xs.map (putAt k u)):=by
 induction r with
 |nil=>rw[ABS]
 |@cons p q ps qs h t c =>
  rw[DW3 c];rw[AWB h1 h2 b];unfold putAt;rw[AIS]
  .rw[D8O];rw[AV h1 h2 d]
  .rw[DSV];rw[AV h1 h2 b]
def KT.put(r:A4Q)(k:VR){b:qE}(c:AJQ)(a:LO) :
  KT H (putK qM k y) (storedH xs k b u):=by
 have e:(qM.any λd=>AAH cT)=E0N:=by
  rw[a0H,(r.val k).isSome_eq,Option.isSome_map]
 unfold putK storedH;rw[e];by_cases q:AY E0N
 .rw[AZI,AZI];exact r.repl k a
 .rw[AY2,CF q];exact Paired.snoc r (eU c a)
def KT.keeps(r:A4Q)(a:CG1 ys ys ys):KT H' qM xs :=
 EC0 _ _ (AI a z.2.1)
def c4y{u:HO}(ok:UV)(e:C17):BDJ u:=e.ok ok
def a3V{qM:KM}(ok:UV)(e:BWR):C40 :=
 A9O P w h B1W DON
def c5k{qM:KM}(ok:UV)(e:AHI):C40:=DZE a3V
def a2m{ks:VR}(ok:UV)(e:YP D47):E2N h ks a:=by
 obtain⟨_,b,r,o,h1,h2,n,c⟩:=(A9O P w h D47 (ok a _ e));exact⟨o,b.toArray,n,h1,BRY h2,c,CJ (a6M r)⟩
def a3U(ok:UV)(e:BWS):D1Y (A3E /\
  EDQ):=by
 obtain⟨z,y,xs,r,o,es,ep,h1,h2,d,f,g⟩:=(A9O P w h BV0 DON);refine⟨z,y,xs,r,o,es,ep,h1,h2,d,f,B1E,g⟩;have all:∀{l:aA}{m:AIY},KT H l m->EQ m (E2N h HH bS):=by
  intro l m q;induction q with
  |nil=>intro x b;exact nomatch b
  |@cons p q ps qs c t i =>
   intro x b;rcases A5M with e|b
   .rw[DG];exact a2m ok (QE F0 KR)
   .exact i x b
 exact all r x b
def c9c(ok:UV)(e:A7F):D1Y (A3E /\
  EDQ):=DZE a3U
/---/def DGet(H:Hp)(a:qE)(y:V)(r:cZ):Prop :=
 (∃qM k,BWR/\DT0/\r=ADX)∨∃qM k b,BWS/\y=GG/\AJQ/\r=ADX
/---/def DPut(H:Hp)(a:qE)(y v:V)(H':Hp):Prop :=
 (∃qM k,AHI/\DT0/\B13/\H'=BF3 A3I) ∨
 ∃qM k b,A7F/\y=GG/\AJQ/\B13/\H'=DTM
def DGet.k{H:Hp}{a:qE}{qM:KM}{k:Key}(e:AHI):D2M (kV k):=EU (EO qM k CTK rfl)
def DGet.t{b:qE}{k:VR}(e:A7F)(c:AJQ):D2M GG:=DZ (rV qM k b CTK c rfl)
def DPut.k{H:Hp}{a:qE}{qM:KM}{k:Key}{v:V}(e:AHI)(b:B13):DPut H a (kV k) v (BF3 A3I):=EU ⟨qM,k,e,rfl,b,rfl⟩
def DPut.t{b:qE}{k:VR}(e:A7F)(c:AJQ)(d:B13) :
  DPut H a GG v DTM:=DZ ⟨qM,k,b,e,rfl,c,d,rfl⟩
section
variable {r:qB}
def Inv.big(I:AM):APS sysModules:=by
 have h:APS mainGlobals:=(I.mod.glob.keeps I.bk).lt;exact Nat.lt_trans AK h
def b5d(r:A6Z)(I:AM)(g:CAJ JZ)(m:LO)(h:∀f s',AD7->RelV v f->A11 f) :
  mQ (RC getItem a u):=by
 rw[AK9 i i n]
 .subst i;rw[AV8];rw[EE9 (BHA vs)];exact wpAny_getItem_of (a3S m) dd.mapOf hw DJ8
 .subst i;rw[AVI m];rw[EE9 ((atKey xs k).map (·.2))];rw[D2 p q j Option.map_eq_some_iff.mp hw];refine wpAny_getItem_heap (tupleKind_room_in1 r) DO2 dd q ?_;rw[AF j DJ8]
def c9w(j:A6Z)(I:AM)(g:AJ2)(f:LO)(h:DV9 o.isSome) :
  E5J .In:=by
 rw[AK9 d d i]
 rw[EJR wpAny_in_of]
 rw[EO8 wpAny_in_heap]
def c3L(j:A6Z)(I:AM)(g:AJ2)(f:LO)(h:DV9 CRS) :
  E5J .NotIn:=by
 rw[AK9 d d i]
 rw[EJR wpAny_notIn_of]
 rw[EO8 wpAny_notIn_heap]
def a8p{t':Nat}{c:HO}(I:AM)(g:Mut (H a))(hs:DJ1)(f:DEJ)(new:DVR (tM c) c) :
  KN (tM c) ADL :=
 B5O a a g PX (E3Q d AMU d) f new
def c0I{qM:KM}{vs:BSX}(z:CB qM.length)(hd:A3E)(b:cO)(dd:h'.DictOf A28 a vs) :
  A3J P w H' a B1W:=⟨z,hd,vs,b,dd⟩
def b5c{Q:A62}(G:A6Z)(I:AM)(g:DPut H a y v H')(x:LO)(w:RelV v r)(h:BXH oQ) :
  mQ (setItem BF u r):=by
 rcases g with⟨qM,k,e,m,l,j⟩|⟨qM,k,b,e,m,p,l,j⟩
 .subst m j;rw[E58 vs c5k vs.length d.length]
  rw[EC7]
  refine wpAny_setItem_pairs (hsz:=o) (a3S x) dd λh' f hs=>ATQ;have F:DEJ:=C4D q i f DAI
  exact a8p I B1Z hs F (c0I n hd (d.put k w) f)
 .subst m j;cases(jZ (B7X b) x);rw[E58 xs c9c xs.length (Paired.length d)]
  rw[EC7]
  refine wpAny_setItem_heap (hsz:=o) (tupleKind_room_in1 G) (a2m I.hok p) dd λh' f hs=>ATQ;obtain⟨q,es,ep,i,h2,B,C,_,D⟩:=f;refine a8p I B1Z hs DAI ⟨n,hd,_,(d.put k p w).keeps λc ys t=>?_,q,es,ep,i,h2,B,C,D⟩;rw[AF (A5 (I9 t e A09)) t]
#where
section
variable {qM:KM}{k:Key}
#where
/---/def c7M(i:Expr):Prop:=∀ov iv,subscripted i false ov iv=operate [ov,iv] (getItem ov iv)
def c1v{env:Env}{value a:Expr}{T id:String}
  (c:E1C) (hs:c7M a)
  (h:KO JM (B0U value) (λo s₁=>dZ (eval a env) (λi s₂=>s₂.TypeIs o T/\dZ (getItem o i) Q E s₂) E s₁)) :
  FH (B0U (.Subscript value a pos)):=by
 refine Subscript_ (A7I h (λo s₁ h₁=>A7I h₁ (A1P s₂ h₂)));obtain⟨b,h₂⟩:=h₂;unfold subscriptTail;rw[bO];rw[getitemInPython_of_ne b.not_modules];rw[BL (wpAny_specialOf b c ?_)];have fin:dZ (subscripted a false o i) (λr s₃=>dZ (letTemporaryGo value o r>>=CO oC) Q E s₃) E s₂:=by
  rw[BO (hs o i) wpAny_operating (A7I h₂ (λr s₃ h₃=>AW6 (A55 wpAny_letTemporaryGo h₃)))]
 first
  |exact D6L
  |rw[A58 D6L]
  |rw[A58 fin]
def b0b(I:AM)(g:AJ2):BTZ a:=by
 rcases g with⟨qM,k,e,_,_⟩|⟨qM,k,b,e,_,_,_⟩
 rw[DLV vs D08]
 rw[DLV xs D09]
/---/def c4b(td ty:TE):TE:=MU td x (QM ty y (AVL v (BJV JZ) (Q v H2)))
/---/def c5y(ty td:TE):TE:=ECL o.isSome
/---/def b2B(ty td:TE):TE:=ECL CRS
/---/def c4x(td ty tv:TE):TS:=xX tv v (QM td x (ty σ H2 λy H3=>AVL H4 (DPut H3 a y v H4) (A8R H4)))
section
variable {o i value:Expr}{pos' tpos:Pos}{td ty tv:TE}
def c2q(j:A70)(f:A71)(hi:B2P)(hs:c7M i):BRO o i DD5:=by
 rw[LC];refine c1v PySem.F.slot_dict_getitem.lookup hs (thn (XS f) λu s1 (TZ x d m k)=>A4J hi d k q p);rw[CR2 y n v];rw[AZ (b0b c g) (b5d j c g n λt r e b=>SI v e b l)]
def b7i(f:A70)(hi:B2P)(e:A71):PC X .In i o DIT:=by
 rw[EPH c9w j.isSome]
def b4j(f:A70)(hi:B2P)(e:A71):PC X .NotIn i o (b2B ty td):=by
 rw[EPH c3L (! j.isSome)]
def c1T(k:A70)(j:A71)(hi:B2P)(l:DF6)(hs:DC9) :
  B31 PS BJD DY1:=by
 rw[UO];refine wpAny_Assign_Subscript (thn (XS l) λr s1 (TZ v c q m)=>thn (A90 j c m) λu s2 (SI x d t n)=>EW (B4I hi d n) B C z) hs;obtain⟨y,A,e,w,a,b,ex,g,p⟩:=z;rw[AA9 t];exact b5c k e g w q λE f=>A2L b f p
#where
def b0a(h:Heap)(a:DKQ):EHY AAI :=
 ⟨FF,E1O,[],.nil,Heap.DictOf.new h⟩
def c0G(h:Heap)(a:DKQ):EHY AQH :=
 ⟨FF,E1O,[],.nil,_,#[],0,IW,DB9,rfl,rfl,List.nodup_nil⟩
/---/def b5X:TE:=D7B .dK
/---/def b5W:TE:=D7B .dT
def b7d:DZW b5X:=λqL s σ H Q I h =>
 EMB (o:=AAI) DHA
def b7c:DZW b5W:=λqL s σ H Q I h =>
 EMB (o:=AQH) (CL3 c0G)
/---/def b0v:yC->St->AA5 CVK
 |[],_,H,Q=>Q [] H
 |bF tk tv,σ,H,Q=>(XN tk x (QM tv y (b0v r σ H2 λps H3=>Q DWM H3)))
abbrev VV:EN (pQ V) D2E:=C2D (RelV DT CS/\DQY)
/---/def PPs(X:Cx)(pos:Pos)(keys:AFW)(values:BH)(trs:yC):Prop :=
 B2Z CVK (nH b0v trs ->
  aY (evalPairs (pairTrees keys values X.env pos)) (λvs s'=>∃ps H',oQ/\VV ps vs/\TH ps))
def c1W:AI5 [] [] []:=pL Q h (pairTrees_nil_walk DUI)
def b6Q{k v:Expr}{ks:AFW}{vs:BH}{tk tv:TE}{trs:yC}(f:DF k tk)(i:DF v tv)(g:AI5 ks vs trs) :
  AI5 A4M A4G E3E:=λqL s σ H Q I h =>
 pairTrees_cons_walk (thn (XS f) λu s1 (TZ x c n j)=>AJA i c j (λq s2 (SI y d o l) =>
  thn (B4I g d l) λr p ⟨ps,b,e,a,m⟩=>⟨DWM,b,e,.cons ⟨n,o⟩ a,m⟩))
/---/def a3k(qM more:KM):KM:=more.foldl (λqR kv=>putK qR A4W kv.2) qM
def KV.merge:∀{more:KM}{rs:BSX}{qM:KM}{vs:BSX},KV more rs->cO->KV (a3k qM more) (merged vs rs):=by
 intro more rs qM vs r;rw[C0B];induction r generalizing qM vs with
 |nil=>intro q;exact q
 |@cons p q ps qs h t a =>
  intro b;have e:KV (putK qM DT QH) (stored vs CS DM):=by
   have:=b.put DT EJ;rw[KP CD this]
  exact a e
def a1R:∀(more qM:KM),MK a3k qM more<=qM.length+more.length
 |[],qM=>VH (qM.length<=qM.length+0) lq 4870571525
 |AZ9,qM=>by
  rw[AD h1 (a1R r E0M) h2 (a1a qM DT QH)];show MK a3k E0M r<=_;rw[BXD 0xaefac0b1f143c834318 h1 h2]
def a5W{P:qH}{w:World}:∀{qM:KM}{e:D2E},VV (qM.map λd=>(kV cT,d.2)) e->∃rs,Carries A28 e rs/\KV qM rs
 |[],_,r=>by rw[AU List.map_nil r r];rw[AV [] True.intro .nil]
 |p::qM,_,r=>by
  rw[AWA r];cases r with
  |@cons a b as bs h t =>
   obtain⟨rs,c,q⟩:=a5W (P:=P) (w:=w) t;obtain⟨g,f⟩:=b;rw[AV ((DT,f)::rs) (CU (a3S CD) c) (.cons (FN EJ) q)]
/---/def c4a(trs:yC):TE:=QY σ (AL2 (b0v trs σ (CM7 .dK) λps H2=>H2 p=CA .dK []/\∃qM:KM,ps=qM.map (λkv=>(kV A4W,kv.2))/\qM.length<=15/\jR (VA H2 p .dK (a3k [] qM))))
def c2p{b:AFW}{d:BH}{trs:yC}(h:AI5 b d trs)(g:EG b.all ((·.isSome)))(n:b.length=d.length)(h0:AXZ)
  (i:b.length<=15):rP .Dict b d DK9:=by
 rw[jQ Q q];rw[AD p (I.hok.fresh (Nat.le_refl s.heap.objs.size)) l (EHA (o:=AAI) (AM9 "dict" .dict #[]) BIY BW DHA)];refine wpAny_Dict_walk (knd:=AVJ) g n h0 i (EW (DSD _ _ l (q _ p)) A s2 y);obtain⟨ps,H2,k,j,e,qM,ep,lk,t⟩:=y;subst ep;obtain⟨rs,c,v⟩:=a5W (P:=X.prog) (w:=X.w) j;obtain⟨z,hd,x,u,dd⟩:=c5k k.hok e;cases u;refine⟨rs,c,dd,λh' f hs=>EO TY _ ?_ t⟩;have r:CB (MK a3k [] qM):=by
  have h1:=a1R qM [];rw[List.length_nil]at h1;rw[AF sizeLine_eq (lq 0x22e45cc7d9b978485a3ff7e71566 lk h1)]
 have m:∃q,BTX q:=C4D q hq f (BG7 hq)
 exact a8p k B1Z hs m (c0I r hd (v.merge .nil) f)
structure M1(X:Cx)(o:Expr)(m:Str)(qO:Pos)(e:Expr)(qN:Pos):Prop where
 base:bV m
 few:HI (B8N aW
  && DR7 aW)
 line:SQ
 trees:backTo qN (UZ aW)=BCJ aN
structure M2(X:Cx)(o:Expr)(m:Str)(qO:Pos)(e f:Expr)(qN:Pos):Prop where
 base:bV m
 few:HI (B8N AHZ
  && DR7 AHZ)
 line:SQ
 trees:backTo qN (UZ AHZ)=CGN aN (QT f)
/---/def IsD(H:Hp)(a:qE):Prop:=(∃qM,BWR)∨∃qM,BWS
def c0s(I:AM)(d:IsD H a) :
  BTZ a/\(∀b,Value.ref a=GG->∃c,CT7 c/\PP c.dict)/\A3E:=by
 rw[DLB d e e]
 rw[EOW vs D08]
 rw[EOW xs D09]
section
variable {d:V}{r:qB}
def c7z(m:A6Z)(I:AM)(g:AJ2)(f:LO)(h:∀i s',AD7->BYH .non i->A11 i) :
  DH2 (A4X u):=by
 rw[AK9 d d j]
 .subst d;rw[AV8];rw[EMQ (meets_dict_get AVJ a CJM hd) DMO]
 .subst d;rw[AVI f];rw[EMQ (meetsH_dict_get DY3 a b hd) ⟨tupleKind_room_in1 m,k,xs,a2m I.hok j,dd,BKW⟩]
def c7y(p:A6Z)(I:AM)(g:AJ2)(j:LO)(i:RelV d r)(h:∀m s',AD7->BYH d m->A11 m) :
  DH2 [BF,u,r]:=by
 rw[AK9 f f n]
 .subst f;rw[AV8];rw[ENS (meets_dict_get_default AVJ a (a3S j) hd r) DMO]
 .subst f;rw[AVI j];rw[ENS (meetsH_dict_get_default DY3 a b hd r) ⟨tupleKind_room_in1 p,k,xs,DO2,dd,BKW⟩]
#where
/---/def b5Z(td ty:TE):TE:=EA0 (∃o,BJV o/\Q (o.getD .non) H2)
/---/def b5Y(td ty tx:TE):TE:=EA0 (tx σ H2 λz H3=>∃o,DGet H3 a y o/\Q (o.getD z) H3)
section
variable {o f:Expr}{qO qN:Pos}{td ty tx:TE}
def b7f(l:A70)(k:A71)(j:D2U)(m:EKX):DF (B6D aW) DD6:=by
 rw[EOR k w q n w];rw[EI8 q t v t v (thn (A90 j c n) λz s2 ⟨y,H2,f,r,A,g,p⟩=>CYT)];exact c7z l f g r λC B i b=>SI _ i b p
def b7e(r:A70)(q:A71)(n:D2U)(p:DF f tx)(m:EL2):DF (B6D AHZ) DY2:=by
 rw[EOR q F A t F];rw[EI8 A D E D E (AJA n c t (λJ s2 (SI y j B v) =>
  Calls.spliced_cons (thn (B4I p j v) λG L ⟨z,i,k,C,K,g,w⟩=>CYT)))]
 exact c7y r k g B C λN M l b=>⟨_,i,l,b,w⟩
#where
section
variable {qM:KM}
#where
#where
universe L2
namespace Att
open PySem PySem.W PySem.Calls PyProof.Rows
section
variable {prog:qH}{w:World}{A:Around}{E:qI}{s:qC}{K:Frag}
#where
universe Att
namespace L2
open PySem PySem.Spec PyProof.Rows
section
#where
section
section
variable {P:qH}{w:World}{K:qF}{mg:BA}{base:Heap}
#where
section
variable {X:Cx}
#where
section
variable {κ:Type}[AIM]
def b5M{qM:NK}{k:κ}(h:E0C):¬DUW:=by
 intro m;rw[D2 p a e List.mem_map.mp m];have q:BYR b WN:=YM List.any_eq_true.mpr p a A5G;rw[a0H,h]at q;rw[FO q AJ]
def c1r{qM:NK}{k:κ}{v:V}(h:ADX=AC v):DUW:=by
 have q:BYR b WN:=by
  rw[a0H,h]
  all_goals rfl
 rw[D2 p a e List.any_eq_true.mp q];exact List.mem_map.mpr ⟨p,a,dD⟩
def b3d:∀{l:qA κ}{k:κ},l.Nodup->¬k∈l->(l++[k]).Nodup
 |[],k,_,_=>AJ
 |a::r,k,h,b=>by
  rw[B29];show(a::(r++[k])).Nodup;rw[CSU ⟨RB m,b3d h2 λm=>b (CS9 Or.inr m)⟩];rw[SC BQP]
  .exact h1 q
  .exact b (CS9 Or.inl (fR List.mem_singleton.mp q))
#where
#where
section
open PySem.W
variable {A:Around}{D:AG4}{E:qI}{O:KeyOrd}{Q:YL qK}{X:Cx}{a ep i j k lo n:Nat}{a0 qP:AR}{d:qE}{es:A5H}{h:Heap}{key x:Keyed}{l rest:LJ}{qS:Bool}{prog:qH}{rss:LLI}{runs:nA}{s:qC}{st st':SortSt}{vs:AQ}{w:World}{α:Type}{κ:SortKind}
section
variable {key:CW3}{N:Nat}{p:AFF}
/---/def kk(key:CW3)(p:AFF)(i:Nat):O.α:=key (p[i]?.getD 0)
/---/def PB(N:Nat)(p:AFF):Prop:=p.Perm (List.toArray (List.range N))
#where
def a0s:∀a:qJ,AO9 a a
 |[]=>rfl
 |EL=>by rw[KK HT.lexLt_cons F1 a0s xs]
def a3v:∀a b c:qJ,CSS->AY DB7->DMI
 |[],[],_,h,_=>ZS
 |F2,[],_,h,_=>ZS
 |_,F2,[],_,h=>ZS
 |[],F2,F2,_,_=>rfl
 |EL,FY,z::zs,h1,h2=>by
  rw[HT.lexLt_cons]at h1 h2⊢;rw[BP e1 x y]
  .rw[cP e1]at h1;rw[BP e2 y z]
   .rw[cP e2]at h2;rw[AF (if_pos (e1.trans e2)) (a3v xs ys zs h1 h2)]
   .rw[CF e2]at h2;rw[DW (MW if_neg e1 e2) e1 h2]
  .rw[CF e1]at h1;have h1:=of_decide_eq_true h1;rw[BP e2 y z]
   .rw[A0I (by rw[KP e2 e1]),<-e2];rw[D3E]
   .rw[CF e2]at h2;have h2:=of_decide_eq_true h2;rw[BO (CF (ADS 0x4657a03a9eed92c3b8e)) decide_eq_true (ADS 0xf8c34121c3b8e)]
def a1x:∀a b:qJ,AO9 a b->DH8->a=b
 |[],[],_,_=>rfl
 |[],F2,h,_=>ZS
 |F2,[],_,h=>ZS
 |EL,FY,h1,h2=>by
  rw[HT.lexLt_cons]at h1 h2;rw[KB x y]
  .rw[DG];rw[F1]at h1 h2;rw[a1x xs ys h1 h2]
  .rw[FZ]at h1;rw[BZ1]at h2;rw[AD h1 (of_decide_eq_false h1) h2 (of_decide_eq_false h2)];omega
def c2Z(a b c:qJ)(h:DMI):CSS∨AY DB7:=by
 cases h1:CKL with
 |true=>rw[B90]
 |false =>
  rw[IR .inr];cases h2:HT.lexLt b a with
  |true=>exact a3v b a c h2 h
  |false=>rw[KP (a1x a b h1 h2) h]
/---/def OL:KeyOrd:=⟨qJ,HT.lexLt,a0s,a3v,c2Z,a1x⟩
/---/def O4(tss:LLI):Prop:=tss.Pairwise λa b=>DH8
/---/def c3a(fin:Bool):DSY
 |[],_=>fin
 |F2,[]=>fin
 |EL,FY=>BK2 (c3a fin xs ys)
def a9A:∀(xs ys:qJ),c3a (VM xs.length ys.length) xs ys=qX HT.lexLt
 |[],[]=>rfl
 |[],FY=>by
  show EG decide (0<ys.length+1);exact decide_eq_true CS2
 |EL,[]=>by
  rw[DO7 (BME<0) (cY 21542613500661)]
 |EL,FY=>by
  rw[HT.lexLt_cons];show MM (x=y) _ _=_;split
  .rw[<-qX a9A];congr 1;simp only[List.length_cons];exact decide_eq_decide.mpr AG
  .rfl
def b4m{c:Bool}{a b:Int}{t u:Tok}{Q:x9}(h:Q (decide (a<b)) s):FH (oneLt' c BJR (A93 b)):=by
 cases c with
 |true=>exact oneLt_int h
 |false=>exact AI kat_one (lt_int h)
def a9D{b fin:Bool}{Q:x9}{a:AQ}{ns ms:qJ}(i:Nat)(h1:A7L)(h2:IntsAre a ms)(h:Q (c3a fin ns ms) s):AKQ KatLex b fin Q (vs.zip a) i s:=by
 induction h1 generalizing a ms i with
 |nil=>exact h
 |cons x t f d=>cases h2 with
  |nil=>exact h
  |cons y u c =>
   rw[List.zip_cons_cons];rw[aM kat_cons wpAny_eqBool_int];have h:Q (BK2 (c3a fin _ _)) s:=h;rw[KB x y]
   .rw[IG]at h;rw[BO (show XO x y from beq_iff_eq.mpr e) kat_yes (d AT c h)]
   .rw[FZ]at h;rw[AF (show AKG x y from beq_eq_false_iff_ne.mpr e) (kat_no (b4m h))]
/---/def TupsAre(h:Heap)(vs:AQ)(rss:LLI):Prop:=EAH qB (∃(r:qJ) (b:qE) (its:DI),BYO/\D46 v/\E6I/\DGO)
def TupsAre.keeps{h':Heap}(t:APB h)(k:CP2 h h'):APB h' :=
 ⟨t.1,λi v e=>EKG r a (t.2 i v e) r a (AI k e3) e4⟩
def a8J{h:Heap}:∀{vs:AQ}{rss:LLI},APB h->BTC->∃fs,KatTups h vs fs/\BLS fs.length/\∀f∈fs,∃n t,f=Value.int n t
 |[],_,_,_=>NV [] trivial KD
 |A4G,[],T,_=>by cases T.1
 |A4G,oM,T,hw=>by
  obtain⟨fs,h1,h2,m⟩:=a8J (vs:=vs) (rss:=rss) ⟨by rw[AAZ T.1],λi u e=>T.2 AT u e⟩ λr d=>hw r CJ5;obtain⟨w,b,a,e1,e2,⟨o,p,q,n,s⟩,g⟩:=T.2 0 v rfl;cases e1;rw[BW0 d hw];obtain⟨x,t,j,k⟩:∃x t j,a.toList=Value.int x t::j:=by
   generalize a.toList=l at g;cases g with
   |nil=>simp at d
   |cons x t h=>rw[CK x t _ rfl]
  refine⟨.int x t::fs,⟨⟨b,o,a,n,e2,p,q,s,?_⟩,h1⟩,JY h2,BB f c⟩
  .rw[<-Array.getElem?_toList,k];rfl
  .rw[CYV c]
   .rw[AV x t rfl]
   .exact m f c
def b3O{Q:PH SortKind}(T:B2F)(hw:B00)(a:CUT)(h:Q (tuples' true) s):FH (CCY keyKind'):=by
 obtain⟨fs,h1,h2,b⟩:=a8J T hw;refine kat_kind (T:=JK "int") h1 (~~~b8t a h2) BT7 rfl ?_
 .obtain⟨n,t,rfl⟩:=b v a;exact .now
 .rw[AF (A51 (HI (AW4 "int" != AW4 "tuple"))) h]
def a0A{a:qE}{out:DI}:zW BOD UJ E9I:=PU c e (by
 unfold sortedHeap;rw[AF (BOZ c) (lH (A2S (BOZ c)))])
def a1O{a:qE}{out:DI}(e:ZO (pZ vs.toArray n)):∃c,aV E9I (pZ out c):=by
 unfold sortedHeap;have f:BTU:=wM;obtain⟨e1,b⟩:∃e1,BKS (D5O get?):=(DX (get?_update_seq e BNZ));have d:DYG (D5O push):=lH b;exact DX (get?_update_seq d (CO out))
def a9M{qL:CV}{σ:St}{H:Hp}(I:AM){ys:AE}{us:AQ}(h:BQ7)(r:A6N):TupsAre s.heap us rss:=by
 rw[EV (BHO CD) BTA];have hi:i<ys.length:=by rw[r.length];exact BPT
 rw[UP e1 e2 (CSB r.get hi)];rw[AU e e1 e1];obtain⟨c,d,a,f,g⟩:=D4Y EJ i hi;rw[AU f e2 e2];obtain⟨b,j,k,_⟩:=E30 g;exact rV c a b.toArray d k (CJ (b1S j))
/---/def V8:Bool->Keyed->AR->Nat->Nat->Nat->AH8:=sortPriv% PySem.Builtin.gallop
/---/def W3(qS:Bool)(key:Keyed)(qP:AR)(base:Nat)(i:Nat):B8K qD Bool:=do
 let x <-elem' qP (base+i)
 if qS then lt' x key else return (<-lt' key x).map (!·)
/---/def c3P(qS:Bool)(key:Keyed)(qP:AR)(base n lo₀ hi₀:Nat):AH8:=do
 let mut lo:=lo₀
 let mut hi:=hi₀
 for _ in [0:n] do
  if lo ≥ hi then break
  let m:=lo+(hi-lo) / 2
  let some more <-W3 qS key qP base m|return none
  if more then lo:=m+1 else hi:=m
 return some hi
def b1V(qS:Bool)(key:Keyed)(qP:AR)(base n a:Nat):EML=(W3 qS key qP base a>>=λr=>match r with
 |AC right=>(if AY right then
   (EJU AP7 (a+OW) (match r with
     |AC more=>(A22 (A4C more) BFJ (gD DP7))
     |_=>B6F) (match F0 with
    |cW=>oC
    |none=>C76 (a+KR+1) (CJX OW)))
  else
   (EJU lE (a-OW) (match r with
     |AC found=>(DI9 found DP7)
     |_=>B6F) (match F0 with
    |cW=>oC
    |none=>C76 (COG OW) (a-KR))))
 |_=>D5Q):=by
 rw[BL0 r];cases r with
 |none=>rfl
 |some right =>
  dsimp only;refine ite_congr rfl lL lL
  .rw[kY (A3M c) c]
   .rfl
   rw[B1S]
  .rw[kY (A3M c) c]
   .rfl
   rw[B1S]
section
/---/def Cmp(prog:qH)(w:World)(A:Around)(s:qC)(κ:SortKind)(D:AG4)(lt:C29):Prop :=
 ∀x y (C:x9),D x->D y->C (lt x y) s->FV JM A (keyLt' κ HH cF) C AHG s
variable {lt:C29}
def a2v{y:Keyed}{Q:ATI}(a:C59)(c:IM)(d:D x)(e:D y)(h:BV5 CXN):GJ (lt' x y):=by
 rw[lt'_eq];rw[nF];rw[c];rw[EH (wpS_lift (wpAny_attempt (D7Q (a x y (λb s'=>s'=s/\b=CXN) d e AYA) (DV b s' ⟨e1,e2⟩))))];rw[e1,e2];rw[AZ rfl (wpS_pure h)]
/---/def c1e(lt:C29)(qS:Bool)(key x:Keyed):Bool:=if qS then lt x key else !(lt key x)
def b0l{base:Nat}{Q:ATI}(b:C59)(c:IM)(a:D key)(d:D x)(e:DQR)(h:BV5 EH6) :
  GJ CLS:=by
 unfold W3;rw[elem'_eq,e];rw[kK wpS_pure];rw[bY c1e];cases qS with
 |true=>exact a2v b c d a h
 |false=>exact wpS_bind (AWL (a2v b c a d) h)
def b2w{base hi:Nat}(a:dH)
  (o:EG3 a) (mono:B70 (EG a j) APH) (neg:B70 BBV (JP a j))
  (h1:lo<=hi) (h2:hi<=n) (u:∀i,i<lo->APH) (v:∀i,hi<=i->LG->BBV)
  (h:E88 APH (BF8 k)):GJ (C76 lo hi):=by
 rw[AEN c3P];rw[EH (ACS (ADW (st'=st/\CHN (l<=r/\r<=n/\r-l<=n-x/\CES/\BF8 r))
  (Q:=sR (st'=st/\∃l,c=XX l l/\l<=n/\CES/\BF8 l))) ⟨rfl,lo,hi,rfl,h1,h2,nS 0x48cb712f83535be31e50b51a678d7d7,u,v⟩)]
 case fin =>
  rintro c st' ⟨rfl,l,r,rfl,m,d,p,f,g⟩;have e:l=r:= ~~~c8T m p
  rw[DG];rw[NG rfl l rfl d f g]
 case step =>
  rintro x c st' _ y ⟨rfl,l,r,rfl,m,d,p,f,g⟩;dsimp only;by_cases b:DLY
  .rw[CJ0];have e:l=r:= ~~~b9w m b
   rw[DG];rw[YA (iY l rfl d f g)]
  .rw[AFN];rw[A5A t (l+DRL<n)]
   rw[AFU (o _ t ?_)];cases q:a (l+DRL)with
   |true =>
    rw[mW F1 (B5K _ r d (gK (mono i _ AG t q)) g)]
   |false =>
    rw[mW KJ (B5K l _ AG f (DUO _ q))]
 case post =>
  rintro c st' ⟨rfl,l,rfl,d,f,g⟩;rw[YA (h l d f g)]
def N1{base:Nat}(C:C59)(G:IM)(y:D key)(d:dH)
  (t:∀i,LG->∃x,DQR/\D x/\EH6=d i) (mono:B70 (AAE j) (AAE i)) (u:a<n)
  (h:E88 (AAE i) ((∀i,k<=i->LG->JP d i))):GJ EML:=by
 have p:EG3 d:=λi hi R hR=>by
  obtain⟨x,e1,e2,B⟩:=t i hi;exact b0l C G y e2 e1 (AH B hR)
 have neg:B70 (JP d i) (JP d j):=λi j z F e=>by
  cases e2:d j with
  |false=>rfl
  |true=>rw[GU (mono i j z F e2)]
 rw[xO b1V (p a u ?_)];cases v:d a with
 |true =>
  rw[EJP F1 (D87 (a+l<n) CEJ
   (Q:=sR (BB7 (a+l<n) CEJ ((o ≥ AP7∨JP d BHI))))) AG]
  case fin =>
   rw[BLL r g m];exact BJI (BI 0xe2a2d1d26169fd227c090346ae87cbc5f r)
  case step =>
   rw[EPN AP7]
   rw[DX1]
   .rw[xO AFN (p _ D3H ?_)];cases t:d BHI with
    |true =>
     rw[EJS D3H]
    |false =>
     rw[mW (if_pos (by rfl)) D8F]
  case post =>
   rw[EO2 (a+l+1) (CJX o) (AX 0x1fe90b5b81c42cadd04f6cf8200cb94aa32c72798 f g) 0xc14f121463995e29557949276d97 (gK (mono i (a+l) (wT 84053650568336151) g m)) C21]
   .omega
   .exact neg BHI i (ADS 0x4c991291fb9ffe4837e90c31cc8d0d8b18b18) h2 q
 |false =>
  rw[EJP KJ (D87 (l<=a) CEK
   (Q:=sR (BB7 (l<=a) CEK ((o ≥ lE∨AAE BHU))))) CS0]
  case fin =>
   rw[BLL r g m];exact BJI (AX 0x17c4bb3a3078b24baf0cf97 u r)
  case step =>
   rw[EPN lE]
   rw[DX1]
   .rw[xO AFN (p _ D92 ?_)];cases t:d BHU with
    |true =>
     rw[mW F1 D8F]
    |false =>
     rw[EJS (wQ 4044305397302)]
  case post =>
   rw[EO2 (COG o) (a-l) (BI 0xa7913af410859b2f3fddb2bcda36c21cc55aeaffdb97 f) 0x5836850d16cd7d22d97 DF0 (DUO (a-l) m)]
   .omega
   .exact mono i BHU (wT 0x12b267fc7e05e39232a97a3fd808fd17a32b79652d0bd7) D92 q
#where
section
variable {kf:DD}{la lb o:LJ}{ia ib:Nat}
/---/def leK(kf:DD)(x y:Keyed):Prop:=DR2 O.kle
/---/def ltK(kf:DD)(x y:Keyed):Bool:=DR2 O.blt
structure MS(kf:DD)(la lb o:LJ)(ia ib:Nat):Prop where
 perm:o.Perm (la.take ia++lb.take ib)
 sorted:BQB
 ra:AXV o vW
 rb:AXV o ADR
def a1E{l:DC}{x:α}(h:wZ):l.drop i=x::l.drop AT:=by
 rw[OM hi CV4];rw[List.drop_eq_getElem_cons hi,e]
def a0J(hs:AGH)(h:wZ):A1K (l.drop AT):=by
 rw[OA (hs.drop (i:=i)) (a1E h)];exact(List.pairwise_cons.mp this).1
def a0d{l:DC}{x:α}(h:wZ):l.take AT=BOR++[x]:=by
 rw[BOJ h]
def MS.stepA(h:yS)(hs:xC)(e:D9I)(c:D38):DBP OJ ib:=by
 rw[FQ d (x∈vW) AX5 List.mem_cons_self]
 rw[EA9]
 .rw[AFC];have:=h.perm.append_right RW;rw[IR this.trans];rw[DW List.append_assoc List.append_assoc (AAU List.perm_append_comm)]
 .rw[ABQ];rw[AV h.sorted (BR List.pairwise_singleton) (λz b y a=>AH A2W (h.ra z b x d))]
 .rw[FQ hy' (y∈vW) AX5 AB7]
  rw[SC BGT]
  .exact h.ra z q y hy'
  rw[DNO DJM]
 .rw[SC BGT]
  .exact h.rb z q y a
  rw[DNO (c y a)]
def MS.swap(h:yS):MS kf lb la o ib ia:=EGQ
def MS.stepB(h:yS)(hs:xD)(e:bK lb ib)(a:D37):DBP ia ML :=
 EF8
def MS.bulkA(hs:xC):∀(k:Nat) {o:LJ}{ia:Nat},yS->ZF<=la.length->(∀i x,i<k->ATR (ia+i)->D38)->DWU la.drop ia ZF ib
 |0,o,ia,h,_,_=>CYU List.take_zero h
 |DA,o,ia,h,c,b=>by
  obtain⟨x,a⟩:∃x,D9I:=(DX (LZ (AXE 0x16f807a4edb4615d7)));rw[AD h1 (h.stepA hs a (b 0 x CS2 a)) h2 (MS.bulkA hs k h1 (AXE 0x22a8bcca752f15d7) λi y hi e=>b AT y (wT 4408654223766) (by rw[<-e];congr 1;exact b9E))];rw[a1E a,List.take_succ_cons];rw[List.append_assoc]at h2;rw[AF (show ia+AWJ=OJ+k by exact b9E) h2]
def MS.bulkB(hs:xD)(h:yS)(b:ib+k<=lb.length)(a:∀i x,i<k->bK lb (ib+i)->D37):DWU lb.drop ib ia (ib+k) :=
 (MS.bulkA hs k h.swap b a).swap
/---/def a3G(kf:DD)(la lb o:LJ):Prop:=o.Perm (la++lb)/\BQB
def MS.done(h:yS)(hs:xC)(b:ib=lb.length):B6T o vW ADR:=by
 subst b;rw[E1Z List.drop_length List.append_nil List.take_length]
 .refine GI a.append_right _ ?_;rw[List.append_assoc];rw[E8I]
 rw[DI4 h.ra]
def MS.lastA(h:yS)(a:xC)(hs:xD)(c:NY ADR (B3T vW)):B6T o ADR vW:=by
 rw[RQ ?_]
 .have hp:=CSC (h.perm.append_right (lb.drop ib)) (la.drop ia);rw[IR hp.trans];rw[DEN ia,List.take_append_drop,List.append_assoc];rw[E8I]
 .rw[EE8 a.drop]
  rw[DI4 h.rb]
  .rw[D13]
   rw[B6C h.ra]
   rw[B6C c]
#where
/---/def a5u:E2L:=sortPriv% PySem.Builtin.mergeLo
/---/def a1t(g:Nat):D11:=modify λs=>C42 AFZ CZ0 g
/---/def V0(a b out:AR)(ia ib:Nat):AR:=out++E2E++E2F
/---/def a2l(a b out:AR)(ia ib:Nat):AR:=out++E2F++E2E
abbrev T1:Type:=B68×AR×Nat×AII
abbrev T2:Type:=B68×AR×Nat×Nat×AII
/---/def loD(a b out:AR)(ia ib mg k k1:Nat):BTF :=
 oZ ia (λx =>
 if DIE then AHM E13 LI OJ ib
 else if E50 then AHM none LI OJ ib
 else E4W LI OJ ib)
/---/def loC(a b out:AR)(ia ib mg k bc:Nat):BTF :=
 A32 ib>>=λy =>
 if DFL then EEM
 else oZ ia (FE (V8 true x b ML (b.size-(ib+1)) 0>>=λr =>
  match r with
  |AC k1=>(if k1 > 0 then
    (if CJE A3L then AHM (BD3 C6E A3L) C6E ia A3L
    else C35 C6E A3L)
   else C35 MR ML)
  |_=>EEM))
/---/def loB(a b out:AR)(ia ib mg ac bc:Nat):BTF :=
 E5M D56 ia (a.size-ia) 0 (λr =>
 match r with
 |AMG=>(if k > 0 then
   (if BH3 (ZF+1) then E6T (fI a2l AVV ZF ib)
   else if BH3 ZF then E6T (fI V0 AVV ZF ib)
   else loC a b AVV ZF ib mg k bc)
  else EEZ)
 |_=>JV (DUM,out,ia,ib,mg,ac,bc))
/---/def loA(a b out:AR)(ia ib ac bc mg:Nat):A1J T1 :=
 D56>>=λy=>oZ ia (DBA (λr =>
 match r with
 |AC bWins=>(if AY bWins then A32 ib>>=λy =>
   (if DFL then JV (CO4,MR,ia,ML,0,AAV)
   else if DAK then DX9 MR ia ML
   else DY8 MR ia ML)
  else oZ ia (λx =>
   (if DIE then JV (E13,LI,OJ,ib,AAW,0)
   else if DAL then DXA LI OJ ib
   else DY9 LI OJ ib)))
 |_=>JV (DUM,out,ia,ib,ac,bc)))
def a9q(a b:AR):a5u a b=(do
 rule "list.sort.merge-lo"
 let y <-elem' b 0
 if (1==b.size)=true then pure (V0 a b #[y] 0 1)
 else if (0+1==a.size)=true then pure (a2l a b #[y] 0 1)
 else do
  let g <-get
  let r <-forIn [:a.size+b.size] ((none,#[y],0,1,gallopOf g):qD (Array Keyed)×Array Keyed×Nat×Nat×Nat) λ_ c=>do
   let r <-forIn [:a.size+b.size] ((none,c.2.1,c.2.2.1,c.2.2.2.1,0,0):T1) λ_ d=>loA a b d.2.1 d.2.2.1 d.2.2.2.1 d.2.2.2.2.1 d.2.2.2.2.2 c.2.2.2.2
   match r.1 with
   |some q=>pure (ForInStep.done (some q,r.2.1,r.2.2.1,r.2.2.2.1,c.2.2.2.2))
   |none=>do
    rule "list.sort.gallop"
    let t <-forIn [:a.size+b.size] ((none,r.2.1,r.2.2.1,r.2.2.2.1,c.2.2.2.2+1,r.2.2.2.2.1,r.2.2.2.2.2):T2) λ_ d =>
     if d.2.2.2.2.1 > 1 then loB a b d.2.1 d.2.2.1 d.2.2.2.1 (d.2.2.2.2.1-1) d.2.2.2.2.2.1 d.2.2.2.2.2.2 else loB a b d.2.1 d.2.2.1 d.2.2.2.1 d.2.2.2.2.1 d.2.2.2.2.2.1 d.2.2.2.2.2.2
    match t.1 with
    |some q=>pure (ForInStep.done (some q,t.2.1,t.2.2.1,t.2.2.2.1,t.2.2.2.2.1))
    |none=>do
     a1t (t.2.2.2.2.1+1)
     pure (ForInStep.yield (none,t.2.1,t.2.2.1,t.2.2.2.1,t.2.2.2.2.1+1))
  match r.1 with
  |some q=>pure q
  |none=>unsupported "internal:list.sort.merge-bound"):=by
 rw[EN4]
 .rw[kY (A3M d) r]
  .rfl
  .rw[B5N]
   .rw[DHW]
    .rfl
    rw[AN5 r r]
   .rfl
 .rw[B5N]
  .dsimp only
  .rfl
def a4D(a:BN9)(i:Nat):AEX a.extract i a.size=a.toList.drop i:=by
 rw[DH3];rw[<-Array.length_toList,List.take_length]
def a5Q(a:BN9)(i k:Nat):AEX a.extract i (i+k)=bE a.toList.drop i k:=by
 rw[CKS List.extract_eq_drop_take]
def a9Y(a b out:AR)(ia ib:Nat):E8Y V0 BSR BTM:=by
 rw[EDW V0]
def a9C(a b out:AR)(ia ib:Nat):E8Y a2l BTM BSR:=by
 rw[EDW a2l]
section
variable {kf:DD}{a b out:AR}{ia ib:Nat}
/---/def Good(st st':SortSt):Prop:=DPQ/\arrOf st'=IS/\DXL/\DXM
structure Two(D:AG4)(kf:DD)(a b:AR):Prop where
 da:E94 a
 db:E94 b
 sa:XZ a.toList.Pairwise
 sb:XZ b.toList.Pairwise
 last:NY b.toList (∀x,bK a WV->BMI)
def a0v{z:Keyed}(hs:AGH)(e:wZ)(h:DOL):zX (l.drop i) z y:=λy a=>by
 rw[AX5]at a;rw[oX]
 .exact h
 rw[ADA h DJM]
/---/def MI(kf:DD)(a b out:AR)(ia ib:Nat):Prop:=C5G/\OJ<a.size/\ib<b.size
/---/def F4(kf:DD)(a b r:AR):Prop:=a3G kf a.toList b.toList r.toList
def a1y(T:SX)(h:C5G)(hi:OJ=a.size):DYB a2l:=by
 rw[ECC a9C h.lastA e d];rw[FQ c (ia<a.toList.length) Array.length_toList (lq 899327150885942 hi)]
 rw[List.drop_eq_getElem_cons c,BJT List.drop_eq_nil_of_le Array.length_toList 0x5a832735f95836,List.mem_singleton]at d;refine KeyOrd.kle_of_klt (T.last y (List.mem_of_mem_drop e) x ?_);rw[d,dJ WV ia 0x1e85ad268dcc537cb72223fca7836 hi,<-Array.getElem?_toList,LZ c]
def a1F(T:SX)(h:C5G)(hi:AS0 ib):DYB V0:=by
 unfold F4;rw[AF a9Y (h.done T.sa (AF3 Array.length_toList))]
def C2(hi:i<qP.size){Q:YL Keyed}(h:∀x,OZ qP->OZ qP.toList->Q x st):GJ (elem' qP i):=by
 rw[elem'_eq];have e:DJ qP qP[i]:=DOP qP;rw[mW e (h _ e (A2S Array.getElem?_toList))]
/---/def P2(kf:DD)(st:SortSt)(a b:AR)(c0:Nat)(c:T2)(st':SortSt):Prop:=EFM
/---/def Y2(kf:DD)(st:SortSt)(a b:AR)(c0:Nat)(c:T2)(st':SortSt):Prop:=DDR
/---/def R2'(kf:DD)(st:SortSt)(a b:AR)(c0:Nat)(r:ACX T2)(st':SortSt):Prop:=B7C P2 Y2
variable {c0 mg k1 bc ac:Nat}
def b2p(T:SX)(g:RK)(h:B5J)(i:DH1 ia (A1K BTM))(c:B30):BWT (C35 out ib):=by
 unfold loD;rw[EH (C2 (by rw[A2Q SE a5y]) λx e1 e2=>?_)];rw[EF1 (CD).stepA i Array.toList_push]
 rw[A7H a1y d]
 .rw[E79 f ⟨d,by rw[SD SE 0x250058bd41fe53debd365014abc03f6 e],AF1⟩]
  rw[A6V f (VH D80 b8F c)]
  rw[A6U f (VH D80 b8F c)]
def gdK(a:AR)(hi:i<a.size):AFI a a.getD:=by
 rw[Array.getD_eq_getD_getElem?,DOP a];rfl
def a1w(hs:AGH){y:Keyed}(b:rR)(ex:wZ)(a:MA l y):XR x y:=by
 rw[B3O]
 .rw[DG];rw[AU ex a a];rw[oE]
 .refine a0J hs ex y ?_;have:GK ((l.drop AT)) (j-(AT)) y:=by rw[List.getElem?_drop,<-a];congr 1;rw[D4 0x163f80474bddf74183d66a7707c48b37893a8dbbd6 b e]
  exact List.mem_of_getElem? this
def b2q(T:SX)(t:IN)(F:IM)(g:RK)(h:B5J)(G:B5G ib (B3T BSR))(n:B30):BWT EEZ:=by
 unfold loC;rw[UP l c h];rw[A3K c];have p:=u.stepB T.sb e2 (G y e2);rw[vG Array.toList_push p]
 rw[A7H a1F p]
 .rw[B4P D8K];rw[B6I (~~~a5y l)];rw[nV (AEC (N1 t (ATJ F) B2O (DG0 (ML+i))) DR4 (AI T.db DR4) o B C (nT 0x24ffb9f21f587ded6a925544bb35996 c)) k1 q H I]
  .rw[EC6 (i:=ML+i) (j:=ML+j) (BI 0x20a831c11401f5d7 o) C]
   rw[B4H (AX 0x14b61b69134b284fbaf45fa0d8d8 o B)]
   rw[B4H (~~~b7O B)]
  .dsimp only;have f:∀(d:Nat),d=ML+k1->d<b.size->∀x',AX1 ia x'->zX (b.toList.drop d) x' y:=λd e1 e2 x' ex'=>by
    rw[AU f2 ex' ex'];rw[A68 r (A24 d (b.getD d TU)) (gH e2)]
    rw[EC a0v T.sb r];have:=I k1 BW (AX 0x3573da4e8baea0a11cd3a2c8bb0fd8 e1 e2);rw[<-e1]at this;rw[MZ]
   split
   .have hbk:=MS.bulkB T.sb (k:=k1) p (BUF 0xdeebf96bdec48cd6f0f702cc397 c q) λi z hi v=>by
     rw[EC a0v T.sa f2];have:=H i hi;rw[AZG (gH (AX 0x3020d489f603c7239b7d29faaaa18 q hi)) v v];exact KeyOrd.kle_of_klt this
    rw[E82]
    .rename_i m;rw[A1A (A9N a1F hbk m)]
    .rw[AE1 m m (AS0 A3L) m];exact b2p T g ⟨hbk,l,EBI⟩ (f _ rfl EBI) (BI 0x14135f7e47eb60c261b318 n)
   .exact b2p T g ⟨p,l,DU6⟩ (f _ AG DU6) (~~~b7Z n)
def a0b{Q:AZK}(h:∀a,DPD->Q () a):pV CJ4 Q st':=by
 unfold a1t;exact wpS_modify (h _ CNI)
def Good.trans{st st' a:SortSt}(h:RK)(h2:DPD):B7U a:=⟨DQ0,DQ1,DWT,MQ (A20 h2) BTV⟩
def b2r(T:SX)(m:IN)(B:IM)(g:RK)(h:B5J)(q:B30):BWT (loB a b out ia ib mg ac bc):=by
 unfold loB;rw[AWB t c n];rw[DY4 N L L];rw[A3K n];rw[nV (AEC (N1 m D9E B1Y (DG1 (ia+i))) DRD (BCA DRD) r J I (AXE 0x111f92d7d95bab336)) k O K M]
 .have hle:XR (BF1 (ia+j)) y:=by
   rw[C37 I I]
  rw[EKO (i:=ia+i) (j:=ia+j) (~~~a7X r) (AX 0x6c34cde64573c518f124b58d8 r J) (~~~a9w J)]
 .dsimp only;have o:AY (CKU WV):=T.last y (A0P e2) _ (gN (AXE 0x7b192cbd0df46fcd1736));have d:ia+k<a.size:=by
   rw[CXM v];have:=K (WV-ia) (AX 0x860be3fb038943a8225a50927759898b1a3737 c v);rw[YK (dJ (ia+(WV-ia)) WV 0x165c41e36538380c7f01c51b82b3800ce784d15862bfdf04c63a204fd00275d69b08359ffab36 c) o this this]
  have f:∀l,l=ZF->∀C,A24 ib C->AB6 (a.toList.drop l) C x:=λl e C G=>by
   rw[AU e2 G G];rw[A68 u (AX1 l (a.getD l TU)) (gN (nT 0xd76c3fb776eb60f338998 d))]
   rw[EC a0v T.sa u];have:=M k BW (BI 0x111f92d830307e997 d);rw[<-e]at this;rw[IR KeyOrd.kle_of_klt];rw[DLJ]
  split
  .have hbk:=MS.bulkA T.sa k t (A6H Array.length_toList 0xb513880cd1997 d) λi z hi H=>by
    rw[EC a0v T.sb e2];have:=K i hi;rw[AZG (gN (AX 0x424b2ebcea1c84998 d hi)) H H];rw[BFG];rw[BKK]
   rw[E82]
   .rename_i p;rw[A1A (A9N a1y hbk p)]
   .rw[AE1 p p (BJK ZF) p];split
    rw[E26 F F F]
    .exact EDY ⟨hbk,AX 0x1524c619ee95c4cd99acfcf8291997 d p,n⟩ CXB (BI 0xb78c8db95f67d46eb318 q)
  .exact EDY ⟨t,c,n⟩ D64 q
/---/def P1(kf:DD)(st:SortSt)(a b:AR)(c0:Nat)(c:T1)(st':SortSt):Prop:=EFM
/---/def Y1(kf:DD)(st:SortSt)(a b:AR)(c0:Nat)(c:T1)(st':SortSt):Prop:=DDR
/---/def R1'(kf:DD)(st:SortSt)(a b:AR)(c0:Nat)(r:ACX T1)(st':SortSt):Prop:=B7C P1 Y1
def c1o(T:SX)(n:IN)(p:IM)(g:RK)(h:B5J)(d:B30):E66 loA out ia ib R1':=by
 unfold loA;rw[AWB k f i];rw[A3K i];rw[B6I DEY];rw[kK (a2v n (CYF p) B1Y B2O)];dsimp only;cases o:BEV with
 |true =>
  rw[F1];rw[EH (JL C2 i q m c)];rw[AU e2 c c];have j:=k.stepB T.sb e2 (CD6 a0v T.sa f2 o);rw[vG Array.toList_push j]
  rw[A7H a1F j]
  .rw[AED D8K l (ALY MR ia ML) (A2M f (~~~b8A i e))]
   rw[A6V l EE2]
   rw[A6U l EE2]
 |false =>
  rw[E8Q KJ DEY m];have j:=k.stepA T.sa f2 (a0v T.sb e2 o);rw[vG Array.toList_push j]
  rw[A7H a1y j]
  .rw[E79 l (A2M (nT 0x25005aad589e96bc586cbbe21818b36 f) i)]
   rw[A6V l EE1]
   rw[A6U l EE1]
def Y6{n:String}{Q:AZK}(h:Q () st):GJ (CMR n:D11):=wpS_lift (wpAny_rule BOM)
def a8D(T:SX)(i:IN)(n:IM)(F:CUV)(t:BNV)(h0:B5G 0 (B3T a.toList)){Q:CZ9}
  (q:EJI):CYZ a5u:=by
 rw[a9q];rw[ADM];rw[A3K t];have j:lY MS (DOE toList) 0 1:=by
  have z:lY MS [] 0 0:=⟨.nil,.nil,(B4F),B4F⟩;exact z.stepB T.sb e2 (λx o=>h0 y e2 x o)
 rw[E7Z]
 .rw[kH];rw[BZE a1F e]
 .rw[B4P (AS0 1)];split
  .rename_i e';rw[BZE a1y e']
  .rw[EIK (BJK 0) (ADW (CHG fK)
    (Q:=sR CE5)) ⟨j,by show 0+1<a.size;rw[D4 0x3f1f6b07edf61984563a2ea45d F e'],by show 1<b.size;rw[D4 0x149c8b704bc056e6ad5e745d t e]⟩ BW]
   case post =>
    rw[ELD K L]
   case fin =>
    rintro c st' ⟨g,e1,⟨_,h1,h2⟩,C⟩;exfalso;exact lq 0x1863c7cac5158f189d885fb29b560 C h1 h2
   case step =>
    rw[EIL H o p (CGK Y1) P1 (w5 (CC9 0<=aX+kI) 0x5e2362d1faf50e18db491d9537 p)]
    case f1 =>
     rw[B7H (ANC 0x13c41450789e9987774adb889ce6bbf48a761e56f5450ed40cf19 o)]
    case s1 =>
     rw[B7E G];rw[ART (c1o T i n g h1 (c0:=fK) (nS 0x1fe6b2dfefbfa086a0948cda138938))];cases r with
     |done c'=>exact f
     | «yield» c'=>rw[EC8 0x372c8bd72f0bef767af54a945aec3f8]
    case p1 =>
     rw[EFO]
     rw[B6J]
     .rw[EL4 (CEU Y2) P2]
      case f2 =>
       rw[B7H h2]
      case s2 =>
       rw[B7E G];split
       rw[EN2]
       rw[EN2]
      case p2 =>
       rw[EFO]
       rw[B6J]
       rw[DRX J B (g.trans B)]
#where
section
variable {kf:DD}{la lb o:LJ}{na nb:Nat}
structure MH(kf:DD)(la lb o:LJ)(na nb:Nat):Prop where
 perm:o.Perm (la.drop na++lb.drop nb)
 sorted:BQB
 ra:AXV AUB o
 rb:AXV ADQ o
def a3N(hs:AGH)(h:wZ):AR8 BOR:=λy a=>by
 rw[AEZ (hs.take (i:=AT)) (a0d h) List.pairwise_append];exact BGK y a x AWZ
def MH.stepA(h:AUL (na+1))(hs:xC)(e:ATR na)(c:D81):E0O:=by
 rw[FQ d (x∈la.take (na+1)) AFC (WD AWZ)]
 rw[EA9]
 .rw[KK AX5 List.cons_append h.perm.cons x]
 .rw[List.pairwise_cons];rw[AZ (λy a=>h.ra x d y a) h.sorted]
 .rw[oX]
  .exact a3N hs e z b
  .exact h.ra z (AH AFC (hZ b)) y a
 .rw[oX]
  .exact c z b
  .exact h.rb z b y a
def MH.swap(h:D9S):MH kf lb la o nb na:=EGQ
def MH.stepB(h:fF MH o na (nb+1))(hs:xD)(e:bK lb nb)(a:D82):E0O:=EF8
def MH.bulkA(hs:xC){a:Nat}:∀(k:Nat) {o:LJ},AUL cK->cK<=la.length->(∀i x,a<=i->i<cK->OZ la->D81)->fF MH (DW1 la.take) a nb
 |0,o,h,b,_=>by
  rw[Nat.add_zero,CYS List.length_take b9K,List.nil_append];exact h
 |DA,o,h,b,d=>by
  obtain⟨x,c⟩:∃x,ATR cK:=(DX (LZ (wQ 97488289198839255)));rw[AD h1 (MH.stepA (na:=cK) h hs c (d _ x (~~~a3p) (cY 4205330760598) c)) h2 (MH.bulkA hs k h1 (wQ 89194779731367383) λi y h1 h2 e=>d i y h1 (nS 92315819697524503) e)];rw[DZS (a+AWJ) cK,a0d c,MW List.drop_append_of_le_length List.length_take (lq 0x149cc8f76c2794243ff015d7 b),List.append_assoc];exact h2
def MH.bulkB(hs:xD)(h:fF MH o na cK)(c:cK<=lb.length)(b:∀i x,a<=i->i<cK->OZ lb->D82):fF MH (DW1 lb.take) na a :=
 (MH.bulkA hs k h.swap c b).swap
def MH.done(h:AUL 0)(hs:xD):B6T (la.take 0) ADQ o:=by
 rw[E1Z List.take_zero List.nil_append List.drop_zero]
 .rw[BJ6 a];rw[<-List.append_assoc];refine sO (CSK List.perm_append_comm) ?_;rw[List.append_assoc,List.take_append_drop]
 .rw[ABQ];rw[AV hs.take h.sorted h.rb]
def MH.firstB(h:D9S)(a:xC)(hs:xD)(c:NY ADQ (B3T AUB)):B6T ADQ AUB o:=by
 rw[RQ ?_]
 .rw[BJ6 h.perm];rw[List.append_assoc,<-DEN na,List.take_append_drop];rw[IR List.perm_append_comm.trans];rw[List.append_assoc];refine AAU (List.perm_append_comm.trans ?_);rw[List.take_append_drop]
 .rw[EE8 h.sorted]
  .rw[ABQ];rw[AV hs.take a.take c]
  .rw[D13]
   rw[B6C h.rb]
   rw[B6C h.ra]
#where
/---/def a5v:E2L:=sortPriv% PySem.Builtin.mergeHi
/---/def V1(a b out:AR)(na nb:Nat):AR:=a.extract 0 na++b.extract 0 nb++out.reverse
/---/def a0x(a b out:AR)(na nb:Nat):AR:=b.extract 0 nb++a.extract 0 na++out.reverse
abbrev U1:Type:=B68×Nat×Nat×BAS AR
abbrev U2:Type:=B68×Nat×Nat×AR×AII
/---/def hiD(a b:AR)(na nb:Nat)(out:AR)(mg k k1:Nat):BTE :=
 oZ LH (λx =>
 if D6B then AHM (AIT LI LH) LH nb LI
 else if E50 then AHM none LH nb LI
 else E4W LH nb LI)
/---/def hiC(a b:AR)(na nb:Nat)(out:AR)(mg k bc:Nat):BTE :=
 A32 IX>>=λy =>
 if DFK then E6S E14
 else oZ LH (FE (V8 true x b 0 IX (IX-1)>>=λr =>
  match r with
  |CSE=>(if BEU > 0 then
    (if XO at_ 1 then EDH (fI a0x AVP na at_)
    else if D6A then EDH (fI V1 AVP na at_)
    else DIJ at_ AVP)
   else DIJ IX MR)
  |_=>E6S (fI V1 MR na IX)))
/---/def hiB(a b:AR)(na nb:Nat)(out:AR)(mg ac bc:Nat):BTE :=
 E5M D57 0 na LH (λr =>
 match r with
 |CSE=>(if BIG > 0 then
   (if D6A then JV (AIT C55 at_,at_,nb,C55,mg,BIG,bc)
   else E0Q at_ C55)
  else E0Q na out)
 |_=>JV (AIT out na,na,nb,out,mg,ac,bc))
/---/def hiA(a b:AR)(na nb:Nat)(out:AR)(ac bc mg:Nat):A1J U1 :=
 D57>>=λy=>oZ LH (DBA (λr =>
 match r with
 |AC aWins=>(if AY aWins then oZ LH (λx =>
   (if D6B then JV (AIT LI LH,LH,nb,LI,AAW,0)
   else if DAL then DXA LH nb LI
   else DY9 LH nb LI))
  else A32 IX>>=λy =>
   (if DFK then JV (E14,na,IX,MR,0,AAV)
   else if DAK then DX9 na IX MR
   else DY8 na IX MR))
 |_=>JV (AIT out na,na,nb,out,ac,bc)))
def a9r(a b:AR):a5v a b=(do
 rule "list.sort.merge-hi"
 let y <-elem' a (a.size-1)
 if (a.size-1==0)=true then pure (V1 a b #[y] (a.size-1) b.size)
 else if (b.size==1)=true then pure (a0x a b #[y] (a.size-1) b.size)
 else do
  let g <-get
  let r <-forIn [:a.size+b.size] ((none,a.size-1,b.size,#[y],gallopOf g):qD (Array Keyed)×Nat×Nat×Array Keyed×Nat) λ_ c=>do
   let r <-forIn [:a.size+b.size] ((none,c.2.1,c.2.2.1,c.2.2.2.1,0,0):U1) λ_ d=>hiA a b d.2.1 d.2.2.1 d.2.2.2.1 d.2.2.2.2.1 d.2.2.2.2.2 c.2.2.2.2
   match r.1 with
   |some q=>pure (ForInStep.done (some q,r.2.1,r.2.2.1,r.2.2.2.1,c.2.2.2.2))
   |none=>do
    rule "list.sort.gallop"
    let t <-forIn [:a.size+b.size] ((none,r.2.1,r.2.2.1,r.2.2.2.1,c.2.2.2.2+1,r.2.2.2.2.1,r.2.2.2.2.2):U2) λ_ d =>
     if d.2.2.2.2.1 > 1 then hiB a b d.2.1 d.2.2.1 d.2.2.2.1 (d.2.2.2.2.1-1) d.2.2.2.2.2.1 d.2.2.2.2.2.2 else hiB a b d.2.1 d.2.2.1 d.2.2.2.1 d.2.2.2.2.1 d.2.2.2.2.2.1 d.2.2.2.2.2.2
    match t.1 with
    |some q=>pure (ForInStep.done (some q,t.2.1,t.2.2.1,t.2.2.2.1,t.2.2.2.2.1))
    |none=>do
     a1t (t.2.2.2.2.1+1)
     pure (ForInStep.yield (none,t.2.1,t.2.2.1,t.2.2.2.1,t.2.2.2.2.1+1))
  match r.1 with
  |some q=>pure q
  |none=>unsupported "internal:list.sort.merge-bound"):=by
 rw[EN4]
 .rw[kY (A3M d) r]
  .rfl
  .rw[B5N]
   .rw[DHW]
    .rfl
    rw[AN5 r r]
   .rfl
 .rw[B5N]
  .dsimp only
  .rfl
def a3E(a:BN9)(i n:Nat):DQF toList=(a.toList.take n).drop i:=by
 rw[DH3]
def a9Z(a b out:AR)(na nb:Nat):E8Z V1 BTT BTL:=by
 rw[EMH V1]
def a8n(a b out:AR)(na nb:Nat):E8Z a0x BTL BTT:=by
 rw[EMH a0x]
def a2F(out:AR)(x:Keyed):(out.push x).toList.reverse=x::out.toList.reverse:=by
 rw[Array.toList_push,List.reverse_append];rfl
def b3G(out a:AR)(i n:Nat):(out++DQF reverse).toList.reverse=(a.toList.take n).drop i++out.toList.reverse:=by
 rw[Array.toList_append,List.reverse_append,Array.toList_reverse,List.reverse_reverse,a3E]
section
variable {kf:DD}{a b out:AR}{na nb:Nat}
/---/def a7h(kf:DD)(a b:AR):Prop:=B5G 0 (EQ a.toList BMI)
def a0t{z:Keyed}(hs:AGH)(e:wZ)(h:DBB):zX (l.take AT) y z:=λy a=>by
 rw[AFC]at a;rw[BXV]
 rw[ADA (a3N hs e y a) h]
 .rw[AF A2W h]
/---/def MJ(kf:DD)(a b out:AR)(na nb:Nat):Prop:=C3V/\1<=na/\2<=nb/\na<=a.size/\nb<=b.size
def a1G(T:SX)(h:C3V)(hi:na=0):DYC V1:=by
 subst hi;rw[AEO F4 a9Z h.done T.sb]
def a0w(T:SX)(F:AJT)(h:C3V)(hi:nb=1)(d:BNV):DYC a0x:=by
 subst hi;rw[ECC a8n h.firstB c f];rw[A68 e (A24 0 DPX) (gH d)]
 rw[AFC,List.take_zero,List.nil_append,List.mem_singleton]at c;rw[BO c KeyOrd.kle_of_klt (F _ e x (List.mem_of_mem_take f))]
/---/def P4(kf:DD)(st:SortSt)(a b:AR)(c0:Nat)(c:U2)(st':SortSt):Prop:=EFN
/---/def Y4(kf:DD)(st:SortSt)(a b:AR)(c0:Nat)(c:U2)(st':SortSt):Prop:=DDS
/---/def R4(kf:DD)(st:SortSt)(a b:AR)(c0:Nat)(r:ACX U2)(st':SortSt):Prop:=B7C P4 Y4
variable {c0 mg k1 bc ac:Nat}
def b2s(T:SX)(g:RK)(h:B5R)(l:DH1 LH (AR8 BTL))(c:B74):BWU (hiD a b na nb out mg k k1):=by
 rw[B61 hiD f i m];rw[EH (JL C2 (DMS i) x e1 e2)];rw[EAX];rw[E2B l];rw[EF1 f.stepA l a2F]
 rw[A7H a1G d]
 .rw[AED (n=0) j (A9B LI n nb) (C4C d e (AX2 i) m)]
  rw[A6V j (VH DNV b9s c)]
  rw[A6U j (VH DNV b9s c)]
def b2t(T:SX)(F:AJT)(H:IN)(U:IM)(g:RK)(h:B5R)(O:B5G IX (AB6 BTT x y))(t:B74):BWU (hiC a b na nb out mg k bc):=by
 rw[B61 hiC J C d];rw[C2F d];rw[EI6];rw[E2B O];have v:=J.stepB T.sb e2 (O y e2);rw[vG a2F v]
 rw[DPW v BUI]
 .rw[B4P (m=1)];rw[B6I (DMS C)];rw[nV (AEC (N1 H (ATJ U) B2O (DG0 (0+i))) DR5 (AI T.db DR5) u o S (nS 0x5bc2574b0e696d8c3d7d)) c L W Q]
  .rw[EC6 (i:=0+i) (j:=0+j) (~~~b8B u) S]
   rw[B4H (~~~lq 0x16235fda71aa69d5a6238 d u o)]
   rw[B4H (~~~b1B d o)]
  .dsimp only;have p:1<=c:=by
    rw[VL Nat.pos_of_ne_zero z];have:=Q 0 (BI 0x597588f4813525 z) (nS 0x705c58315d7d);have R:=F DPX (BDX (gH BUI)) x (A0P f2);rw[TD Nat.zero_add];rw[AU R this this]
   have f:∀x',AX1 LH x'->∀l,l=c->zX (b.toList.take l) y x':=λx' ex' l B=>by
    rw[AU f2 ex' ex'];rw[rW n K (BJS l) (l-1) (AX 0x5d799888913182bf1d83171079d8a6e p B)];rw[K];rw[A68 G (A24 n (b.getD n TU)) (gH (~~~lq 0x2ad6683c64bdf6af751c1fc373239 d L B K))]
    refine C3J G ?_;rw[jE (W n (AX 0x32c5198c6338de6357 B K)) Nat.zero_add]
   split
   .rw[ED3 o m m L];have q:lY MH (E1S b.toList.take (out.push y).toList.reverse) na c:=by
     rw[o]at v;refine MH.bulkB T.sb v (BUF 0x17c4bb318d7f0761bc21a38 d o) (DY i z V P N);rw[BQ6 (Q i V (~~~b9r o P))];rw[AZG (gH (~~~lq 0x11742858ea0f3d0835a7bb221a39 d o P)) N N];have I:XR x (b.getD i TU):=this;have:=a0t T.sa f2 I;rw[wF (dJ (LH+1) na 0x5e20d502b831f1a108d3048e6d h1)]
    rw[<-o,<-b3G]at q;split
    .rename_i r;rw[A1A (a0w T F q (eq_of_beq r) BUI)]
    .rw[AE1 r r (c=1) r];split
     rw[E26 M M M]
     rw[EAS q (AX 0x1f18cbb1ec0893f2fd348e6d p r) (AX 0x1aee9e029f53c337421a38 d o) rfl (AX 0x76c136ff75f24258d802f1940071f971e5db t o)]
   rw[EAS v (ZU 0x17f38e159058a0dbc9bdd889b26e6 e L p) D51 AG (BI 0x66a26de2f2ac59a147b1e5d9 t)]
def b2u(T:SX)(F:AJT)(o:IN)(B:IM)(g:RK)(h:B5R)(r:B74):BWU (hiB a b na nb out mg ac bc):=by
 rw[B61 hiB p l u];rw[DY4 S N N];rw[C2F u];rw[nV (AEC (N1 o D9E B1Y (DG1 (0+i))) DRE (BCA DRE) t k J (AB1 b9o)) c M Q R]
 .have hle:XR (BF1 (0+j)) y:=by
   rw[C37 J J]
  rw[EKO (i:=0+i) (j:=0+j) (~~~b8B t) (ZU 0xca67fea8a183c7a15d8 l t k) (~~~b1w l k)]
 .dsimp only;have f:∀d,d=c->∀G,A24 IX G->AB6 (a.toList.take d) x G:=λd e G H=>by
   rw[AU e2 H H];rw[DG];rw[BP K d 0]
   .rw[DW K List.take_zero KD]
   rw[rW n rfl (BJS d) (d-1) (BI 0x394440f4347860aa68ed90083da16c6c8c125 K)];rw[A68 v (AX1 n (a.getD n TU)) (gN (AX 0xc5b0d291a35d7 l M))]
   rw[EC a0t T.sa v];rw[BQ6 (Q n CS1)];rw[BFG];rw[BKK]
  split
  .rw[ED3 k na na M];have m:lY MH (E1S a.toList.take out.toList.reverse) c nb:=by
    rw[k]at p;refine MH.bulkA T.sa j p (BUF 0xd94fd40e3240437d937d8 l k) (DY i z P L I);rw[BQ6 (R i P (~~~b9r k L))];rw[AZG (gN (ZU 0x9f93ba085bf9096fa16b4137d9 l k L)) I I];have C:O.klt (kf y) (DQV a.getD):=by
     rw[DLJ]
    have:=C3J e2 C;rw[wF (dJ (IX+1) nb 0x3f1f0b1fb2fa06efdcd304917d h2)]
   rw[<-k,<-b3G]at m;split
   .rename_i q;rw[A1A (A9N a1G m q)]
   .rw[AE1 q q (c=0) q];exact E7R g (C4C m q (A5N 0xf63c8017f9d941f937d8 l) u) CXB (A5N 0x43dc1f6d67f825e267f3fb8654ed9d8a99b r)
  .exact E7R g ⟨p,h1,h2,l,u⟩ D64 r
/---/def P3(kf:DD)(st:SortSt)(a b:AR)(c0:Nat)(c:U1)(st':SortSt):Prop:=EFN
/---/def Y3(kf:DD)(st:SortSt)(a b:AR)(c0:Nat)(c:U1)(st':SortSt):Prop:=DDS
/---/def R3(kf:DD)(st:SortSt)(a b:AR)(c0:Nat)(r:ACX U1)(st':SortSt):Prop:=B7C P3 Y3
def c1p(T:SX)(F:AJT)(p:IN)(r:IM)(g:RK)(h:B5R)(d:B74):E66 hiA na nb out R3:=by
 rw[B61 hiA j l i];rw[C2F i];rw[B6I (~~~b1E h1 l)];rw[kK (a2v p (CYF r) B1Y B2O)];dsimp only;rw[EAX];rw[EI6];rw[Nat.add_sub_cancel]at e1 e2 f1 f2⊢;rw[Nat.add_sub_cancel];cases q:BEV with
 |true =>
  rw[E8Q F1 (BMW l) o];have f:=j.stepA T.sa f2 (C3J e2 q);rw[vG a2F f]
  rw[A7H a1G f]
  .rw[AED (n=0) k (A9B LI n (m+1)) (C4C f e (AX2 l) i)]
   rw[A6V k E8U]
   rw[A6U k E8U]
 |false =>
  rw[KJ];rw[EH (JL C2 (BMW i) t o c)];rw[AU e2 c c];have f:=j.stepB T.sb e2 (a0t T.sa f2 q);rw[vG a2F f]
  rw[DPW f (~~~a8a i)]
  .rw[AED (m=1) k (A9B MR FJ m) ⟨f,h1,nT 0x366b64775d0f02e93b1bc3d7d h2,l,AX2 i⟩]
   rw[A6V k E8V]
   rw[A6U k E8V]
def a8E(T:SX)(F:AJT)(i:IN)(n:IM)(p:CUV)(t:BNV){Q:CZ9}
  (q:EJI):CYZ a5v:=by
 rw[a9r];rw[ADM];rw[A3K DEZ];have j:lY MH (DOE toList.reverse) WV b.size:=by
  have z:lY MH [] (WV+1) b.size:=by
   refine⟨?_,.nil,(DTL),DTL⟩;rw[DW (DES Array.length_toList 21300584710917) (CYS Array.length_toList b8b) .nil]
  exact z.stepA T.sa e2 (λx u=>CRE (T.last x (List.mem_of_mem_take u) y e1))
 rw[E7Z]
 .rw[kH];rw[BZE a1G e]
 .rw[B4P (WV=0)];split
  .rename_i e';rw[YA (AO q (a0w T F j (CRB e') t) l)]
  .rw[EIK (b.size=1) (ADW (CHH (KR+aX+(x+1)))
    (Q:=sR CE5)) ⟨j,w5 (1<=WV) 0xc818c33e8de8deaaa782f47818c0a1a9168d7ae5 e,by show 2<=b.size;rw[D4 0x1f18cbb1ec0893f2fd3dec5d t e'],VH (WV<=a.size) lq 0x5a802defc012e5,BW⟩ (by show WV+b.size+(0+1)<=_;rw[DQ 0x120447bb8c94f6fcd779e9105ec5e p])]
   case post =>
    rw[ELD L M]
   case fin =>
    rintro c st' ⟨g,e1,⟨_,h1,h2,_⟩,G⟩;exfalso;rw[DQ 0x4ab1a8a6b7020069981ad03d5ee7198 G]
   case step =>
    rw[EIL J u o (CGK Y3) P3 (by show KR+aX+(fK+min 0 1)<=_;rw[DQ 0x2058c3a48294721d6e7b75776d768541dd99 o])]
    case f1 =>
     rw[B7H (nS 0xd8b76864b3ba3949674a2ae7cf257df9be707ffa233fd51fa394803d99)]
    case s1 =>
     rw[B7E H];rw[ART (c1p T F i n g h1 (c0:=fK) (nS 0xaf63bd5a60cd152a2cb863035dd4db55a3b4d9a))];cases r with
     |done c'=>exact f
     | «yield» c'=>rw[EC8 0x12f551ed8a7ba60a799cf08cd6aab53fc4a6afd9a]
    case p1 =>
     rw[E97]
     rw[B6J]
     .rw[EL4 (CEU Y4) P4]
      case f2 =>
       rw[B7H h2]
      case s2 =>
       rw[B7E H];split
       rw[EFG]
       rw[EFG]
      case p2 =>
       rw[E97]
       rw[B6J]
       rw[DRX K C (g.trans C)]
#where
/---/def b0F(qP merged:AR)(sa:Nat):AR:=merged.toList.zipIdx.foldl (λa (p,j)=>a.setIfInBounds (sa+j) p) qP
/---/def mgC(sa:Nat)(merged:AR):BRW :=
 C3I (C42 (b0F AFZ merged sa) CZ0 CZ1)>>=CO (get>>=λs=>A3Q (DM8 s))
/---/def mgB(s:SortSt)(sa na sb nb:Nat):BRW :=
 E2M (sa+na-1)>>=FE (V8 true x AFZ sb nb IX>>=λr=>match r with
 |AC n=>(if AC5 n then D0N
  else if na<=n then ENO a5u
  else ENO a5v)
 |_=>D1C)
/---/def mgA(s:SortSt)(sa na sb nb:Nat):BRW :=
 E2M sb>>=λy=>V8 false y AFZ sa na 0>>=λr=>match r with
 |AMG=>MM (AC5 D4K) D0N (mgB s (sa+k) D4K sb nb)
 |_=>D1C
def a9s(i:Nat):mergeAt' i=(get>>=λs=>match (DOQ,DTB)with
 |(AC (sa,na,pw),AC (sb,nb,_))=>set (C42 AFZ (CHA (A8A s setIfInBounds) (sa,na+nb,pw)) CZ1)>>=CO (mgA s sa na sb nb)
 |_=>liftM (unsupported "internal:list.sort.pending" : A6P)):=by
 rw[BL0 s];dsimp only;rcases DOQ with _|⟨sa,na,pw⟩
 .rfl
 rcases DTB with _|⟨sb,nb,pw2⟩
 .rfl
 rw[BDR _];rw[DW5 mgA y k]
 .rfl
 rw[AWG AUG];rw[DW5 mgB x n]
 .rfl
 rfl
def a6O:∀(l:LJ) (qP:AR) (b j:Nat),A6A+l.length<=qP.size ->
  AEX (tI l.zipIdx j) (λa (p:Keyed×Nat)=>a.setIfInBounds (b+QH) DT) qP=qP.toList.take A6A++l++qP.toList.drop (A6A+l.length)
 |[],qP,b,j,h=>AJ
 |BGX,qP,b,j,h=>by
  rw[List.length_cons]at h;rw[List.zipIdx_cons,List.foldl_cons,a6O l _ b JC (AH Array.size_setIfInBounds (lq 0x1462514a6ccf82714dd98 h))];rw[Array.toList_setIfInBounds];rw[FQ c (b+j<qP.toList.length) Array.length_toList (lq 0x10c512092358975bd4dd98 h)]
  rw[List.length_cons,DZS (b+(j+1)) A6A];rw[List.take_set,NR List.drop_set_of_lt];rw[List.take_succ_eq_append_getElem c,BMH (TW List.length_take)];rw[List.length_take,dJ (A6A-min A6A qP.toList.length) 0 0x190317181db82956778c98301ad47b7c72b751997 c];rw[AWD];congr 1;rw[SJ 0x446a54bea122d4e97]
def a8Y(qP a:AR)(b:Nat)(h:b+a.size<=qP.size):(b0F qP a b).toList=qP.toList.take b++a.toList++qP.toList.drop (b+a.size):=by
 rw[AEZ (a6O a.toList qP b 0 (TW Array.length_toList)) Nat.add_zero Array.length_toList];rw[MZ]
def c1n{M:Model}{σ:Type}{st a:σ}{Q:EN PUnit σ}(h:Q ⟨⟩ a):C85 M (set a:StateT σ Sem PUnit) Q st:=by
 rw[AEO wpS StateT.run_set wpAny_pure BOM]
section
variable {kf:DD}
structure Runs2(kf:DD)(D:AG4)(qP:AR)(P LA LB R:LJ):Prop where
 eq:qP.toList=C4N++R
 d:DB8
 sa:XZ LA.Pairwise
 sb:XZ LB.Pairwise
 na:0<LA.length
 nb:0<LB.length
variable {P LA LB R:LJ}
def Runs2.atA(h:yB)(hi:i<LA.length):qP[CY1]?=LA[i]?:=by
 rw[<-Array.getElem?_toList,h.eq,List.append_assoc,List.append_assoc,BP7 List.getElem?_append_right,List.getElem?_append_left (wT 0xd94fa8b9f0c4a3f666797)];congr 1;exact b8Z
def Runs2.atB(h:yB)(hi:i<LB.length):qP[jJ+i]?=LB[i]?:=by
 rw[<-Array.getElem?_toList,h.eq,List.append_assoc,CIO List.getElem?_append_right List.length_append 0xd01dd87d58e9397,BJT List.getElem?_append_left List.length_append 0x7f6241d77eb0460beaa649bb98];congr 1;rw[BO List.length_append lq 0x33582e5d19de708aac6c3997]
def Runs2.dA(h:yB):BGZ LA:=E03
def Runs2.dB(h:yB):BGZ LB:=E03
def Runs2.size(h:yB):qP.size=DPI LB.length+R.length:=by
 rw[<-Array.length_toList,h.eq];simp[Nat.add_assoc]
def Runs2.extA(h:yB)(k:Nat):AEX qP.extract mZ jJ=LA.drop k:=by
 rw[a3E,h.eq,E6D,PK List.take_append_of_le_length];rw[BPH,List.drop_append,BP7 List.drop_eq_nil_of_le,List.nil_append];congr 1;exact b8Z
def Runs2.extB(h:yB)(a:k<=LB.length):AEX qP.extract jJ (jJ+k)=LB.take k:=by
 rw[a5Q,h.eq,List.append_assoc,PK List.drop_append_of_le_length,PK List.drop_eq_nil_of_le,List.nil_append,List.take_append_of_le_length a]
def a8F{pw a8:Nat}{Q:BQY}(H:IN)(hk:IM)(h:C9S IS)(hp:DJ (B0H) (CF4 LA.length))(a6:GK (B0H) AT (jJ,LB.length,a8))(hf:BUE)
  (q:KC st' SortSt M LJ (B80 st') (BIN->pendingOf st'=C47->a3G kf LA LB M->BRU=P++M++R->BSY)):GJ CWC:=by
 rw[a9s];rw[nF];rw[hp,a6];dsimp only;rw[kK c1n];unfold mgA;rw[AD l (heq_of_eq h.size) I h.na];have p:=h.nb;generalize d:CFZ CIZ IS C47 (gallopOf st) st=c;rw[WT k2 (B80 c) d hk]
 have a2:arrOf c=IS:=by rw[<-d]
 have p2:pendingOf c=C47:=by rw[<-d]
 rw[WT f2 (BAB c) d hf]
 have C:DKZ=LA++LB->BT x LA (A1K LB)->Q true c:=FD a5 (by
  rw[EC (q c DKZ k2 f2) p2 ⟨AWX,YM List.pairwise_append.mpr h.sa h.sb a5⟩];rw[a2,h.eq];rw[AWD])
 rw[EH (C2 (by rw[SD BOV 0x36485bc6a7aa81fea58eb2f358861 p]) λy e1 _=>?_)];rw[WT ey (GK LB 0 y) (h.atB p) e1]
 have a1:iW LB (XR y z):=a0v h.sb ey (KeyOrd.kle_refl _);have W:∀i,i<LA.length->GK (BYP) CY1 D3L/\AFI LA LA.getD:=gK (by
  have:AFI LA LA.getD:=AZL cC
  rw[E3H h.atA])
 have X:∀i,i<LB.length->GK (BYP) (jJ+i) D3M/\AFI LB LB.getD:=λi hi=>by
  have:AFI LB LB.getD:=AZL cC
  rw[E3H h.atB]
 have B:∀{u v:Keyed},A4C ((sP u v))->XR v u:=λ{u v} z=>by
  rw[C37 z z]
 rw[nV (EIP (nQ h.dB ey) (λi=>!(sP y D3L)) W (nQ h.dA (W i hi).2) I) k q1 q2 q3]
 .have:=KeyOrd.kle_trans (a1w h.sa m (W i DRU).2 (W j a).2) (B hb);rw[tH KeyOrd.kle];rw[CNZ]
 .dsimp only;have Z:AB6 AZ3 x y:=λx hx=>by
   rw[B6Q hx List.length_take];rw[E9O];have:=B (q2 j DNM);have e2:=(W j o).2;rw[List.getElem_take]at e;rw[B7F o]
   rw[BXC]
  split
  .rw[EKT x hx (Z x ?_) a1 f];rw[AF (CRC (AXF 0xd1f5a4102f8f756)) hx]
  .rw[kH];replace e:k<LA.length:=Nat.lt_of_sub_ne_zero λz=>qY beq_iff_eq.mpr;clear q1;have a3:EQ BQE BMI:=λx hx=>by
    rw[B6Q hx List.length_drop];rw[List.getElem_drop]at e;clear l p;have S:k+j<LA.length:= YT a9w
    have:=q3 CY6 AAC S;have e2:=(W CY6 S).2;rw[B7F S]
    rw[e2];rw[fJ]
   unfold mgB;rw[EH (C2 (by rw[SD BOV 0x1a85ca7454f87374fd1c6ad32eb29b0f20686f2caa8a023f3cb9a e]) λx f1 _=>?_)];rw[dJ (mZ+(LA.length-k)-1) (P.length+(LA.length-1)) 0xbaf9df3614a880507a08743fc3a57266ee830a638a7d4ed7edfa46dfa0de8db05ffd0c1be622597f7a797 e]at f1;rw[WT ex (bK LA BNA) (TL h.atA b1H I) f1]
   have V:iW LA DOL:=λz f=>by
    rw[AEZ (a0t h.sa ex (KeyOrd.kle_refl _) z) (dJ (BNA+1) LA.length 0x5e20d502b831f1a108d30dec5d I) List.take_length];exact this f
   rw[nV (EIP (nQ h.dA ex) (λi=>sP D3M x) X (nQ h.dB (X i hi).2) DEZ) n r1 r2 r3]
   .exact KeyOrd.klt_of_kle_of_klt (a1w h.sb m (X i DRU).2 (X j a).2) hb
   .dsimp only;have O:iW AYB DBB:=λz f=>by
     rw[B6Q f List.length_drop];rw[List.getElem_drop]at e;have U:n+j<LB.length:=by clear l I p;exact a9w a
     have:=r3 CY7 AAC U;have e2:=(X CY7 U).2;rw[B7F U]
     rw[BXC]
    have a4:iW BOT (AY (sP z x)):=λz f=>by
     rw[B6Q f List.length_take];rw[List.getElem_take]at e;rw[E9O];have:=r2 j DNM;have e2:=(X j o).2;rw[B7F o]
     rw[BXC]
    split
    .rw[EKT u t (V u t) O ?_];rw[DW e List.drop_zero f]
    .rename_i Y;replace Y:0<n:=Nat.pos_of_ne_zero λz=>C9X Y;rw[AD L (h.extA k) N (h.extB r1)];generalize b0:zZ extract mZ jJ=Xa at L;generalize b1:zZ extract jJ (DPI n)=Ya at N;rw[WR sX heq_of_eq (show Xa.size=AUD by rw[BGC L List.length_drop]) sY heq_of_eq (show Ya.size=n by rw[<-Array.length_toList,N,List.length_take,DA8])];have T:Two D kf Xa Ya:=by
      refine⟨DS5,DS5,AH L h.sa.drop,AH N h.sb.take,BS z f u eu⟩
      rw[EHI h.dA List.mem_of_mem_drop k L]
      rw[EHI h.dB List.mem_of_mem_take n N]
      .rw[N]at f;rw[<-Array.getElem?_toList,L,List.getElem?_drop,D3A,dJ (k+(AUD-1)) BNA 0x2c3a6e5b65142fa4d2128f050af385a0790afaa2d9f2c9de72e6d207e7f0a5148294a8196 e,ex]at eu;cases eu;exact a4 z f
     have F:a7h kf Xa Ya:=λz G u t=>by
      rw[N,List.getElem?_take_of_lt Y,ey]at G;cases G;rw[L]at t;exact a3 u t
     have fin:∀(r:AR) (b:SortSt),F4 kf Xa Ya r->Good c b->pV (mgC mZ r) Q b:=λr b hr g=>by
      unfold mgC;obtain⟨J,a7⟩:=hr;rw[L,N]at J;have a0:=heq_of_eq (show r.size=AUD+n by
       have:=J.length_eq;rw[List.length_append,List.length_drop,List.length_take,Array.length_toList,DA8]at this;rw[MZ])
      rw[EH (wpS_modify (wpS_bind (kC wpS_get wpS_pure)))];show Q (DM8 b) _;rw[A20 g,f2];have K:iW r.toList (z∈BQE∨z∈BOT):=λz f=>List.mem_append.mp (J.mem_iff.mp f);rw[EC (q _ (AZ3++r.toList++AYB) (ATJ k2) rfl) (BHM g p2) CX9]
      .refine GI (CSC (AAU J)) _ ?_;rw[<-CII LA.take k,List.take_append_drop,List.append_assoc,List.take_append_drop]
      .have sAk:DUU AZ3 BQE:=by
        rw[DZD h.sa (List.take_append_drop k LA)]
       have a9:DUU BOT AYB:=by
        rw[DZD h.sb (List.take_append_drop n LB)]
       rw[List.pairwise_append,List.pairwise_append];rw[DN ⟨h.sa.take,a7,E9P⟩ h.sb.drop E9P]
       .rw[CM (K v hv)]
        .exact sAk u t v z
        rw[ADA (Z u t) (a1 v (List.mem_of_mem_take z))]
       .rw[DO0]
        rw[EEK List.mem_of_mem_take]
        .rw[CM (K u z)]
         rw[EEK List.mem_of_mem_drop]
         .exact a9 u z v hv
      .show(b0F (arrOf b) r mZ).toList=_;rw[g.2.1,a2,IE a8Y (by rw[D39,BOV];clear l;rw[D4 0x389b56d0ffd076adb196f9cd26ebafa482b9a e r1]),h.eq,D39];have e1:A0E (C4N++R) mZ=P++AZ3:=by
        rw[List.append_assoc,List.append_assoc,List.take_append,BP7 List.take_of_length_le,show mZ-P.length=k by exact b8Z,TL List.take_append_of_le_length a3P e]
       have e2:(C4N++R).drop DYV=AYB++R:=by
        rw[E6D,List.drop_append,DES List.length_append 0x6b97cc26fa1de73a6eb216f98,List.nil_append,List.length_append,AWH (DYV-(jJ)=n) 0x27f0e3d4526f434cf2d19074fc04cf8e3e904e847afa7a798 e,List.drop_append_of_le_length r1]
       rw[e1,e2];rw[AWD]
     split
     rw[EKL (a8D T H k2 (ASI sX (lq 0x9c8e632330fcf96 e)) DV7 (λz G u t=>CRE (F z G u t)))]
     rw[EKL (a8E T F H k2 (TW D3A) DV7)]
#where
section
variable {kf:DD}
/---/def kx(kf:DD)(qP:AR)(i:Nat):O.α:=DQV qP.getD
/---/def SoO(kf:DD)(qP:AR)(lo m:Nat):Prop:=EEC BUL (A34 j)
/---/def NiO(kf:DD)(qP:AR)(lo m:Nat):Prop:=EEC (A34 j) BUL
/---/def Kept(lo:Nat)(st st':SortSt):Prop:=DPQ/\DXL/\DXM/\DXT/\∀i,i<lo->(arrOf st')[i]?=BYP[i]?
def Kept.refl{lo:Nat}:Kept lo st st:=C1C AWX CKI
def Kept.trans{lo:Nat}{st' a:SortSt}(h:A18)(h2:D23 st'):D23 st:=⟨DQ0,DQ1,DWT,MQ (TV h2) CZ6,gK (AAY (ABW h2) i hi (ABW h i hi))⟩
/---/def AllD(D:AG4)(qP:AR):Prop:=DB8
def AllD.perm{a b:AR}(h:AllD D a)(p:b.Perm a):AllD D b:=λx c=>h x ((Array.perm_iff_toList_perm.mp p).mem_iff.mp c)
def a1b{a b:AR}(h:a[i]?=b[j]?):QW a i=QW b j:=by
 rw[cH kx Array.getD_eq_getD_getElem? Array.getD_eq_getD_getElem? h]
def Y7{Q:ATI}(a:IN)(d:IM)(b:pN)(hi:i<lM)(c:j<lM)(h:BV5 (AD2 (BO2 i) (BO2 j))):GJ (ltAt' i j):=by
 rw[ltAt'_eq];rw[nF];rw[EH (C2 hi λx e1 f1=>wpS_bind (JL C2 c y e2 f2))];rw[gdK _ hi]at e1;rw[AU (gdK _ c) e2 e1];cases e2;exact a2v a d (nQ b f1) (nQ b f2) h
def b5I{src:Nat}{Q:AZK}(h:Q () (CDN (DSX IS))):GJ (moveDown' src a):=by
 rw[BO moveDown'_eq wpS_modify h]
def a3y{src:Nat}(hs:src<qP.size)(hd:a<=src)(i:Nat):QW (DSX qP) i=if i=a then AFR src else if a<i/\i<=src then AFR (i-1)else AFR i:=by
 have e:=getElem?_bubble hs CLU (cY 0x5a80e2fdd56156) i;rw[dJ (src-(src-a)) a 0x201e5982c2a0b71559e72dcdf8752be8f64ce8cd6 hd]at e;split
 rw[AIO c nZ]
 .rw[BBD c A5U];split
  rw[AIO c2 (cP c2)]
  rw[AIO c2 (CF c2)]
def a5f{l:Nat}(h:l<j)(h2:AH2):vK<k:= ANC 0x5b2a0e77ae39639125e34ee97 h
section
variable {l:Nat}(hs:A8X<qP.size)(hd:l<=k)
include hs hd
theorem c0U(h:i<l):AG2 qP i=BUL:=by
 rw[C28,CF (wR 0x1df7dc1daffeaa6797),A46]
theorem b2g:AG2 qP l=A34 k:=by
 rw[C28,F1]
theorem a8x(h:l<i)(h2:AYO):AG2 qP i=A34 ((i-1)):=by
 rw[C28,CF (wR 0x1419483072f8f00397),AFJ,Nat.add_sub_assoc (wR 0x5a893d766eab96)]
#where
def b5J{ok:Nat}{Q:BQY}(G:IN)(N:IM)(L:pN)(K:D4M)(H:ok<=n)(hs:ATT ok)
  (h:∀st',A18->BAO n->BSY):GJ (binarySort' lo n ok):=by
 rw[binarySort'_eq];rw[EH (ACS (BB0 (λk c st'=>CHU BJ9)
  (Q:=sR (CHU n))) ?init)]
 case post =>
  rw[C0G rfl f e];rw[YA (h st' f e)]
 case init =>
  rw[DN rfl Kept.refl (A4O g p)];rw[BP h1 ok 0]
  .have:i=j:= ZU 0x8d9a90052f412929e2ffed465a7e4ecafebec5ce837d54fe18fc8d8 g p h1
   rw[UG];rw[oE]
  .exact hs i j g (AX 0x13302a8efe90729a1fabbb5e8aafa6f19e90d9ff4665c7640a17 p h1)
 case fin =>
  rw[C0G M f e];rw[DN M f ?_];rwa[show min (max (max ok 1) n) n=n by rw[SJ 0x8d0f6d605a149c2e3cc8f826125daa1840b6f78973a5f0603a1ea1e6]]at e
 case step =>
  rintro k c st' F u ⟨rfl,f,e⟩;rw[AWH (min k n=k) 0xbc719366d85f9c0361f196 u]at e;have t:A8X<A6L:=by have:=AIN f;exact lq 0x9f899a3bd11a39ad451be1ad99 K u this
  have C:=L.perm (TV f);have v:min DA n=DA:= AD9 0x366b99578181f59530f1fd996
  clear K H F u;rw[EH (wpS_mono (BB0 (λx c a=>a=st'/\∃l r,c=CAH/\l<=r/\r<=k/\r-l<=k-x /\
    CHP r)
   (Q:=λc a=>a=st'/\CHN (l<=k /\
    CHP l)) ?istep ?ifin ?iinit) ?ipost)]
  case iinit=>exact⟨rfl,0,k,rfl,CS0,~~~b8b,cY 0x1e69948f84c2df57c7b82d25,gK AG,ARG AG⟩
  case ifin =>
   rintro c a ⟨rfl,l,r,rfl,z,B,J,o,m⟩;have:l=r:= ~~~c8T z J
   rw[UG];exact OD rfl l l B o m
  case istep =>
   rintro x c a _ P ⟨rfl,l,r,rfl,z,B,J,o,m⟩;dsimp only;by_cases y:DLY
   .rw[if_pos y];have:l=r:= ~~~b9w z y
    rw[UG];rw[YA (OD rfl l l B o m)]
   .rw[xO (CF y) (Y7 G (MQ gT N) C AG AG ?_)];cases q:AD2 (aP AF9 k) (aP AF9 B6G)with
    |true =>
     rw[MY F1 wpS_pure (B5K l B6G AG o C21)];exact KeyOrd.kle_trans (KeyOrd.kle_of_klt q) (AO e h1 h2)
    |false =>
     rw[MY KJ wpS_pure (B5K (B6G+1) r AG (BB i h1) m)];exact KeyOrd.kle_trans (e i B6G AG AG) q
  case ipost =>
   rintro c a ⟨rfl,l,r,rfl,b,o,m⟩;rw[EH (AWL b5I (eU (f.trans (C1C (tJ bubble_perm) DF0)) ?_))]
   .show(CB4 AF9)[i]?=_;rw[getElem?_bubble t _ (cY 0x299b8fd6a1108c55c2936f97),CF (wT 0x9c7e33aab955b22226518caea144b4f3d64d1b1e198),A46]
   rw[v];clear v;intro i j g p;replace p:AH2:=Nat.le_of_lt_succ p;show sN (AG2 AF9 i) (AG2 AF9 j);rcases Nat.lt_trichotomy i l with c|rfl|c
   .rw[c0U t b c];rcases Nat.lt_trichotomy j l with d|rfl|d
    .rw[AF (c0U t b d) (e i j g (Nat.lt_of_lt_of_le d b))]
    .rw[AF C1F (o i c)]
    .rw[AF C3X (e i vK (Nat.le_sub_one_of_lt (Nat.lt_trans c d)) C16)]
   .rw[C1F];rcases Nat.lt_or_eq_of_le g with d|rfl
    .rw[AF C3X (m vK (Nat.le_sub_one_of_lt d) C16)]
    .rw[BO C1F KeyOrd.kle_refl _]
   .have d:=Nat.lt_of_lt_of_le c g;rw[DW (a8x t b c (Nat.le_trans g p)) C3X (e (i-1) vK (Nat.sub_le_sub_right g 1) C16)]
#where
/---/def c1b(lo a nrem:Nat):lB AscSt:=forIn [a:nrem] (qT a:AscSt) λ_ c=>B1G CTR (lo+QF-1) (match r with
 |CSF=>(A22 (AY sm) (qT QF) (gD (qT (QF+1))))
 |_=>JV (AC none,QF))
/---/def a1U(lo n nrem:Nat):AH8:=DU0>>=CO (c1b lo n nrem>>=λc=>match F0 with
 |cW=>oC
 |none=>B3H)
/---/def b3y(lo n nrem:Nat):lB DescSt:=forIn [n:nrem] (XX n 0:DescSt) λ_ c=>B1G AO0 (lo+KR-1) (match r with
 |CSF=>(if AY sm then(if CJK then CPP DR0 else DR0)
  else B1G (lo+KR-1) AO0 (match r with
   |AC lg=>DI9 lg (XX (KR+1) (OW+1))
   |_=>B6F))
 |_=>B6F)
/---/def dpO(lo n nrem:Nat):AH8:=DIU>>=CO (b3y lo FJ nrem>>=λc=>match F0 with
 |cW=>oC
 |none=>DP4 DX2 DX2)
def b5e(lo a:Nat):countRun' lo a=(c1b lo 1 a>>=λc=>match F0 with
 |cW=>oC
 |none=>(if XO QF a then B3H else if QF > 1 then B1G lo (lo+QF-1) (match r with
   |AC rose=>(ASB rose B3H (BC9 lo CTR>>=CO DRC))
   |_=>D5Q)
  else DRC)):=by
 have e:∀(n:Nat),(DU0>>=CO (AHH c1b>>=λc=>match F0 with|cW=>oC|none=>B3H))=AHH a1U:=λn=>rfl;rw[countRun'_eq];rw[BM6]
 .rfl
 rcases c with⟨_|q,n⟩
 .dsimp only;have d:∀n:Nat,(DIU>>=CO (b3y lo FJ a>>=λc=>match F0 with
    |cW=>oC
    |none=>DP4 DRB DRB))=AHH dpO:=λn=>rfl
  have b:∀{β:Type}{m:lB β}{f g:β->AH8},(∀c,f c=g c)->(m>>=f)=(m>>=g):=λh=>jS (funext h);refine AUG λ_=>jO BUT _
  .rw[VL b r];rcases r with _|r
   .rfl
   .rw[AWG AUG];rw[VL b _];rw[<-d];rw[A79]
    .rfl
    .rw[EBQ]
     .rw[AWG BUT]
      .rw[VL b _];rw[A79]
       .rfl
       rw[B1R]
      .rw[A79]
       .rfl
       rw[B1R]
     .rfl
  .rw[<-d];rw[A79]
   .rfl
   .rw[EBQ]
    .rw[AWG BUT]
     .rw[VL b _];rw[A79]
      .rfl
      rw[B1R]
     .rw[A79]
      .rfl
      rw[B1R]
    .rfl
 .rfl
section
variable {kf:DD}
def a3x(a:DE7)(k:Nat):QW DDG k=if AYO/\k<j then AFR (i+j-1-k)else AFR k:=by
 have e:=getElem?_mirror_all (i:=i) a k;split
 rw[AIO c nZ]
 rw[AIO c A5U]
def R5(b:DE7)(a:∀k,AYO->k<j->QW qP k=QW qP vK)(k:Nat):BZA DDG qP:=by
 rw[a3x b];split
 .rw[a _ AG AG,a k AG AG]
 .rfl
def Kept.rev(hi:lo<=i)(a:j<=lM):CMD DDH:=C1C (IE mirror_perm _) (λk b=>by
 show(DDH)[k]?=_;rw[getElem?_mirror_all a,A46])
def a8H{b:Nat}{Q:YL AscSt}(r:IN)(v:IM)(t:pN)(q:AI9 b)(p:1<=a)(f:a<=b)(hs:ATT a)
  (h:∀n,a<=n->n<=b->ATT n->(n=b∨E2G)->Q (qT n) st):GJ (c1b lo a b):=by
 rw[B6R c1b (ALA (st'=st/\c=qT x/\ATT x)) ?fin (BH2 hs)]
 case fin =>
  rw[C0G rfl rfl d];rw[Nat.max_eq_right f]at d⊢;exact h b f BW d (.inl rfl)
 case step =>
  rintro x c st' k g ⟨rfl,rfl,d⟩;dsimp only;replace p:1<=x:=Nat.le_trans p k;rw[show ATY=CTS by clear q f k g;rw[DQ 0xd2e9c3eeaa316adf1c189a8abfb4d5c74703958fcd657aca6e p]];rw[EH (Y7 r v t (AX 0x427e8d7d5e90cc398 g q) (AX 0x5d84986f50ae6df186260dc548cc398 g q) ?_)];clear q f;dsimp only;cases e:DTZ with
  |true =>
   rw[mW F1 (h x k (~~~a3P g) d (.inr e))]
  |false =>
   rw[MY KJ wpS_pure (BH2 (A4O m u))];by_cases o:j<x
   .exact d i j m o
   .rw[BZR u o]
    rw[B47 l]
    .subst l;rw[oE]
    rw[ADA (d i vK (~~~b9B m l) (~~~b9o p)) e]
def a4G(e:IN)(o:IM)(k:pN)(d:AI9 a)(h1:x8)(b:n<=a)(hs:DHE)
  (h:C6P a):GJ (AHH a1U):=by
 unfold a1U;rw[kK wpS_reverse];have c:DIN:=ACG Kept.rev (~~~b9q d b);rw[EH (a8H e (MQ F0 o) (k.perm kI) (AH D5V d) h1 b (A4O f l) λm p q r _=>wpS_pure (h m _ c (AX 88870131167231598 h1 p) q r))];show sN (aP AW0 i) (aP AW0 j);have g:D4M:= ~~~b9q d b
 rw[a3x g,a3x g];clear d h1 b g;rw[AFJ,AFJ,ECK i i,ECK j j];exact AO hs (BI 0x4c827d8b823336a35f881e13c6226979409ce812082ddc7565c7fc7b0d6c2cf7b6f8242e1339d7 f) (BI 0xa39d60f3830f1a821ee8387c0e3b2e97 l)
def b3J{d:Nat}{Q:YL DescSt}(H:IN)(K:IM)(N:pN)(M:AI9 d)(h1:x8)(B:n<=d)(hs:DHE)
  (h:∀m a st',A18->n<=m->m<=d->ACB eR m->lE<=m->CPG wN wN (lo+m-1)->tK (XX m a)):GJ (b3y lo n d):=by
 rw[B6R b3y (ALA (∃a,c=XX x a/\A18/\ACB eR x/\lE<=x /\
   CPG ABY ABY ATY)) ?fin ⟨0,rfl,Kept.refl,hs,AG,ARG (by congr 1;rw[AIR 0x3c4412843342640a04f4823d2cb393855e1cc0f2f649856817c9b881c197])⟩]
 case fin =>
  rintro c st' ⟨a,rfl,b,g,v,F⟩;rw[Nat.max_eq_right B]at g v F⊢;exact DUA d B BW g v F
 case step =>
  rintro x c st' o e ⟨a,rfl,b,g,v,F⟩;dsimp only;rw[FQ z (ABY<A6L) (AIN b) (Nat.lt_of_lt_of_le (Nat.add_lt_add_left e lo) M)]
  have G:=N.perm (TV b);replace e:x<=d:=Nat.le_of_lt e;have ex:HEq ATY CTS:=heq_of_eq (by clear M h1 B o e z;rw[DQ 0x2ef12cfed0c26c3bc06bd0c604ee7275257286b8807fcc9fb0237 v]);have l:ATY<A6L:=CS6 (BR Nat.sub_le) z;clear M h1 B;rw[AFU (Y7 H CXY G z l ?_)];rw[AMS ex]at F l⊢;cases u:DTZ with
  |true =>
   rw[F1];have y:∀xs:AR,(∀k,BZA xs eR)->ACB xs fK:=by
    intro xs K i j q L;rw[K,K];by_cases r:j<x
    .exact g i j q r
    .rw[BZR L r]
     rw[B47 p]
     .subst p;rw[oE]
     .exact KeyOrd.kle_trans (KeyOrd.kle_of_klt u) EFC
   by_cases f:BPI
   .rw[BPU];rw[EH (AWL wpS_reverse (EOE (b.trans (Kept.rev (by clear z l ex o e f;exact c4Q v) (Nat.le_of_lt z))) (R5 (Nat.le_of_lt z) (λk P R=>ASI ex (F k P R)))))]
   .rw[BO (CF f) wpS_pure (EOE b A1E)]
  |false =>
   rw[xO KJ (Y7 H CXY G l z ?_)];clear z l;cases t:AD2 BHK BHJ with
   |true =>
    rw[AF F1 (wpS_pure (DUA x o e g v (ASI ex F)))]
   |false =>
    rw[KJ];have C:BHJ=BHK:=KeyOrd.kle_antisymm t u;clear o e;rw[BGH ⟨lE,rfl,b,A4O q L,BI 0x22619215c9f82a36 v,C21⟩]
    .by_cases r:j<x
     .exact g i j q r
     .rw[BZR L r]
      rw[B47 p]
      .subst p;rw[oE]
      .rw[AF C EFC]
    .rw[show lo+(x+1)-1=ABY by rw[SJ 0x48d032331e493b7434f8c15d6]];rw[BP J i ABY]
     .subst J;rfl
     .rw[AF C (F i (AXG 0x196d6b7cfa6b909dc418023e934a254b785c315d8) (AX 0xc15037c66930220f80cb70dcde17 h2 J))]
def b2v(e:IN)(t:IM)(z:pN)(q:AI9 a)(u:FJ<=a)(hs:ACB IS FJ)
  (h:C6P a):GJ (AHH dpO):=by
 unfold dpO;rw[ADM];rw[AFU (b3J e t z q A3T u hs λm k st' b F f p v B=>?_)];have x:=heq_of_eq (AIN b:A6L=lM);rw[FQ g (wN<=A6L) BNB (Nat.le_trans (Nat.add_le_add_left f lo) q)]
 have o:=z.perm (TV b);by_cases d:k > 0
 .rw[CXJ];have c:Kept lo st' (setArr st' (mirror eR (wN-(DA)) wN ((wN-(wN-AWJ)) / 2))):=Kept.rev (~~~c4Q v) g;rw[DNB (a4G e (MQ F0 (BHC t)) (o.perm kI) (OH D5V BNB q) (~~~b9p v) f (A4O r C) λy l k2=>h y l (b.trans (c.trans k2)))];show sN DDL DDL;rw[DW DUY DUY (p i j r C)]
 .rw[AF (CF d) (a4G e (BHC t) o (AH BNB q) (~~~b9p v) f p λy l k2=>h y l (b.trans k2))]
def b0k{c:Nat}(p:IN)(u:IM)(H:pN)(v:AI9 c)(h1:1<=c)
  (h:C6P c):GJ (countRun' lo c):=by
 rw[xO b5e (a8H p u H v (Nat.le_refl 1) h1 (λi j g z=>by have:i=j:=(AX 0xa094c5a5635664e6918d6 g z);rw[UG];rw[oE]) (DY n l b q G))];rw[BP a n c]
 .rw[BO (if_pos (by simpa using a)) wpS_pure ELV]
 .rw[BBN a];have B:E2G:=G.resolve_left a;replace a:FJ<=c:= iC b9u b
  clear G b h1;replace b:=Nat.le_of_succ_le a;have r:VW<lM:=Nat.lt_of_lt_of_le (Nat.add_lt_add_left a lo) v;rw[nO (n > 1)]
  .rw[xO IG (Y7 p u H (BI 0xd20045e3fb6d997 r) (BI 0x9f93b901297e04c77b530d1997 r) ?_)];have ex:VW-1=lo+(n-1):=by clear v a b r;rw[DQ 0x788557cf61c5a34abbc211c1427ff51c59b748fcd65842b6e e]
   rw[ex];cases y:AD2 (BO2 lo) BIU with
   |true =>
    rw[mW F1 ELV]
   |false =>
    rw[KJ];have x:=v;clear v;have d:∀k,k<n->aP IS k=BIU:=by
     intro k u;clear r a b ex;rw[AD L (q 0 k FF u) M (q k (n-1) (AD9 0x9c8dc589d0d2196) (AXF 0x23298a70e5171a9ef6d))];exact KeyOrd.kle_antisymm M (KeyOrd.kle_trans y L)
    have C:∀k,BZA AW0 IS:=R5 (Nat.le_of_lt r) λk K P=>by
     rw[ex];clear r a b ex x;have:=d (k-lo) (AX 0x482873c8beffed6a3bacf50d7 K P);rw[wF (dJ (lo+(k-lo)) k 0x35c99e4ab265aeecc3a202bd6 K)]
    have o:DIN:=ACG Kept.rev (Nat.le_of_lt r);rw[DNB (b2v p (MQ o.1 u) (H.perm (TV o)) (AH (AIN o) x) a DHI λN J k2=>h N J (o.trans k2))];show sN DDM DDM;rw[C,C];clear r a b ex x l;by_cases t:cB
    .rw[d i (~~~b1y g t),d j t];exact KeyOrd.kle_refl _
    .have hj':j=n:= ~~~b3f z t
     rw[B47 f]
     .subst f;rw[oE]
     .rw[BO (d i (~~~b9g g f)) KeyOrd.kle_of_klt B]
  .rw[FZ];have F:n=1:= nT 0x1f18e9ec0b79bc248fb4166d l
   subst F;refine b2v p u H v a DHI h;clear r a b v l e;rw[BP f i j]
   .subst f;rw[oE]
   .have hi0:i=0:= ~~~lq 0x2057e1c4fa8b324e8ebe677e87c4347558d6 g z f
    have I:j=1:= ZU 0xa44f6d1fe186111ccec317735cc00870c860e6 z f hi0
    subst hi0;subst I;exact KeyOrd.kle_of_klt B
#where
/---/def a4i:Nat->nA->UY Nat Nat
 |_,[]=>[]
 |o,AZT=>(o,r.length)::a4i BY9 rs
def V6:∀(o:Nat) (X Y:nA),a4i o (X++Y)=a4i o X++a4i (o+X.flatten.length) Y
 |o,[],Y=>JY a4i
 |o,r::X,Y=>by
  simp only[List.cons_append,a4i,V6 BY9 X Y,List.flatten_cons,List.length_append,Nat.add_assoc]
def a5q:A4U o X nA (MK a4i o X=X.length)
 |_,[]=>rfl
 |o,r::X=>by simp only[a4i,List.length_cons,a5q BY9 X]
abbrev ent(e:AII):Nat×Nat:=(e.1,e.2.1)
section
variable {kf:DD}
structure RI(kf:DD)(κ:SortKind)(a0:AR)(st:SortSt)(runs:nA)(rest:LJ):Prop where
 kind:IM
 failed:BUE
 perm:(arrOf st).Perm a0
 eq:BRB=runs.flatten++rest
 sorted:qW runs BQC
 ne:qW runs ANB
 pend:BE8 toList.map ent=a4i 0 runs
def RI.size(h:B3Q):D0A=runs.length:=by
 rw[<-Array.length_toList,<-E4K,h.pend,a5q]
def a3J{X Y:nA}{ra c:LJ}{Q:BQY}(k:IN)(G:B3U)(h:A0G st (X++ra::c::Y))
  (q:∀(st':SortSt) (M:LJ),A0G st' (X++M::Y)->M.length=ra.length+c.length->BSY):GJ (mergeAt' X.length):=by
 have t:=h.pend;rw[V6,a4i,a4i]at t;obtain⟨e,N,j,e1,e2⟩:=List.map_eq_append_iff.mp t;obtain⟨x,O,v,g,B⟩:=List.map_eq_cons_iff.mp e2;obtain⟨y,H,C,i,p⟩:=List.map_eq_cons_iff.mp B;subst v C;obtain⟨I,J,u⟩:=x;obtain⟨K,L,o⟩:=y;rw[Nat.zero_add]at g i p;have g:(I,J)=(X.flatten.length,ra.length):=g;have i:(K,L)=(DKM,c.length):=i;rw[mK g i];have a:e.length=X.length:=by rw[<-E4K,e1,a5q]
 have g1:GK (B0H) X.length (X.flatten.length,ra.length,u):=by
  rw[EBP b8w E90]
 have F:GK (B0H) CIL (DKM,c.length,o):=by
  rw[EBP b8N E91]
 have b:Runs2 kf D IS X.flatten ra c (Y.flatten++rest):=by
  refine⟨?_,λz m=>(G.perm h.perm) z m,DAQ,DAQ,DAR,DAR⟩;rw[h.eq];rw[AWD]
 refine a8F k h.kind b g1 F h.failed λst' M k1 k2 k3 n k5=>?_;have d:M.length=C02:=by rw[n.1.length_eq,List.length_append]
 refine q st' M ⟨k1,k2,?_,?_,AF4 l,AF4 l,?_⟩ d
 .rw[IR Array.perm_iff_toList_perm.mpr];refine List.Perm.trans ?_ (Array.perm_iff_toList_perm.mp h.perm);rw[k5,b.eq];refine CSK ?_;rw[AF (List.append_assoc X.flatten) (AAU n.1)]
 .rw[k5];simp[List.append_assoc]
 .rw[DNY]
  .exact h.sorted r BT6
  .rw[mO uO]
   .exact n.2
   .exact h.sorted r D03
 .rw[DNY]
  .exact h.ne r BT6
  .rw[mO uO]
   .have:=h.ne ra AJ;rw[PR 0x29589d39557d1b8a683cb17 d]
   .exact h.ne r D03
 .rw[k3,Array.eraseIdxIfInBounds];have m:D0A=X.length+(Y.length+2):=by rw[OI h.size]
  rw[MW dif_pos Array.size_setIfInBounds (lq 0xb8aac9891cd2039e5117 m),Array.toList_eraseIdx,Array.toList_setIfInBounds,j];rw[BMH (YT b8w),E90,List.set_cons_zero];rw[TL List.eraseIdx_append_of_length_le b8N a,E91];show FC (e++(X.flatten.length,C02,u)::H) ent=_;rw[List.map_append,List.map_cons,e1,p,V6,a4i,Nat.zero_add,d];show _++(X.flatten.length,C02)::_=_;rw[Nat.add_assoc]
#where
/---/def a4r(lo n:Nat):D36 :=
 C3I (setPending s (A8A s push DZL))>>=CO (gD CJT)
/---/def a1f(sz pw:Nat):D12 :=
 EJB (match CQ9 with
  |AC (_,_,older)=>(A22 (older<=pw) YS (ECE uX))
  |_=>CWX)
/---/def a2s(sz lo n:Nat):D36:=get>>=λg=>match CN6 with
 |AC (s1,n1,_)=>a1f sz EKJ>>=λc=>match F0 with
  |cW=>JV (cW,lo)
  |none=>C3I (setPending s ((pendingOf s).modify (AL6 s-1) λx=>(HH,bS,EKJ)))>>=CO C14
 |_=>C14
/---/def b3k(sz:Nat):D12 :=
 (EJB (if B8T<=1 then CWX
  else ECE (if kQ Option.any (FE (VM x ((A0V g)[uX+1]?.elim 0 λx=>bS))) (if uX > 0 then Option.map (FE bS) (A0V g)[uX-1]? else none) then uX-1 else uX)))
section
variable {kf:DD}
def two_last{l:DC}(h:2<=l.length):∃X a b,E4J VD ATS:=by
 refine⟨l.take ATS,D8T,D8U,?_,IU List.length_take lq 0x540f9bc5ace134bff1e68f78c9ecbf65f1a930d54e28e44a3c95852c868a5⟩;have e1:l.drop ATS=[D8T,D8U]:=by
  rw[CUI,List.drop_eq_getElem_cons (wR 0x5bc2574b96245182517d),rD List.drop_eq_nil_of_le 0x67ca5af3423a405];congr 2;congr 1;rw[DQ 0x12f595d9a28554586c60db3aabe07fdb89502517d h]
 rw[CIH e1]
def a7i{sz:Nat}{Q:CZA}(f:IN)(g:B3U)(h:B3Q)
  (q:∀st' a,ACM->CKV->CKP->tK YS):GJ (a1f sz i):=by
 rw[B6R a1f (λ_ c st'=>c=YS/\∃a,ACM/\CKV/\CKP) (λc st' k=>by obtain⟨e,d,h1,h2,b⟩:=k;rw[AF e (q st' d h1 h2 b)]) (EO rfl runs h BW)];rintro x c st' _ _ ⟨rfl,d,h1,h2,b⟩;rw[nF];split
 .rename_i older heq;split
  rw[EHF]
  .have hz:BRG > 1:=by
    rw[CXM z];rw[AU (CF (BI 0x9df33abe10e5 z)) heq heq]
   have hs:=h1.size;obtain⟨X,ra,m,e1,e2⟩:=two_last (l:=d) (AX 0x46579576673d8fe5f6e hz hs);rw[e1]at h1;rw[show BRG-2=X.length by rw[D4 0xfcd762529b6398a2260ea5b68cd61004465d95dbc1b69c6d58c5f957 hs e2]];rw[EH (a3J f g h1 (BS j M k1 k2))];rw[MY KJ wpS_pure ⟨rfl,_,k1,?_,?_⟩]
   .rw[<-h2,e1];simp[k2]
   .rw[e1]at b;simp at b⊢;rw[DQ 0xb4cbcdad2e3a6 b]
 rw[EHF]
def a3I{Q:DPZ}{r:LJ}(h:E0E)(e:BQC)(d:0<n)(c:BCI)(a:D4P)
  (q:∀st',A0G st' (runs++[r])->E34):GJ C14:=by
 unfold a4r;rw[EH (AWL wpS_modify (q _ ⟨h.kind,h.failed,h.perm,?_,AF5 b,AF5 b,?_⟩))]
 .show BRB=_;rw[OI h.eq]
 .rw[E1W]
  .exact h.sorted z y
  .rw[AF CW4 e]
 .rw[E1W]
  .exact h.ne z y
  .rw[DW CW4 c d]
 .show(BE8 push DZL).toList.map ent=_;rw[Array.toList_push,List.map_append,h.pend,V6,Nat.zero_add,a,<-c];rfl
def map_modify{p:aK AII}:(p.modify i λx=>(HH,bS,a)).toList.map ent=p.toList.map ent:=by
 rw[Array.toList_modify];rw[AYS j];rw[List.getElem?_map,List.getElem?_map,List.getElem?_modify];cases p.toList[j]? with
 |none=>rfl
 |some x =>
  rw[B3O]
  .simp[e]
  .simp[e]
def b0m{sz:Nat}{Q:DPZ}{r:LJ}(e:IN)(j:B3U)(h:E0E)(i:BQC)(g:0<n)(d:BCI)(b:D4P)
  (q:∀st' a,ACM->a.flatten.length=VW->u8 (runs.length+1)->E34):GJ D8C:=by
 unfold a2s;rw[nF];split
 .rw[AFU (a7i e j h (DY st' a k1 k2 k3))];rw[kK wpS_modify];rw[EGT (BG a3I runs a rest rest ⟨k1.kind,k1.failed,k1.perm,k1.eq,k1.sorted,k1.ne,map_modify.trans k1.pend⟩ i g d (ASJ k2))]
  .simp[k2,d,b]
  .simp;omega
 .rw[EGT (a3I h i g d b)]
  .simp[d,b]
  .simp
#where
section
variable {kf:DD}
def c1a{l:DC}(h:AT<l.length):∃X a b Y,E4J (a::b::Y) i:=by
 refine⟨BOR,l[i],l[AT],l.drop (AT+1),?_,AH List.length_take (lq 0x149c6c1f3faa75105eb66b36 h)⟩;rw[<-CUI,<-TL List.drop_eq_getElem_cons a5y h,List.take_append_drop]
def a8G{sz:Nat}{Q:CZA}(j:IN)(l:B3U)(h:B3Q)(m:CFA)
  (q:∀st' a,ACM->u8 1->tK YS):GJ (b3k sz):=by
 rw[B6R b3k (ALA (c=YS/\CPJ ACM x)) (λc st' ⟨e,g,h1,h2⟩=>AOU ED0) (uK runs h (BI 0xb39fb5821a7d6 m))];rintro x c st' _ _ ⟨rfl,g,h1,h2⟩;rw[nF];have hs:=h1.size;split
 rw[B8R ED0]
 .rename_i hz;have k:∀i,AT<g.length->pV ((CWC>>=λb=>if A4C b then jP ForInStep.done CMA else D96):A1J APA) (E45 d (Q c' d) (c'=YS/\CPJ (A0G d a) ((x+1)))) st':=λi hi=>by
   obtain⟨X,ra,p,Y,e1,e2⟩:=c1a hi;rw[e1]at h1 h2;rw[<-e2];rw[nV (a3J j l h1) o M k1 k2];rw[MY KJ wpS_pure (uK _ k1 ?_)];simp at h2⊢;rw[DQ 0x2430271a7733860135b14a03b3d8 h2]
  refine wpS_mono (GP ?_) (λr d n=>CIE n);by_cases f:BRG-2 > 0
  .rw[BPU];split<;>omega
  .rw[CF f,KJ];rw[D4 0x1152e78527f51f7c4ea7b493a356 hs hz]
def RI.kept(h:B3Q)(k:C8M runs.flatten.length):zS a0 st' runs ((arrOf st').toList.drop runs.flatten.length):=by
 refine⟨MQ k.1 h.kind,BHM k h.failed,MQ (TV k) h.perm,?_,h.sorted,h.ne,AH k.2.1 h.pend⟩;have e:rZ toList.take runs.flatten.length=runs.flatten:=by
  have a:zZ toList.take runs.flatten.length=runs.flatten:=by rw[h.eq,List.take_left'];rfl
  rw[<-a];rw[AYS i];rw[CRM];rw[lQ hi runs.flatten.length]
  .have hle:runs.flatten.length<=zZ toList.length:=by rw[DW h.eq List.length_append a3p]
   rw[List.getElem?_take_of_lt (AX 0x178fd23175172dc861a2e97 hi hle),List.getElem?_take_of_lt hi,Array.getElem?_toList,Array.getElem?_toList];exact ABW k i hi
  .rw[DXV 0xdcfbe2ccc8dcf372d58c0acfe98,DXV 0x9c8e19205e9fe97]
 rw[<-List.take_append_drop runs.flatten.length BRU,e];congr 1;rw[aU List.drop_append_of_le_length,List.drop_length,List.nil_append]
def c1x(h:ALN qP n)(c:VW<=qP.size):XZ (bE qP.toList.drop lo n).Pairwise:=by
 rw[EGP a b];rw[List.length_take,List.length_drop,Array.length_toList]at hi a;have q:=h i j (Nat.le_of_lt b) D05;unfold leK;have g:∀k,k<n->A34 k=kf (qP[A8X]?.getD TU):=λk _=>by rw[EA kx Array.getD_eq_getD_getElem?]
 rw[g i (APZ b1I),g j D05,DO6 (APZ c4W),DO6 (YT c4W)]at q;simp only[List.getElem_take,List.getElem_drop,Array.getElem_toList];exact q
def a4Z:∀{runs:nA},BT r runs ANB->CBF runs.flatten.length
 |[],_=>BW
 |r::runs,h=>by
  have:=A3B (a4Z (runs:=runs)) z z;have:=h r List.mem_cons_self;simp only[List.length_cons,List.flatten_cons,List.length_append];omega
def a6s{m m':lB α}{Q:YL α}(e:m=m')(h:GJ m'):GJ m:=AOU h
def a8C{Q:AZK}(i:IN)(U:IM)(J:pN)(hp:pendingOf st=#[])(T:BUE)
  (q:∀st':SortSt,DXT->BIN->XZ (rZ toList.Pairwise)->tK ()):GJ sortRuns':=by
 rw[sortRuns'_eq];rw[nF];dsimp only;generalize N:lM=sz;have S:zS IS st [] BRB:=OD U T AWX (A3V) (A3V) (vC hp);have O:EMG A6L:=λh=>AH h.perm.size_eq N
 have P:EMG (runs.flatten.length+rest.length):=λh=>by
  have:=congrArg List.length h.eq;rw[Array.length_toList,O h,List.length_append]at this;rw[NE 0x5cd6b16710569b0fbb17]
 rw[EH (ACS (ADW (F0=none/\∃runs rest,CFM/\ANV QF/\x<=QF)
  (Q:=sR (F0=none/\CQ2 st'))) (iY [] _ S rfl BW))]
 case fin =>
  rintro c st' ⟨e1,runs,rest,h1,h2,H⟩;have:=P h1;rw[EFB (lq 0x6529b3b04890bf838042651703e5e71f2ce7173558 h2 H this)];rw[CK e1 runs h1 (tF DKA)]
 case step =>
  rintro x c st' _ X ⟨e1,runs,rest,h1,h2,H⟩;obtain⟨R,lo⟩:=c;dsimp only at e1 h2 H⊢;subst e1;rw[AD v (P h1) F (O h1)];rw[nO (lo ≥ sz)]
  .rw[IG];rw[EFB (lq 0x24b0ce514bb530b59bc27a3e85458 h2 v e)];rw[YA (uK runs h1 (by rw[SD DKA 0xb9c9360e155c3b542598 v]))]
  .rw[FZ];have u:=J.perm h1.perm;have t:A4U n d SortSt (Kept lo st' d->0<n->VW<=sz->ALN (arrOf d) n->pV D8C (E45 f (c'.1=none/\CQ2 f) (c'.1=none/\∃runs rest,CCC f/\ANV c'.2/\fK<=c'.2)) d):=λn d l y B j=>by
    rw[h2]at l;have hR:=h1.kept l;rw[<-h2]at hR;have k:=O hR;rw[<-List.take_append_drop n (A80 d toList.drop lo)]at hR;refine b0m i J hR (c1x j (A5N 0xd94fd4752f8c7a2a06d98 B)) y (by rw[List.length_take,List.length_drop,Array.length_toList];rw[D4 0x27955d76ad6040c071aaca63367bfff227274b117dc6d98 B k]) h2 λG W k1 k2 k3=>iY W _ k1 k2.symm (by show fK<=VW;exact c4Z H y)
   rw[AFU (b0k i h1.kind u (nT 0x48c5ac458b43aae1e07b64457 F) (AXF 0x111f8206ed61294d6) (EX m d l L M j))];split
   .rw[ADM];rw[hJ k (A80 d size) sz (AIN l) F]
    rw[EH (b5J i (MQ l.1 h1.kind) (u.perm (TV l)) (A5N 0x2aff5f57733910419a10d723dc4cad2da4d8 e) AG j λG K C=>?_)];rw[KJ];rw[ELE (BD8 (min (sz-lo) (minRun' sz sz 0))) (by
     rw[ELH]
     .rfl
     .rw[BM6]
      rw[EOB]
      rw[B1S]) G (l.trans K) AG (AXF 0x1524a5fa4457de333217c0c09d08d7) C]
   .rw[ELE (BD8 m) (by
     rw[ELH]
     .rfl
     .rw[BM6]
      rw[EOB]
      rw[B1S]) d l (BI 4412211398253 L) (AX 0x24122acc624d835f927cfa4d7 e M) j]
 case post =>
  rintro c st' ⟨e1,runs,h1,h2⟩;obtain⟨R,lo⟩:=c;rw[A9X];dsimp only;rw[nV (a8G (sz:=sz) i J h1 h2) d V k1 k2];dsimp only;rw[BGH (q d k1.perm k1.failed ?_)];rw[k1.eq,List.append_nil]
  match V,k2,k1.sorted with
  |[],_,_=>rw[ABS]
  |[r],_,hs=>simpa using hs r AJ
  |_::_::_,k2,_=>simp at k2
#where
/---/def K0(h:Heap)(v:qB):qJ:=match v with
 |GG=>match CUS with
  |AC o=>match o.data with
   |.seq xs _=>xs.toList.map numOf
   |_=>[]
  |none=>[]
 |_=>[]
def G9{b:qE}{a:DI}{r:qJ}(t:BC1 h)(i:CKH a.toList):K0 h GG=r:=by
 obtain⟨o,h1,h2,n,c⟩:=t;unfold K0;simp only[h1,c];exact i.nums
def a2G{β:Type}{f:DE4}{os i:A57}(h:os.Perm i):∀{T:DC},i=T.map f->∃c:DC,c.Perm T/\c.map f=os:=by
 induction h with
 |nil=>intro T e;cases T with|nil=>rw[AV [] .nil rfl]|cons _ _=>rw[CG]
 |cons x _ m =>
  intro T e;cases T with
  |nil=>rw[CG]
  |cons t T =>
   rw[B2G]
   rw[D2 c h1 h2 m e2];rw[AV (t::c) (h1.cons t) (A2J List.map_cons h2 e1)]
 |swap x y l =>
  intro T e
  match T,e with
  |a::b::T,e =>
   rw[B2G]
   injection e2 with e2 e3
   rw[AV (b::a::T) (.swap a b T) (by rw[List.map_cons,List.map_cons,e1,e2,e3])]
 |trans _ _ d g =>
  intro T e;rw[AJB c (g e)];rw[D2 T2 j k d h2.symm];rw[AV T2 (j.trans h1) k]
/---/def kfH(h:Heap):B7Q OL.α:=FE (K0 h HH:qJ)
/---/def DH(h:Heap)(x:Keyed):Prop:=∃b its r,D46 HH/\E6I/\DGO
def c9x:B7W CK8 (DH s.heap) (ltK (kfH s.heap)):=by
 rintro⟨x,x'⟩ ⟨y,z⟩ C ⟨b,f,r,e1,i,d⟩ ⟨b',a,t,e2,j,e⟩ c;dsimp only at e1 e2;subst e1 e2;have c:C (HT.lexLt (AOR K0 GG) (K0 s.heap (AL b'))) s:=c;rw[G9 i d,G9 j e]at c;obtain⟨o,m,v,n,q⟩:=i;rw[A99 o' p u h j];refine kat_lt m q g h (a9D 0 d e ?_);rw[D95 k f.size r.length d.length]
 rw[D95 l a.size t.length e.length]
 rw[k,l,a9A];exact c
def a1Q{a:qE}{P:BPE}(p:aV s.heap.get? (pZ vs.toArray n))(T:B2F)(hw:B00)(S:A5D)
  (h:EI7 (HW (CMZ s.heap os.toArray))) :
  KO JM (Builtin.«list.sort» (MD OG)) P:=by
 rw[list_sort_plain];have N:a<s.heap.objs.size:=Heap.lt_size p;rw[WF (listItems_at p rfl ?_) (listUpdate_at p rfl ?_ (TW List.size_toArray) (Nat.zero_le _))];obtain⟨e1,q⟩:∃e1,BKS (CAP get?):=(DX (get?_update_seq p BNZ));rw[WF (seqEpoch_at q rfl ?_) (wpAny_newTuple ?_ (BI5 vs.length))];rw[BL (wpAny_newList ?_ FF)];rw[CJI];have f:DYG BFA:=by
  rw[DW (CYE (OH size_push' Heap.size_update (BJM N))) (CYE (IU Heap.size_update Nat.ne_of_lt N)) q]
 have k:∀b c,DGF s.heap->DGF C5J:=λb c ⟨o,C,m,M⟩=>by
  have U:BOD:=λz=>by
   rw[YK z p C C];have m:Value.type "list"=Value.type "tuple":=m;injection m with m
   rw[A60 m]
  refine⟨o,?_,m,M⟩;exact lH (AH (BOZ U) C)
 have H:=T.keeps k;show FV JM A _ P E (HW C5J);rw[CQB d (BFA BDH).push uD X (by
  rw[A6S i hi X];rw[B64 c F G BZC];rw[e2,G9 F G,G9 (k b c F) G])]
 generalize J:C5J=l at f H d;dsimp only;have fin:EI7 (CW1 (C9C os.toArray)):=λos h1 h2=>by
  have:=h os h1 h2;rw[tH sortedHeap];rw[TD J];rw[MZ]
 by_cases h2:vs.toArray.size<2
 .rw[ZN h2' DE9 h2]
  rw[if_pos h2,if_pos h2];rw[A65];rw[StateT.run_pure];rw[A65];dsimp only;rw[E0Z];rw[ECN (by rw[Array.size_map];show(pairsOf vs).size<=_;rw[BO pairsOf_size a2i S])];rw[E27];have e:((vs.toArray.zip vs.toArray).map (·.2))=vs.toArray:=by
   rw[CS4];simp[List.map_snd_zip]
  rw[jT _ _ (CW1 ((Obj.mapSeq λ_=>(vs.toArray.zip vs.toArray).map (·.2))))];rw[MY e wpAny_pure (fin vs AWX ?_)];rw[EGP Z V];omega
 .have h2':2<=vs.length:=by
   have:¬DE9:=A30
   rw[NE 0x66c3a9712ba5]
  rw[CF h2,CF h2];rw[BL (b3O H hw (BI 4412211399037 h2') ?_)];have I:AllD (DH l) CLT:=λx B=>by
   rw[ZN K (x∈vs.zip vs) B]
   obtain⟨_,W⟩:=mem_zip_self K;rw[A6S i hi W];rw[B64 c F G (H.2 i _ hi)];rw[NG b c r e2 F G]
  rw[BL (kL (BG a8C s (HW l) st (SortSt.mk' CK8 CLT #[] 7 none) (kf:=kfH l) (D:=DH l) (c9x (s:=HW l)) rfl I rfl rfl
   (Q:=FD st' (rZ Perm (vs.toArray.zip vs.toArray)/\BIN/\(arrOf st').toList.Pairwise (leK (kfH l)))) λst' C m M=>⟨C,m,M⟩) ?_ _ _ e e)]
  rintro⟨⟨⟩,st'⟩ s' ⟨rfl,R,O,hs⟩;dsimp only at R O hs⊢;have u:rZ toList.Perm (vs.zip vs):=by
   rw[AAZ (Array.perm_iff_toList_perm.mp R)]
  have t:CRI Perm vs:=by
   have:=u.map Prod.snd;rw[wF (aU List.map_snd_zip)]
  have g:EQ BRU (HH=bW/\HH∈vs):=λx B=>mem_zip_self (u.mem_iff.mp B);have e:GN arrOf st' (·.2)=CRI toArray:=by
   rw[CS4];simp
  rw[E0Z];rw[e];rw[ECN (by rw[KK List.size_toArray t.length_eq a2i S])];rw[O];rw[E27];rw[cA (fin _ t ?_)];rw[List.pairwise_map];rw[CMY B Y L];rw[AD h1 (g x B) h2 (g y Y)];rw[<-h1.1,<-APT,<-d _ h1.2,<-d _ h2.2];exact L
def a4o{x:qB}{Q:qI}(j:EBH t u n (n vs CW0) (DWJ t u))
  (T:B2F) (hw:B00) (F:A5D)
  (h:∀(h1 h':Heap) (os:AQ) (c:Nat),EKV (BNR h1.objs.size)) :
  DZR:=by
 rw[EPI (GQ (tJ j) h1 k1) G H G H B (by
  rw[A6S i hi B];rw[B64 a p q BZC];rw[EAR])]
 rw[EN3 CJ6 CJ6 F z (E5R k1 D3T z k (DKL C D))]
 rw[EC1]
 .rw[<-D65,<-f _ (k.mem_iff.mp D)];exact l
/---/def b6x(K:qF):RL:=E4F p ys AE (xs=VY/\(BIZ∨BJF)/\BQ7/\BTC /\
 ∀l zs tss,A2Y->AJH->DKB->xU->zs.Perm ys->DCN)
def a3b:∀{ys:AE}{us:AQ}{rss:LLI},A6N->BA7 rss.length->∃T:E5S,T.map (·.1)=us/\T.map (·.2.1)=ys/\T.map (·.2.2)=rss/\∀(i:Nat) t,DJ T t->BKN/\DJ ys ANZ/\DJ rss A2R
 |[],us,rss,r,e=>by
  cases r;cases rss with
  |nil=>exact AAF [] rfl (λi t h=>aG)
  |cons _ _=>rw[CG]
 |FY,us,rss,r,e=>by
  cases r with
  |cons h hs =>
   cases rss with
   |nil=>rw[CG]
   |cons r rss =>
    obtain⟨T,e1,e2,b,c⟩:=a3b hs CUM;refine⟨(_,y,r)::T,AYW e1,AYW e2,AYW b,A1P t a⟩;cases i with
    |zero=>cases a;rw[iD h rfl]
    |succ i=>exact c i t a
def a0G:∀{T:E5S},BT t T BKN->RE ((T.map (·.2.1))) ((T.map (·.1)))
 |[],_=>.nil
 |t::T,h=>E3Z .cons (A3B a0G u u)
def b2d(K:qF)(hK:AS:=by rfl):oK "sorted" b6x:=by
 subst hK;rw[EKW p ys z G];obtain⟨d,N,j,w⟩:∃d:AQ,BCG d/\jA/\EBH E F C (C d CW0) (DP9 E p F):=by
  rw[CM z]
  rw[EOO I.list pl.isList PX]
  rw[EOO I.tuple pl BMP]
 rw[AD hl N.length TT (a9M I G N)];obtain⟨T,U,t2,t3,t4⟩:=a3b N G.1;refine a4o w TT hw (~~~N7 j hl) λh1 h' os c k1 k2 e hp hs=>?_;rw[ENI l U.symm (t':=s.toks) D l M (by
  rw[EIX M S R (G.2 i _ r2) S R R];have Y:DJ d t.1:=by rw[DZ1 U]
  rw[ELT m P Z Y S Z])]
 have B:(l.map (·.2.1)).Perm ys:=by rw[<-t2];exact p1.map _
 rw[WT hv (RE ((l.map (·.2.1))) os) p2 (a0G λt M=>gB D M)]
 rw[ELZ W ((l.map (·.2.1))) (t':=s.toks) (AH B.length_eq j) hv W (D2S ((l.map (·.2.2))) E81 DYX ?_ B)]
 .rw[DLU];cases e2:l[i]? with
  |none=>rw[B57]
  |some t =>
   rw[B57];rw[iD A2R (RU D t e2).2.1]
 rw[EOQ (wJ D x hx) (wJ D y hy)]
def a9K(K:qF){e:Expr}{t:TA}{p pos:Pos}(f:CWO)(g:CYD)(c:oB)(b:AS:=by rfl)(d:pF:=by rfl)(a:oR:=by rfl):BUZ "sorted" b6x:=(BZG b2d a7e)
/---/def DRaw(h:Heap)(d:qE)(es:A5H)(ep:Nat):Prop:=∃ob:Obj,DGX/\ob.ExactDict/\ob.data=B3P
def DRaw.typ(x:A75):BTZ d:=by
 obtain⟨a,e1,e2,_⟩:=x;rw[AV a e1 e2.1]
def DRaw.lt(x:B11):d<h.objs.size:=by
 obtain⟨a,e1,_⟩:=x;exact Heap.lt_size e1
def DRaw.to{h':Heap}(x:B11)(k:∀a,iA d a->AN8 d a):B9E h':=by
 rw[NA a e1 q x a (GP e1) q]
section
variable {it:qE}
def b6t{Q:qI}(hs:BSZ)(D:A75)
  (q:wU (AOY "dict_keyiterator" .fields #[AL d,A8V 0,A8V es.size,A8V ep])):FH (AYK d):=by
 rw[EK8 b];refine wpAny_pyIter_slot ty PySem.F.slot_dict_iter (A1V PySem.F.slot_dict_iter ty PySem.F.entry_dict_iter ?body PySem.F.args_dict_iter_1)
 case body =>
  unfold Builtin.«dict.__iter__» Builtin.Dict.dictSlotNone;rw[BQK (A9C wpAny_notOrdered_dict ty)];rw[B4L (Builtin.Dict.showsAll d)];rw[EA Builtin.Dict.showsAll (CF (λz=>C9V hs))];rw[WF (BBM (E2S wpAny_bind (wpAny_dictEpoch e1 a ?_))) (A55 wpAny_newObj_type ⟨_,rfl,"dict_keyiterator",_,BPQ,PySem.F.slot_dict_keyiterator_next.lookup,?_⟩)];exact q
def b6u{Q:CWW}(I:DXZ)(D:A75)(hi:i<es.size)
  (q:CM1 (AV9 h'.IsKeyIter it AT) (Q (AC (BPW).key) VT)):CXO:=by
 rw[EPD f a]
 case body =>
  rw[DFX]
  rw[B63]
  rw[BL (wpAny_fieldsOf f1 a ?_)];rw[EL8];have b:DBT:=Bool.false_ne_true;rw[ELP AFN (E9H=AC BPW) Array.getElem?_eq_getElem]
  rw[B63]
  rw[BL (wpAny_isOneOf_keyiter I.typeIs ?_)];rw[B4L (setField mL 1 (rawInt CD1))];have c:AV9 (CST it CQO IsKeyIter) it AT :=
   UB (AWR f1 (Obj.isFreed_of_fields (Obj.data_mapFields a _))) (DPF f2) (by rw[Obj.data_mapFields a];simp[rawInt])
  rw[WF (wpAny_setField f1 a AJ (A1I wpAny_holding)) (wpAny_isOneOf_keyiter (s:=HW (s.heap.update it CQO)) c.typeIs ?_)];exact ADO (DS (DYT q c))
def c1N{Q:CWW}(g:XA)(I:DXZ)(D:A75)(hi:es.size<=i)
  (q:∀h',CLJ->Q none VT):CXO:=by
 rw[EPD h f]
 case body =>
  rw[DFX]
  rw[B63]
  rw[BL (wpAny_fieldsOf f1 f ?_)];rw[EL8];have c:DBT:=Bool.false_ne_true;rw[ELP A5U (PP (E9H)) Array.getElem?_eq_none]
  rw[B63]
  rw[B4L (setField mL 0 .none)];rw[BL (wpAny_setField f1 f AJ ?_)];rw[B4L E56];rw[EP1];rw[DW6];rw[BL DFY];rw[CQW BPQ];rw[wI (q _ EBX)]
def b4a(m:XA)(J d:qE)(f:d≠J)(es:A5H)(ep:Nat) :
  AKQ Walks J [J,d] [J] es.size EFX (λi h=>AV9 h.IsKeyIter J i/\B11) where
 sub:=λb c=>AF2 (List.mem_singleton.mp c)
 frame:=A4P g ⟨(w9).at λo e=>g J List.mem_cons_self o e,(w6).to λo e=>g d BOB o e⟩
 item:=λi s Q E hi st a=>b6u w9 w6 hi λh' k j=>a _ h' s.toks (ABR BPW (JY hi)) ⟨k,(w6).to λo e=>j.extBut d o f e⟩ (DJ7 j.extBut)
 done:=λs Q E st a=>c1N m w9 w6 BW λh' l=>a h' s.toks (DJ7 l)
 self:=λ_ _ _ _ st a=>wpAny_pyIter_keyiter w9 a
def c1L(hs:BSZ)(es:A5H)(ep:Nat):KdlSrc prog w "dict" d d es.size EFX (λh=>B11) where
 type:=FD D D.typ
 there:=FD D ⟨D.lt,D.lt⟩
 keep:=ZD D b (D.to λo e=>b d PX o e)
 notList:=AK
 notTuple:=AK
 hint:=λ_ _ _ _ D q=>kdl_hint_dict D.typ q
 iter:=ZD a D ⟨_,_,fW q (b6t hs D q),b4a a _ d (B9X D.lt) es ep,⟨AQY,BS3 D.to⟩⟩
#where
def a4n{x:qB}{Q:qI}(j:EFY t n (n vs D2X) (DWJ A.in1 t))
  (T:B2F) (hw:B00) (D:A5D)
  (h:∀(h1 h':Heap) (os:AQ) (c tk:Nat),EKV (LV h1.objs.size hQ)) :
  DZR:=by
 rw[EPI (BR j λh1 tk k1=>?_) F G F G z (by
  obtain⟨i,hi⟩:=List.mem_iff_getElem?.mp z;rw[B64 a p q BZC];rw[EAR])]
 rw[EN3 CKM CKM D u (E5R tk k1 D3T u k (DKL B C))]
 rw[EC1]
 .rw[<-f _ (k.mem_iff.mp B),<-D65];exact l
/---/def IK(rss:LLI):B7R Key:=zY DKC
/---/def b0T:RL:=E4F d qM aA (xs=AAP d/\DU8/\EDM/\BTC /\
 ∀l zs tss,A2Y->AJH->DKB->xU->DCN)
def c3e{H:Hp}:∀{qM:aA}{xs:AIY}{rss:LLI},A4Q->EDM->AKI (AAG CX6)/\AAO rss.length:=by
 intro qM xs rss r e;induction r generalizing rss with
 |nil =>
  cases rss with
  |nil=>rw[AZ (FN (λi v z=>ALB z)) rfl]
  |cons _ _=>rw[CG]
 |@cons p q ps qs h _ c =>
  cases rss with
  |nil=>rw[CG]
  |cons r rss =>
   rw[B2G]
   rw[OK (c e2)];rw[EV ⟨by rw[List.length_map,List.length_cons,List.length_cons,h2],A1P v b⟩ (A2J List.length_cons List.length_cons h2)];cases i with
   |zero =>
    cases b;refine AAF r BGM ?_;have a:=SE;have e1:DT=r.map Sum.inl:=e1;rw[e1,List.map_map]at a;exact a
   |succ i=>exact h1.2 i v b
def a6t{α:Type}(f:α->qE):∀xs:DC,RE (D4B V.ref) (D4B Value.ref)
 |[]=>.nil
 |EL=>.cons rfl (a6t f xs)
def b2c(hc:ED):rE "sorted" b0T:=by
 rw[EKW d qM hd hk];obtain⟨K,z,j,W,ob,es,ep,e1,e2,e3,P,R⟩:=AI I.hok hd;obtain⟨F,S⟩:=c3e W hk;have n:qM.length=j.length:=Paired.length W;have l:es.size=j.length:=by rw[DAM P]
 have D:A75:=⟨ob,e1,e2,e3⟩;have M:RE (j.map λx=>CX6) B3L:=a6t (λx:E48=>bS) j;have w:EFY N C (C B3L D2X) (DP9 X.A.in1 d N):=λN C k=>by
  refine kdu_collect (c1L z es ep) (BG6 X.A.in1.handled (I.ok.hd hc)) D (~~~b9L K n l) (DY h' tk qR kp m);have:qR.toList=B3L:=by
   rw[AYS i];rw[Array.getElem?_toList,List.getElem?_map];rw[lQ hi j.length]
   .have hia:i<qR.size:=by rw[DW m.1 l hi]
    obtain⟨e,he,J⟩:=m.2 i qR[i] (JY hia);rw[A68 g (DJ es.toList e) he]
    rw[P,List.getElem?_map,cC]at g;injection g with g
    rw[Array.getElem?_eq_getElem hia,cC,J,<-g];rfl
   .rw[Array.getElem?_eq_none (by rw[KK m.1 l X9 hi]),D88];rfl
  rw[AF this (k h' tk kp)]
 rw[AD hl M.length TT (a9M I F M)];obtain⟨T,t1,t2,t3,t4⟩:=a3b M F.1;refine a4n w TT hw (IF (N7 K n)) λh1 h' os c tk k1 k2 e hp hs=>?_;rw[ENI p t1.symm (t':=tk) B p G (by
  rw[EIX G Z Y (F.2 i _ r2) Z Y Y];have R:DJ ((B3L)) t.1:=by rw[DZ1 t1]
  rw[ELT r' U f3 R Z f3])]
 have L:CB (QK ((p.map (·.2.1)))):=by
  rw[cG E (p1.map (CCQ ANZ)).length_eq t2 E];simp only[List.length_map]at E⊢;exact b9L K n E
 rw[WT J (RE ((p.map (·.2.1))) os) p2 (a0G λt G=>gB B G)]
 rw[ELZ I2 ((p.map (·.2.1))) (t':=tk) L J I2 (D2S ((p.map (·.2.2))) E81 DYX ?_)]
 .rw[DLU];cases e2:p[i]? with
  |none=>rw[B57]
  |some t =>
   rw[B57];rw[iD A2R (RU B t e2).2.1]
 rw[EOQ (wJ B x hx) (wJ B y hy)]
#where
section
variable {X:Cx}
#where
section
open PySem.W
section
variable {prog:qH}{w:World}{A:Around}{E:qI}{s:qC}{d:qE}{ep:Nat}{es:A5H}
def c1M{Q:qI}(hs:BSZ)(D:A75)(b:AZQ CSW)
  (q:Q (.int es.size eV) (AL8 (eV+1))):FH (A2E "len" (AAP d)):=by
 rw[CM5 kind_len plain_len entry_len args_len1];rw[EK8 c];rw[CNV Builtin.«len» (oneArg "len" _)];refine wpAny_bind (m:=RC callSpecial? d CDI) (COZ CDI ty PySem.F.slot_dict_len PySem.F.slot_dict_len ty PySem.F.entry_dict_len PySem.F.args_dict_len_1)
 case body =>
  rw[XY (dictSize d>>=λn=>_)];unfold dictSize;rw[YG wpAny_bind (E2S wpAny_pure ?_)];rw[XY (Builtin.Dict.pendingCount d>>=λn=>_)];rw[BL (wpAny_pendingCount_other hs (wpAny_ret_mkInt ?_))];rw[jT _ _ sL];rw[show BOI+AQ6=CSW by simp];rw[BL (A55 wpAny_holding D33)];rw[XY (A19 (BOI<0))];rw[CF CD0];rw[XY (A19 (BM7 BOI))];rw[BO (CF (wQ 4879956384879447)) wpAny_bind (A55 wpAny_mkInt (DS q))]
#where
/---/def c4F:RL:=PY (nP a qM aA (xs=[V.ref a]/\A7F/\QG qM.length))
section
variable {X:Cx}
def b5q:AZO c4F:=by
 rw[QL p r];rw[WC a qM rfl j q];rw[cR n r.one n];obtain⟨k,b,f,l,m,es,ep,e1,e2,g,i,o⟩:=AI I.hok j;have d:qM.length=f.length:=Paired.length l;have c:es.size=f.length:=by rw[DAM i]
 have e:=k;rw[sizeLine_eq]at e;refine c1M b ⟨m,e1,e2,g⟩ AG ?_;rw[c,<-d];rw[EB (BK qM.length) H VI TM q]
variable {a b c e o i value:Expr}{es rest:BH}{ta tb tc te to td ty tv:TE}{t:TA}{pos p qO qN p2 pos' tpos:Pos}
def c3o(d:AYH)(f:AZ0)(b:oB)(c:pF:=by rfl)(a:oR:=by rfl):D9R c4F:=(DHS b5q)
def c0k(f:CWO)(g:CYD)(b:oB)(c:ED:=by rfl)(d:pF:=by rfl)(a:oR:=by rfl):AUH "sorted" b0T:=(E61 b2c a7e)
def c3u:E00 b5W:=⟨b7c⟩
def c9s(c:HQ)(hi:AIQ)(b:xQ)(a:DGV):CQ (CQ8 .In) DIT:=C5V c6q b7i
def c7d(c:HQ)(hi:AIQ)(b:xQ)(a:DGV):E4A .In c5y:=C5V b6H b7i
def b4J(c:HQ)(hi:AIQ)(b:xQ)(a:B8Y .NotIn o):E4A .NotIn b2B:=C5V b6H b4j
def a1A(b:HQ)(a:xQ)(hi:AIQ)(c:DEX)(hs:DC9:=by rfl):B31 JS BJD DY1:=⟨c1T D3I a.h hi.h c.h hs⟩
def C7(K:qF){f:Str}(c:AKD e)(a:AS:=by rfl)(b:EAQ:=by rfl):sK .Attribute e f (c8e K ta f):=by
 subst a;exact⟨c6p c.h b⟩
def F9(K:qF){f:Str}(b:AYC)(c:DEX)(a:AS:=by rfl)(hs:DCA:=by rfl):B31 JS BKD (c8s K ta tv f):=by
 subst a;exact bD c6a b.h c.h hs
#where
structure MethOk(P:qH)(w:World)(K:qF)(mg:BA)(base:Heap)(C:qE)(m:Str)(k:Nat)(ps:AA)(sp:Sp):Prop where
 ex:C5Q nM BY3
structure MethAt(K:qF)(C:qE)(m qual:Str)(st:Stmt)(ps:AA):Prop where
 ex:C5Q (Fun K m qual st f fd) nM
structure MakeOk(P:qH)(w:World)(K:qF)(mg:BA)(base:Heap)(x:Str)(C:qE)(k:Nat)(ps:AA)(sp:Sp):Prop where
 ex:∃f fd,BWG/\Mk K C f/\nM/\BY3
section
variable {P:qH}{w:World}{K:qF}{mg:BA}{base:Heap}{C:qE}{m qual:Str}{st:Stmt}{N ps:AA}{k:Nat}{sp:Sp}
def MethAt.fnJ(F:DDO)(S:yQ)(c:jM)
  (b:AKA qual (bJ ->
   D9T)):DQ4 m DA:=by
 rw[yO d F.ex];rw[EB f fd h1 d (DRS h2.okJ)]
def MethOk.make{x:Str}(O:DQ4 "__init__" k)(d:BWG)(c:BUO)(b:D99):XI MakeOk base x C k ps sp:=by
 rw[yO a O.ex];rw[NG f fd d ⟨c,h1.at_,h1.fn,b⟩ h2 a]
#where
section
variable {X:Cx}{C:qE}{m x:Str}{k:Nat}{ps:AA}{sp:Sp}{o e:Expr}{es:BH}{ta:TE}{t:TA}{pos qO p:Pos}
def a1h{pl:A6P}(O:DK0)(c:pJ)(j:aC)(i:AYC)(h:FT)
  (b:DB:=by rfl) (a:IL:=by rfl)
  (l:QT AZF=(AKM>>=λd=>C79 [d] (getMethod d m pl) f f (BJ7 (UZ IO)) DU1):=by rfl) :
  A8W AN2 (C25 E0 ta t):=by
 rw[yO g O.ex];exact⟨C57 b2X i.h g j h2 .nil a9g h.h b a l⟩
def a4y{pl:A6P}(O:DK0)(c:pJ)(e:aC)(d:AYC)
  (g:QT B2V=(AKM>>=λa=>C79 KG (getMethod a m pl) f f DCJ DU1):=by rfl) :
  CQ B2V (C25 E0 ta K9):=by
 rw[yO b O.ex];exact⟨C57 b6Y d.h b e h2 .nil a9g g⟩
def c0n(O:E1L)(j:AIX)(i:NM)(g:FT)(a:HP:=by decide)
  (h:DB:=by rfl) (b:IL:=by rfl) :
  A8W A0K (DY6 t):=by
 rw[DVY c d];exact⟨c2n h1 d j i c h2 .nil a9g g.h a h b⟩
def c3r(O:E1L)(e:AIX)(d:NM)(a:HP:=by decide) :
  CQ D7N (DY6 K9):=by
 rw[DVY b c];exact⟨b6Z h1 c e d b h2 .nil a9g a⟩
#where
#where
section
variable {H:Hp}
def a5D{K:qF}{src:LQ}{σ caps:St}{Q:VK}{a:qE}{vs:AE}{rss:LLI}{l:TT}(t:A0Q qJ)(o:A5D)(b:DHC)(k:SO)(d:UT)
  (g:EEG t (l AB9 H1 j)) (hd:∀H1 p m,IV->ALC->Its H1 m (rss.filter t)->CWA m):G3 src A8Y l CDX σ Q A6I H:=by
 rw[EC (S2 (xs:=vs) AG (iS (Its H' ys (eW rss.take i t))) (B8Q (CJ Its.nil))) (US ys ⟨BC3,AH SE (Nat.le_trans ZJ YX)⟩) ?_]
 .rintro i x ys H' hx ⟨s,hy⟩;rw[CL r n f c k.mem hx];rw[AA8 bN d (GQ (E8D n (c.same s) s) H2 s2)];rw[BM0 f];cases e:t r with
  |true=>rw[AH5 nD (by simpa[e]using(hy.same s2).snoc ((c.same s).same s2))]
  |false=>rw[AZ nD (by simpa[e]using hy.same s2)]
 .rintro ys H' ⟨s,hy⟩ p hp;rw[AS8 k.1 hy];exact hd H' p ys s hp hy
/---/def Prs(H:Hp)(ps:AE)(f:AY6)(js:GW):Prop:=ps.length=js.length/\KC i Nat q V (DJ ps q) (∃(j:Nat) (b:qE) (v:V),DJ js j/\q=GG/\D6J/\EDK)
def Prs.same{H H':Hp}{ps:AE}{f:AY6}{a:GW}(h:B4S ps a)(s:BN):Prs H' ps f a :=
 (AMO q (EKG j v (A07 q) j v (JU e3) (e4.same s)))
def Prs.nil{f:AY6}:B4S [] []:=FN (λi q e=>BRM)
def Prs.snoc{ps:AE}{f:AY6}{c:GW}{j:Nat}{b:qE}{v:V}(h:B4S ps c)(d:D6J)(g:EDK):B4S (ps++[GG]) (c++[j]):=by
 rw[C5K (DST CD) (VO i q) ps.length]
 .rw[List.getElem?_append_left hi]at e;obtain⟨k,b',l,e1,e2⟩:=A07 q;rw[EB k b' l CF1 e2]
 .rw[D6E];have a:i-ps.length=0:=by
   rcases Nat.eq_zero_or_pos (i-ps.length)with z|z
   .exact z
   .rw[GU (List.getElem?_eq_none (by simp;rw[DQ 0x6ca87428612c29990c9d322d15e z]))]
  rw[GU a];exact rV j b v (DL1 a) d g
/---/def b2x(K:qF)(i:Nat)(sp:Sp)(t:TA)(z:Int):TX:=λD R σ H=>XN t vs (sp vs H1 (λv H2=>c1O K v AMI H2 λu H3=>D.nx (σ.set i AET) H3) λc _ H'=>∃C,c=HJ/\R σ C H')
def b4g{X:Cx}{k:Nat}{ps:AA}{sp:Sp}{x y:Str}{p pos qN pos' ip sp':Pos}{e:Expr}{es:BH}{t:TA}{i:Nat}{z:Int}{jj:Nat}(d:C4A)(O:DE0)(hr:aC)(Z:NM)
  (T:X.N.Nodup) (hi:B1M) (hy:B52) (U:dX) (l:HP:=by decide)
  (W:DB:=by rfl) (m:QQ:=by rfl)
  (n:DK8:=by rw[A7A])
  (hs:DT7:=by rfl) (Y:B6W:=by rw[eF]) :
  PSx X EB7 (b2x X.K i sp t z):=by
 intro qL s σ H D R I h;obtain⟨f,fd,hm,hk,V,F⟩:=O.ex;refine wpAny_execs_cons (wpAny_Assign_Name (Subscript_ ?_) hs);rw[AXC (N9 I Z hm ?_) l];rw[C4P hk (B79 (AMR U qN h) (λg s1 (TZ vs a r q)=>GD a.kIn) d) W m];rw[C31 hl g.length r.length q]
 rw[cG b (V s1 g a.kIn D8Y) List.append_nil b];rw[AEY (A7O (F.run X.A X.stack s1 H1 (MD g) g vs _ _ hr a.env0 b r q) c)];cases r with
 |error e =>
  obtain⟨p,C,H',B,a0,h1,h2,K,L,M,N,P,Q,C',S,j⟩:=c;cases S;exact⟨σ,H1,s1,p,C,H',B,a0,h1,a,h2,K,L,M,N,P,Q,j⟩
 |ok fl =>
  cases fl with
  |ret u =>
   obtain⟨v,H2,A,rv,q2⟩:=a.after c;rw[IR wpAny_Constant_int];have E:=A.tok (s'.toks+1);refine B79 (AO c0o qL _ σ H2 v AMI u _ _ E rv TM q2 (BR n)) (DV u' s4 ⟨v',w,G,o,q4⟩) d;exact a4L G T hi hy o (λs2 J=>CR9 (UB w J q4)) Y
  |next=>rw[NI c]
  |brk=>rw[NI c]
  |cont=>rw[NI c]
section
variable {X:Cx}{k:Nat}{ps:AA}{sp:Sp}{x y:Str}{p pos qN pos' ip sp':Pos}{e:Expr}{es:BH}{t:TA}{i:Nat}{z:Int}{jj:Nat}
def c0a(K:qF)(O:DE0)(n:aC)(m:NM)(g:X.N.Nodup)(hi:B1M)(o:B52)(h:FT)(f:AS:=by rfl)(d:C4A:=by exact fW z z)(a:HP:=by decide)
  (j:DB:=by rfl) (b:QQ:=by rfl) (c:DK8:=by rw[A7A])
  (hs:DT7:=by rfl) (l:B6W:=by rw[eF]) :
  JX X EB7 (b2x K i sp t z):=by
 subst f;exact⟨b4g d O n m g hi o h.h a j b c hs l⟩
#where
#where
universe L2
section
open PySem PyProof.Rows
#where
namespace L2
open PySem PySem.Spec PyProof.Rows
section
variable {X:Cx}
variable {o e:Expr}{es:BH}{to:TE}{t:TA}{pos qO qN:Pos}
#where
universe L2
namespace L2
variable {α:Type}
def c9q{us:DC}(h:us.length=0):us=[]:=List.length_eq_zero_iff.mp h
def c6V{us:DC}(h:us.length=1):∃a,us=KG:=by
 cases us with
 |nil=>cases h
 |cons a us=>rw[AZ a (W0 (AK3 c9q))]
def c6U{us:DC}(h:BLR 2):∃a b,us=VD:=by
 cases us with
 |nil=>cases h
 |cons a us=>rw[OM b (AK3 c6V)];rw[AV a b BR8]
def c6T{us:DC}(h:us.length=3):∃a b c,us=[a,b,c]:=by
 cases us with
 |nil=>cases h
 |cons a us=>rw[ACZ b c (AK3 c6U)];rw[CK a b c BR8]
def c8V{us:DC}(h:BLR 4):∃a b c d,us=[a,b,c,d]:=by
 cases us with
 |nil=>cases h
 |cons a us=>obtain⟨b,c,d,e⟩:=AK3 c6T;rw[EB a b c d BR8]
def c9p{us:DC}(h:BLR 5):∃a b c d e,us=[a,b,c,d,e]:=by
 cases us with
 |nil=>cases h
 |cons a us=>obtain⟨b,c,d,e,q⟩:=AK3 c8V;rw[NG a b c d e (W0 q)]
section
open PySem PySem.Spec PyProof.Rows PySem.W
abbrev FnL(K:qF)(f:qE)(nm qn:Str)(st:Stmt)(oc:qB)(od:IY)(sl:eH)(kV dc pm:qB)(an:IY)(cd ct:qB):Prop:=B6Z (PySem.W.fnOf nm qn ANA A0B fD .none kV dc pm an cd ct) sl
variable {K:qF}{h:Heap}{mg:BA}{x qn:Str}{st:Stmt}{f:qE}{od an:IY}{sl:eH}{oc kV dc pm cd ct:qB}{C:qE}{m:Str}
def c9b(X:AXO)(G:AU6)(a:C5D)(l:DYQ)(c:DD2)(k:B0E){ps:AA}
  (e:CQZ DUP):AJZ:=E7B (mg_of X G a)
def c8S(a:E7J)(i:D1M)(l:DYR)(c:DD3)(k:B0E){ps:AA}
  (e:EGO):DDN:=(E7B ⟨a,i,k⟩)
#where
section
open PySem PySem.Spec PyProof.Rows PySem.W
variable {K:qF}{h:Heap}{mg:BA}{x nm qn:Str}{C N:qE}{bs bm sub bmB above:AQ}{hd ab:Bool}{sn:AA}{col:tV}{dd:IY}{k0 k1 k2 k3 k5:SZ}{qQ:String}
def b0V(X:AXO)(b:BWG)(c:DX8)(tx:A91 tailIn bmB bm)(ok:XT nsOkIn N)(a:AKF nsIn N "__init__"):CPV h :=
 ⟨b,bm,N,nm,qn,bs,hd,sn,sub,ab,col,dd,k0,k1,k2,k3,k5,_,AI X c,.of_isNs (isNs_of_in X ok),nsMap_none_of_in X ok a,tail_of_in X tx⟩
def b3D(b:DX8)(a:BIM):ClsX K C [] :=
 ⟨nm,qn,N,bs,bm,hd,sn,sub,ab,col,dd,k0,k1,k2,k3,k5,qQ,b,a,KD⟩
#where
inductive Ex1{α0:Type}(p:WJ α0):Prop
 |mk (a0:α0) (h:p a0):Ex1 p
inductive Ex3{α0 α1 α2:Type}(p:α0->EN α1 α2):Prop
 |mk (a0:α0) (a1:α1) (a2:α2) (h:p a0 a1 a2):Ex3 p
inductive Ex4{α0 α1 α2 α3:Type}(p:α0->α1->EN α2 α3):Prop
 |mk (a0:α0) (a1:α1) (a2:α2) (a3:α3) (h:C5X p):Ex4 p
inductive Ex5{α0 α1 α2 α3 α4:Type}(p:α0->α1->α2->EN α3 α4):Prop
 |mk (a0:α0) (a1:α1) (a2:α2) (a3:α3) (a4:α4) (h:p a0 a1 a2 a3 a4):Ex5 p
inductive An3(a0 a1 a2:Prop):Prop
 |mk (h0:a0) (h1:a1) (h2:a2):An3 a0 a1 a2
inductive An9(a0 a1 a2 a3 a4 a5 a6 a7 a8:Prop):Prop
 |mk (h0:a0) (h1:a1) (h2:a2) (h3:a3) (h4:a4) (h5:a5) (h6:a6) (h7:a7) (h8:a8):C5X An9 a4 a5 a6 a7 a8
inductive An10(a0 a1 a2 a3 a4 a5 a6 a7 a8 a9:Prop):Prop
 |mk (h0:a0) (h1:a1) (h2:a2) (h3:a3) (h4:a4) (h5:a5) (h6:a6) (h7:a7) (h8:a8) (h9:a9):C5X An10 a4 a5 a6 a7 a8 a9
universe L2
namespace L2
namespace Tab
open PySem
/---/def gI:AN3 Nat
 |0,x=>x
 |FJ,x=>5*gI n x+1
/---/def gS:VF Nat
 |0=>0
 |FJ=>5*gS n+1
abbrev Pr:=SetTable.Probe
/---/def adv(mask:Nat)(p:Pr):Pr :=
 if p.more > 0 then {p with j:=p.j+1,more:=p.more-1} else
 {p with j:=AYP,more:=SetTable.runEnd mask AYP-AYP,i:=AYP,perturb:=(CCP).2}
/---/def c7Q(mask:Nat)(p:Pr):VF Pr
 |0=>p
 |FJ=>adv mask (DTD p)
/---/def c9o(mask i pt:Nat):Pr:={j:=i,more:=SetTable.runEnd mask i-i,i,perturb:=pt,dummy:=none}
/---/def st0(mask:Nat)(h:Int):Pr:=c9o mask (SetTable.bits h % (mask+1)) (SetTable.bits h)
/---/def pos(mask:Nat)(h:Int)(n:Nat):Nat:=(DTD (st0 mask h)).j
def nodup_le{α:Type}[D5P]:EH4
 |[],b,_,_=>FF
 |A5P,b,e,h=>by
  rw[EP0 nodup_le]
/---/def fr(owner:aK (AKU))(j:Nat):Bool:=(owner.getD j aS).isNone
universe Tab
universe L2
namespace L2
namespace Tab
open PySem
section
variable {prog:qH}{w:World}{A:Around}{E:qI}{s:qC}
def items_int{r:qJ}{vs:AQ}(h:ItemsAre (intKind prog w) r vs):HK vs (∃i t,v=AP5):=by
 induction h with
 |nil=>intro v b;cases b
 |@cons k v ks vs h1 _ c =>
  intro u a;rcases AMK with e|a
  .obtain⟨t,ht⟩:=Value.isInt_shape h1;rw[AV k t (e.trans ht)]
  .exact c u a
/---/def hsh(prog:qH)(w:World)(r:qJ):Int:=tupleKeyHash (intKind prog w) r
/---/def ent(prog:qH)(w:World)(x:qJ×qE):D2P:=(AUZ hsh HH,B9G bW)
#where
universe Tab
universe L2
namespace L2
namespace Tab
open PySem
section
variable {prog:qH}{w:World}{A:Around}{R:nY}{I:qE}{fp wr:EK}{G:DMQ}{n:Nat}{P:DAW}{St:BPC}
#where
section
variable {prog:qH}{w:World}{A:Around}{E:qI}{s:qC}
def a6o(a:qB){Q₁:qI}
  (h:RC Q₁ s.heap.objs.size CM0) :
  codeAny JM A (.call (.builtin "set.__new__") (MD [CTJ,a])) (BF5 Q₁) s:=by
 rw[IR codeAny_of_tree];rw[PZ A.in1 ((do checkBuiltinCall "set.__new__" ⟨[.type "set",a],[]⟩;again (.builtin "set.__new__" ⟨[.type "set",a],[]⟩)))];rw[BL (wpAny_of_eq (PySem.F.newCall_set_1 a) (wpAny_pure ⟨CZM PySem.F.plain_set_new,CKF PySem.F.entry_set_new⟩))];rw[CJZ PySem.F.plain_set_new];unfold Builtin.«set.__new__» Builtin.Frozenset.newClass;have b:=sub_set_self;rw[nL c];dsimp only
 wp_walk
 rw[aM wpAny_askSetting wpAny_pure];dsimp only;simp only[newObj];rw[BL (AP1 wpAny_alloc)];exact wpAny_pure h
def a7p:E01 CTJ:=DL3
def a1V:E01 (JK "frozenset"):=DL3
#where
universe Tab
universe L2
namespace L2
namespace Tab
open PySem PySem.W
section
variable {prog:qH}{w:World}{A:Around}{E:qI}{s:qC}{a it:qE}{es:aK D2P}{ep i:Nat}{t:SetTable}
#where
universe Tab
universe L2
namespace L2
open PySem PySem.Spec PyProof.Rows
section
open PySem.W Tab
section
variable {X:Cx}
variable {e:Expr}{es:BH}{t:TA}{p pos:Pos}
#where
#where
section
variable {A:Around}{E:qI}{H:Hp}{X:Cx}{e:Expr}{kw:mX}{pos:Pos}{prog:qH}{s:qC}{t:TA}{w:World}
section
variable {a b:Expr}{ta tb:TE}
#where
def Its.take{vs:AE}{rss:LLI}(h:SO)(n:Nat):Its H (vs.take n) (rss.take n):=by
 rw[EV (DSS CD) BTA];rw[List.getElem?_take]at e;split at e
 .rename_i hi;rw[NA r e1 e2 A9W r (OH List.getElem?_take (if_pos hi) e1) e2]
 .rw[CG]
def Its.one{v:V}{r:qJ}(h:B24):OY [v] [r]:=Its.nil.snoc h
section
open PySem.SeqAt
open PySem.AutoSeq1 (wpAny_loadPart')
open PySem.MeetsSeq PySem.MeetsSeq2 PySem.MeetsSeq3
#where
section
variable {qL:CV}{σ:St}
#where
section
variable {I l S:qE}{vs:AQ}{R:nY}{h₀:Heap}
/---/def W4(h h':Heap):Prop:=t8 UJ h'.get?
def b4B(B:D3Y)(hh:XA)(L:l≠I)(r:S≠I)(J:CT1 I)(K:CT1 S)(hl:BHF h₀.IsList)
  (D:EPK X Y AIE X Y B (richCompare .Lt X Y))
  (hR:∀v h' tk,B3D (argBest B CTV)->E2H->AU4 v hQ) :
  ∀(k j:Nat) (h:Heap) (t:Nat) (p:qB) (c:Nat),vs.length-(j+1)=k->JC<=vs.length->h.IsListIter I l JC->AIE->GK vs DOR p->iA S (E0A (.seq #[p,p] c)) ->
   codeAny JM A (CEN "min.loop" [BGF,.none,AL S]) R (eS s h t):=by
 rw[EJ2 m]
 rw[EGU (EFH hh I l L vs.toArray) G];have gI:EBO AIE I E2H:=EGV u u J;have gS:∀{h:Heap}{f:DKH},AIE->W4 h₀ (h.update S f):=λg b o e=>E1P K CJV;rw[EJ4 AIE (by
  rw[EIY hl])]
 intro k;induction k with
 |zero =>
  rw[EPB];have F:BLS JC:= AX 0x11e445716d92b4a725b90d6170fad366d6 u T
  rw[EGN];rw[AZC (IE W.done (DLP (ASA G F y)) λh' tk d=>?_)];have a:=E7G;rw[DSP BNZ];refine wpAny_updateSeq a rfl (wpAny_bind BIW);exact hR p _ tk (QE F n) (gS (gI g d))
 |succ k V =>
  rw[EPB];have x:JC<vs.length:= AD9 0x291e662bf1df8ecd21ab6d7
  rw[EGN];rw[AZC (B2D JC _ (AH G x) (DLP y) (EX v h' tk Z q d))];rw[ZN U (B3D JC) Z]
  rw[AD a E7G H (gI g d)];rw[ANQ (tryCatch (holding [v,v] (richCompare .Lt v p>>=_)) _)];rw[AZC (A54 wpAny_holding (AO D JC DOR v p _ _ H U n ?_))];rw[WF (kC wpAny_holding wpAny_truthy_bool) BIW];cases P:B JC (argBest B j)with
  |true =>
   simp only[if_true];rw[bO];refine wpAny_updateSeq a rfl D33;rw[m];rw[CL oI M N O id CS];rw[cA ⟨B2A,DPS v _ D91 x ⟨oI,ATU r M,N,O⟩ (gS H) (by simp only[argBest,P,if_true];exact U) (AWR a rfl)⟩]
  |false =>
   simp only[Bool.false_eq_true,if_false];rw[MC wpAny_letGo];rw[MY m wpAny_pure ⟨B2A,DPS p c D91 x CS H (by simp only[argBest,P,Bool.false_eq_true,if_false];exact n) a⟩]
#where
def a8s{id:String}{b:Builtin}{args:AQ}{Q:qI}(i:ET builtinKind id)(hp:EG plainId id)
  (h:DRT id b) (g:argsOk id (WL args))
  (d:FV JM A.in1 (b D0S) (λfin s'=>match fin with
   |.done f=>(match (Except.ok f:Result)with | AOB v=>BIB | BML=>False | BN7=>DOZ)
   |.again c'=>AY c'.quiet/\codeAny JM A c' (λr s'=>match r with | AOB v=>BIB | BML=>False | BN7=>DOZ) s') E s) :
  DXF (.builtin id):=by
 rw[AEY (codeAny_call_builtin hp h ?_)];simp only[checkBuiltinCall,i];cases a:Manifest.signature? id with
 |none=>rw[wI d]
 |some sig =>
  have c:AG7 (Bind.checkArgs id sig D0S):=by simpa only[argsOk,a]using g
  simp only[c];rw[wI d]
section
variable {p kp np:Pos}{nk:Nat}
#where
section
variable {te:TE}{p2:Pos}
#where
section
variable {I l S:qE}{vs:AQ}{R:nY}{h₀:Heap}
#where
section
variable {p kp np:Pos}{nk:Nat}{d:Int}
#where
section
variable {es:BH}{p:Pos}
#where
#where
section
open PySem.W
variable {X:Cx}
section
variable {tg:Expr}
#where
section
variable {o e:Expr}{es:BH}{to:TE}{t:TA}{qO qN:Pos}
#where
section
variable {k:Nat}{ps:AA}{sp:Sp}{x:Str}{p pos qN:Pos}{e:Expr}{es:BH}{t:TA}
#where
#where
section
section
variable {X:Cx}
variable {e:Expr}{es:BH}{t:TA}{p pos:Pos}
#where
#where
section
open PySem.W
variable {X:Cx}
section
variable {prog:qH}{w:World}{κ:Type}[AIM]{knd:DI5}{A:Around}{E:qI}{s:qC}
#where
section
variable {prog:qH}{w:World}{κ:Type}[AIM](knd:DI5)
#where
section
variable {qL:CV}{σ:St}{H:Hp}{s:qC}{a b:qE}{z:V}{r:qB}{qM:aA}{k:VR}{A:Around}{E:qI}
#where
section
variable {o e f:Expr}{qO qN:Pos}{td ty tx:TE}
#where
section
variable {e:Expr}{es:BH}{t:TA}{p pos:Pos}
#where
#where
section
open PySem.AutoSeq1 (wpAny_loadPart')
section
variable {prog:qH}{w:World}{A:Around}{E:qI}{s:qC}
#where
section
variable {X:Cx}{e:Expr}{es:BH}{t:TA}{p pos:Pos}
#where
#where
section
open PySem.W
open Sem (wp)
section
variable {prog:qH}{w:World}{κ:Type}[AIM](kd:AUZ KeyKind κ)
variable {kd}
variable {A:Around}{E:qI}{s:qC}
#where
/---/def h2(kss:LLI):Int:=reduceHash (Builtin.Tuple.tupleHashOf (kss.map λks=>reduceHash (Builtin.Tuple.tupleHashOf (ks.map hashInt))))
/---/def LdO(d:qE)(xs:D6R):HO:=BYI ((d==sysModules)=false/\A2U /\
 ∃ob es ep,DGX/\ob.ExactDict/\ob.data=B3P/\DMN (FE ⟨h2 HH,AL bS,x.2.2⟩)/\DAE)
/---/def Tq(H:Hp)(a:qE)(kss:LLI):Prop:=∃vs,CDZ/\OY vs kss
abbrev K2(H:Hp):EN CVO D6R:=C2D (C4L (Tq H BGM DT))
/---/def LD(H:Hp)(d:qE)(qM:CVO):Prop:=∃xs,GX d (LdO d xs)/\K2 H qM xs
section
variable {P:qH}{w:World}{H:Hp}{h:Heap}{a:qE}
#where
section
variable {X:Cx}{o i e f value:Expr}{pos pos' qO qN:Pos}{td ty tv tx:TE}
#where
#where
section
open PySem.W
section
variable {prog:qH}{w:World}{A:Around}{E:qI}{s:qC}
#where
section
variable {X:Cx}
#where
#where
section
variable {A:Around}{E:qI}{X:Cx}{e:Expr}{es:BH}{k:Nat}{pos:Pos}{prog:qH}{s:qC}{sp:Sp}{t:TA}{w:World}
section
variable {qL:CV}{σ:St}{H:Hp}{h':Heap}
#where
section
variable {a:Expr}{ta:TA}{te:TE}{p p2 pos2:Pos}
#where
section
variable {tg:Expr}{te:TE}{p:Pos}
#where
section
variable {k':Nat}{ps ps':AA}{sp':Sp}{x x' y:Str}{p p' ipos qN cpos' pos':Pos}{e' c:Expr}{es':BH}{t':TA}{tc:TT}{i:Nat}
#where
structure MethOkE(P:qH)(w:World)(K:qF)(mg:BA)(base:Heap)(C:qE)(m:Str)(k:Nat)(ps:AA)(sp:Sp):Prop where
 ex:C5Q nM DA2
def MethAt.fnE{P:qH}{K:qF}{mg:BA}{base:Heap}{C:qE}{m qual:Str}{st:Stmt}{N ps:AA}(F:DDO)(S:yQ)(e:jM)
  (b:AKA qual (bJ ->
   AUN (BBR A85 fD))):E5Z DA:=by
 rw[yO i F.ex];refine⟨f,fd,h1,i,?_⟩;rw[EK4]
def b3n{P:qH}{K:qF}{mg:BA}{base:Heap}{N:AA}{qual:Str}{scope:Scope}{f:qE}{cd:qB}{outer:HL}{b:qC}{a:Hp}{E:XK}
  {C:qE}{m:Str}{ps:AA}{o:Expr}{ta:TE}{qO:Pos}{pl:A6P}(O:E5Z k) (c:UR) (q:DPG)
  (n:JE rH o ta) (l:DIG)
  (g:E93:=by rfl)
  (d:D2H:=by rfl)
  (r:eval AZF tP=(eval o tP>>=λi=>C79 [i] (getMethod i m pl) h h (backTo pos (starEach IO tP)) (backToKw pos (keywordEach [] tP))):=by rfl) :
  JE rH AZF (C25 E ta t):=by
 obtain⟨h,fd,h1,h2,j⟩:=O.ex;exact⟨C57 b2X n.h j q h2 .nil c4J l.h g d r⟩
def b5C(a:qB):argsOk "min" (MD KG):=DLI
def b5o{l:qE}{vs:AQ}{Q:qI}(t:D3Y)(M:XA)(r:BHF s.heap.IsList)
  (k:EPK N O BUQ N O t (richCompare .Lt N O))
  (d:CUT) (h1:∀v h' tk,B3D (argBest t CTV)->DTC->Q v hQ) :
  FH (call (.builtin "min") AW8 []):=by
 rw[EJ2 a]
 obtain⟨ol,H,_⟩:=id r;have C:D2A:=Heap.lt_size H;refine a8s PySem.F.kind_min PySem.F.plain_min PySem.F.entry_min (b5C _) ?_;rw[PZ A.in1 (EFT>>=_)];rw[BL (wpAny_of_eq (A0D (EFT=pure [none,none])) ?_)];rw[A65];rw[WF (wpAny_pyIter_list r ?_) (wpAny_newList ?_ FF)];rw[a];have L:AHE=GE:=size_push' ..;have n:l≠s.heap.objs.size:=Nat.ne_of_lt C;rw[FQ c (AHE≠s.heap.objs.size) L D3Q]
 rw[cA (GD B2A)];have K:W4 s.heap (A9J A1Z uD):=GR x BO5;have gI:AIP A1Z uD s.heap.objs.size A1Z :=
  AXR
 have gS:AIP A1Z uD AHE uD:=IW;have P:CT0 s.heap.objs.size:=aU Heap.get?_none_of_le;have J:CT0 AHE:=Heap.get?_none_of_le (by rw[BO L Nat.le_succ _]);generalize AHE=S at c gS J;rw[EGU (EFH M s.heap.objs.size l n vs.toArray) I];rw[EJ4 BUQ (by
  rw[EIY r])]
 rw[CQC (seqItems? (.ref _)) (ACL gS) (ANE s.heap.objs.size)];have T:EBO BUQ s.heap.objs.size DTC:=EGV V V P;rw[AZC (B2D 0 _ (AH I d) ⟨B9S gI,lst K⟩ (EX v h' Z U p m))];rw[ZN X (B3D 0) U]
 rw[AD f (m S _ (CJ c) gS) R (T K m)];rw[DSP (CO #[v,v])];rw[EC wpAny_updateSeq f rfl];rw[a];rw[CL Y D F G id DT];exact wpAny_pure ⟨B2A,BG b4B h₀ s.heap s s t M n c P J r k (λv' y q B u=>h1 v' y q B u) _ 0 _ _ v _ rfl d ⟨Y,ATU c D,F,G⟩ (GR o (E1P J (YH R))) X (AWR f rfl)⟩
def a9N{ns:qJ}:∀k:Nat,CP5<=k/\∀j,AH2->DEU<=t0
 |0=>⟨BW,λj a=>D4A (Nat.le_zero.mp a)⟩
 |DA=>by
  rw[OK (a9N (ns:=ns) k)];rw[argBest];rw[nO (CIP DA<DEU)]
  .rw[DL5 AIG BW]
   .rw[BO q Int.le_refl _]
   .have:=h2 j DV8;rw[PR 0xe7ecd3ece7b8e e]
  .rw[DL5 AIV (AB1 a2i)]
   .rw[AF q (lq 5177713851250 e)]
   .exact h2 j DV8
def b5m(K:qF)(B:ED)(z:AS:=by rfl):oK "min" c4C:=by
 subst z;rw[QL N o];obtain⟨p,c,rfl,hs,r,q⟩:=h;rw[cR E o.one E];rw[CL e w F M I.list hs];have b:e.length=c.length:=by rw[<-w.length,List.length_map]
 have d:KC i Nat m qB (DJ e m) (∃t,m=A9R CWU):=λi m hi=>by
  have f:i<c.length:=by rw[<-b];exact LM hi
  rw[D2 O k o w.get (show(AOW c.map)[i]?=DL CWU by rw[DS0 AT1 AT1])];rw[AU hi k k];exact o
 refine b5o (CFH c.getD (c.getD j 0)) (I.ok.hd B) F.isList (λh tk i j m G L J g hi n C=>?_) (~~~b8t r b) (DY v h' tk D g)
 .rw[GC (d i m hi)];rw[QU u (d j G n)];exact iZ (D6G HT.rcLt_int)
 .rw[GC (d _ v D)];obtain⟨x,y⟩:=a9N (ns:=c) (e.length-1);rw[EBB (DBH tk g) A]
  .rw[ACQ (LZ (ZU 0x402e883897e400912b7054ee67e85f r b x))]
  .rw[C91 j n A];have:=y j (~~~c4V b n);rw[List.getD_eq_getElem?_getD (l:=c) (i:=j),List.getElem?_eq_getElem n]at this;rw[MZ]
def c3l(K:qF){p:Pos}(g:CWM)(h:CYB)(c:oB)(d:ED:=by rfl)(b:AS:=by rfl)(f:pF:=by rfl)(a:oR:=by rfl):BUZ "min" c4C:=(AK6 b5m c0X)
#where
section
open PySem.W
variable {X:Cx}
section
variable {e:Expr}{es:BH}{t:TA}{p pos:Pos}
#where
section
variable {k v:Expr}{tk tv:TE}{pos:Pos}
#where
#where
section
open PySem.Builtin PySem.Builtin.Str PySem.StrLaws
def a3c:∀{ys:AA}{us:AQ},A3W ys.map V.str us->∃l:A7Z Tok,us=strValues l/\l.map (·.1)=ys
 |[],us,h=>by cases h;rw[iD [] rfl]
 |FY,us,h=>by
  cases h with
  |cons r q =>
   rw[GC r];rw[D2 l rfl e a3c q];rw[iD ((y,t)::l) (AYW e)]
/---/def b6D(K:qF):OU:=EOK (AP8 CY0)
section
variable {X:Cx}
def c2N(K:qF)(f:AS:=by rfl):D8W BQ4:=by
 subst f;rw[ENV w o n d g c];rw[GC o];rw[cR m n.one m];obtain⟨j,k,r,_⟩:=I.list hs;rw[hH l b a3c k];have i:DNH:=by
  rw[AF b (joinFits d g)]
 rw[EIH meets_str_join_list i r.isList]
 match l,b with
 |[z],b =>
  rw[EHC]
  rw[E7M]
 |[],b =>
  rw[B7J]
  rw[ED5 c]
  rw[E96]
 |E3X,b =>
  rw[B7J]
  rw[E4U c]
  rw[DYM]
#where
def a6y:AEK ys AA tk (A3W ys.map V.str (strsFrom tk ys))
 |[],_=>.nil
 |FY,tk=>.cons (ZA tk) (a6y ys (tk+1))
/---/def b6w:OU:=nB (∃(a b:Str),A38 a/\vs=[CUR]/\1<=b.length/\CB (a.length+2)/\A8N (fG p (JQ (Txt.split a b).map)))
section
variable {X:Cx}
def b7G:MtR X "str.split" b6w:=by
 rw[nC p n m];rw[RZ a b rfl rfl j g q];rw[GC n];rw[DU u l m.one];rw[QU f l];have c:=split_le a b;have one:DD8 KG->tQ TY (AOY "list" .seq [Value.str a t].toArray):=λe=>by
  rw[e]at q;exact APQ s.toks (o:=CC [.str a]) k ⟨A6R,_,0,.cons ATP .nil,IW⟩ AGF
 by_cases h1:vN DP5 DP6
 .rw[C6G (meets_str_split_cannot_occur a b t f h1) (one ?_)];rw[EA Txt.split BHN]
 .have h1':(DP5 || DP6)=false:=by simpa using h1
  have i:(b.length==0)=false:=by
   rw[BO beq_eq_false_iff_ne b7X j]
  by_cases d:AY EIM
  .rw[C6G (meets_str_split_not_found a b t f h1' i d) (one ?_)];unfold Txt.split;rw[AY3,CXJ]
  .have hf':EIM=false:=by simpa using d
   have e:DD8 CQX:=by
    unfold Txt.split;rw[AY3,CF d]
   rw[e]at q c;rw[C6G (meets_str_split_sep a b t f h1' i hf' AG (~~~b8H g c)) ?_];exact APQ (s.toks+_) (o:=BAG CQX) k ⟨IF (b8H g c),_,0,BR a6y,IW⟩ AGF
#where
def c0N{α:Type}{c:α}:∀{a b u v:DC},c∉a->c∉b->a++c::u=b++c::v->a=b/\u=v
 |[],[],_,_,_,_,h=>by rw[AEM _ h];rw[AZ rfl h]
 |[],AXY,_,_,_,e,h=>by
  rw[AEM h1 _]
  rw[FO (AF2 h1) e]
 |A5P,[],_,_,d,_,h=>by
  rw[AEM h1 _]
  rw[FO (QE h1 List.mem_cons_self) d]
 |A5P,AXY,u,v,d,e,h=>by
  rw[AEM h1 h2]
  rw[QN e1 e2 (c0N (λz=>d A4A) (λz=>e A4A) h2) (IC h1 e1) e2]
def a1e(c:Nat)(x y:Str)(r:AA):BZL wW=x.cps.toList++c::BZL fM:=by
 show(DXX).cps.toList=_;rw[Str.cps_append,Str.cps_append,Array.toList_append,Array.toList_append,List.append_assoc];rfl
def a9H{c:Nat}:∀{ps qs:AA},CWR->FW qs->BT a ps BTW->BT a qs BTW->mV GH ps (RG GH qs)->ps=qs
 |[],_,h,_,_,_,_=>yI
 |_,[],_,h,_,_,_=>yI
 |[p],[q],_,_,_,_,h=>W0 (show p=q from h)
 |[p],q::q2::r,_,_,b,_,h=>by
  rw[EJT p.cps.toList this DOG]
 |DS6,[q],_,_,_,d,h=>by
  rw[EJT q.cps.toList this.symm DRP]
 |DS6,q::q2::s,_,_,b,d,h=>by
  have:=congrArg COF h;rw[a1e,a1e]at this;obtain⟨e1,e2⟩:=c0N DOG DRP this;have f:mV GH (p2::r) (RG GH (q2::s)):=DM4 e2;rw[DM4 e1,a9H AJ AJ (λa e=>b a AXX) (λa e=>d a AXX) f]
def a1W{c:Nat}{ps:AA}(h0:CWR)(h:∀a∈ps,BTW):Txt.split DBC GH=ps:=by
 refine a9H (c:=c) A5I h0 (BB a b) h (BR join_split)
 .rw[A33 split_pos DBC GH z];simp at this
 .exact split_free _ c a b
#where
section
open PySem.NumText
/---/def E9(n:Nat):Str:=Str.ofString (toString (ER n))
def a1k(n:Nat):AI7=DQG map Char.toNat:=PySem.W.KIN.signs_num n
def U8(n:Nat):AllDigits AI7:=λc b=>by
 rw[a1k]at b;rw[D2 ch a e List.mem_map.mp b];have r:=digit_range (Nat.isDigit_of_mem_toDigits AK AK a);rw[KP e r]
def a1j{n k:Nat}(a:0<k):AU5 k↔n<10 ^ k:=by
 rw[<-Nat.length_toDigits_le_iff (b:=10) AK a,show DFC=ANN cps.toList.length by rw[Array.length_toList];rfl,a1k,List.length_map]
def a4C(n:Nat):FW AI7:=by
 rw[a1k];intro e;have h:=Nat.length_toDigits_pos (b:=10) (n:=n);rw[List.map_eq_nil_iff.mp e]at h;rw[A60 h]
def b1Y{n:Nat}(h:AU5 4300):PySem.intText? (E9 n)=AC EY:=by
 have e:=intText_digits (U8 n) CWD h;rw[a1k,PySem.W.KIN.val_back]at e;exact e
def a6S:DZV (ANN cps.toList.head?≠AC 48):=by
 have key:DZV (∃d,0<d/\d<10/\DQG head?=CA Nat.digitChar d):=by
  intro n;induction n using Nat.strongRecOn with
  |_ n g =>
   intro f;by_cases h:n<10
   .rw[CK n f h (vC (Nat.toDigits_of_lt_base h))]
   .rw[A21 d a e (g CML AG AG)];refine⟨d,a,c,?_⟩;rw[cG t (Nat.toDigits_append_toDigits (b:=10) (n:=CML) (d:=n % 10) AK AG (AWO Nat.mod_lt)) Nat.div_add_mod t];rw[<-t,List.head?_append,e];rfl
 intro n f;rw[A21 d a e (key n f)];rw[a1k,List.head?_map,e];have:∀d:Nat,d<10->0<d->AC (((Nat.digitChar d).toNat))≠AC 48:=AK
 exact this d c a
def b4V:E9 0=CWK:=rfl
/---/def c4H:RL:=PY (∃(x:Str) (n:Int),xs=[SK]/\CRF 640/\JN PySem.intText? n/\QG n)
/---/def a9a:RL:=PY (∃(n:Nat),xs=BRH/\DGH/\Q C1D H)
section
variable {X:Cx}{e:Expr}{t:TA}{p pos:Pos}
def b5u:BTG c4H:=by
 rw[QL c r];obtain⟨x,n,rfl,a,b,q⟩:=h;obtain⟨u,rfl,t,rfl⟩:=r.one;exact PySem.W.KIN.call_text b a (iT BN1)
def b5k:iK "str" a9a:=by
 rw[E0S n];refine ZE a8t _ c Q I r (GO n ?_ q);have h1:n<2 ^ 1900:=Nat.lt_trans b PF;rw[BZ7]
 .subst a;decide
 rw[ECM (Nat.lt_trans h1 PF)]
def c3q(d:CWN)(f:CYC)(b:oB)(c:pF:=by rfl)(a:oR:=by rfl):AUH "int" c4H:=(DHT b5u)
def a1C(d:IB "str")(f:L1 "str")(b:oB)(c:pF:=by rfl)(a:oR:=by rfl):AUH "str" a9a:=(ARO S1 b5k c0W)
#where
section
variable {X:Cx}{o e:Expr}{es:BH}{to:TE}{t:TA}{qO qN:Pos}
def V7(K:qF)(h:aF)(g:FT)(f:AS:=by rfl)(b:D1Q:=by rfl)
  (d:jK:=by rfl)
  (c:SQ:=by rfl) (hs:DB:=by rfl) (a:QQ:=by rfl) :
  BUY "join" BQ4:=(EAA c2N)
def a5F(K:qF)(h:aF)(g:FT)(f:AS:=by rfl)(b:bV "split":=by rfl)
  (d:jK:=by rfl)
  (c:SQ:=by rfl) (hs:DB:=by rfl) (a:QQ:=by rfl) :
  BUY "split" b6w:=(CL0 PySem.F.slot_str_split PySem.F.type_str_split b7G)
#where
#where
section
variable {K:qF}{Q:qI}{X:Cx}{qO qN pos:Pos}{e:Expr}{es:BH}{k:Bool}{t:TA}{te:TE}{w:World}
/---/def Itc(x:Str):It:=⟨AYJ CUB,AE6 v (H'=H/\∃c,DN7/\v=.str GH),AYJ CWT⟩
def b3M{P:qH}{tg:Expr}(it:qE)(x:Str)(t:Tok):BL8 BNC (h.IsStrIter it "str_ascii_iterator" x t i) where
 mem:=AJ
 obj:=AJ1 b (by
  rw[vA it f]
  rw[C7J])
 keep:=A4P k (let ⟨o,ho,r⟩:=st;UC (D8A ho) r)
 item:=by
  rw[EP4 CUB];refine wpAny_pyNext_ascii_item st (c:=CJN) BQ1 λh' st' B=>?_;have y:eN BHL:=I.turned (t':=eV) (mE f B.extBut f) j f1 l m n;rw[CQG];exact DS (CQM (s:=BHL) (A3P (pW CJN)) y TM (uK _ BQ1 rfl) g)
 done:=by
  rw[EP4 CWT];exact wpAny_pyNext_ascii_end (I.ok.hd u) st BQ1 λh' A=>FN (BWY A j l m n)
 self:=B5T wpAny_pyIter_striter_ascii
/---/def c5i(tl:TE):TI:=BDG tl v (∃x:Str,C1W/\CV1 x.cps.all/\R (Itc x) H1)
section
variable {tg:Expr}
def c2i{l:Expr}{tl:TE}(f:AJE):AR4 DKD:=by
 rw[ASY];refine CM9;rw[RX x a i g j];rw[A21 x rfl q g];rw[GC i];rw[C7K wpAny_pyIter_ascii c a.kept (b3M _ x t) d d]
 rw[DXD]
def b3l{l:Expr}{tl:TE}(a:C0N):JI X tg l DKD:=⟨c2i a.h⟩
#where
def b5f{src:LQ}{g:TG}{h:TT}{σ:St}{Q:VK}{x:Str}{H1:Hp}(f:CB x.cps.size)(a:wY)(h0:E83)
  (e:C7B)
  (hs:∀i c ys H,DN7->AQO->E8N (A3P GH) d d (a AT ys d))
  (hd:ACP a x.cps.size A3F):B4T h BNC :=
 EKN x.cps.size (e i ys H p) v (by obtain⟨rfl,c,k,rfl⟩:=y;exact hs i c ys _ k p)
  (E7W (e _ ys H p))
section
variable {prog:qH}{A:Around}{E:qI}{s:qC}
def a5r{T qQ:String}{b:qB}{rest:AQ}{kw:mX}(e:COM "__init__" "object.__init__")
  (f:ALU Bind.madeBy T=jP some qQ) (c:DZN) :
  A4R Builtin.«object.__init__» (WL nK) (s.TypeIs b T/\D9L s):=by
 refine Meets.of_wp (EX prog w A R s ⟨d,a⟩);cases rest with
 |nil =>
  cases kw with
  |nil=>rw[wI (DS a)]
  |cons y kw =>
   rw[pK]
   exact DS a
 |cons y rest =>
  rw[pK]
  exact DS a
def b0g{T qQ:String}{f:Builtin}{args:AQ}{kw:mX}{S:PySem.Spec}(a:TypeCalled T qQ "object.__init__")
  (c:DZN) (m:AG7 (checkTypeCall T (WL args))) (b:AG7 (checkBuiltinCall qQ (WL DED)))
  (d:∀obj,argsOk "object.__init__" (WL (obj::args))) (l:DRT qQ f) (g:Meets (f (WL DED)) S)
  (h:S A.in1 (BF5 (λobj s₁=>s₁.TypeIs obj T/\Q obj s₁)) s):DXF AD6:=by
 obtain⟨v,y,j⟩:=a.mro;rw[E2W n a.made o a.sub];rw[EJM (lS callAny T _) F.entry_type_call T args kw (units_type_call_type T args kw)];rw[AD p a.notType q a.canCreate]
 rw[pK]
 rw[BU3 (codeAny_call_builtin a.plain l (wpAny_of_eq b (g prog w A.in1 _ s h))) s₁ e];rcases r with x|fl
 .exact e
 cases fl with
 |ret obj =>
  obtain⟨i,k⟩:=e;rw[AD t a.init.lookup u (a.init.bind obj)]
  rw[pK]
  rw[ECY (codeAny_call_builtin a.init.plain F.entry_object_init (D6G a.init.check i (d obj) ((a5r a.init.lookup a.made c) prog w A.in1 (CPL (Q obj s₂)) s₁ (CU i k))))];rcases r₂ with x|fl₂
  .exact hr₂
  cases fl₂ with
  |ret r =>
   obtain⟨rfl,k⟩:=hr₂
   rw[pK]
  |_=>exact hr₂.elim
 |_=>exact e.elim
def b4Z(l:qE)(xs:DI)(t:Tok) :
  A4R Builtin.«enumerate.__new__» ⟨[BN6,FP],DP2⟩ (D4C /\
   AUV BSC (HW ((s.heap.push ACH).push C7L))) :=
 (A7V (by
  rw[nL e];rw[uL b h];have c:=sub_enumerate;have a:A08 (C01 e) xs:=b
  rw[BUB]
  intro Γ p f;change FV _ _ (A3Q (_:Bool)) _ _ _;rw[ADI];rw[LF c5q ?_]
  .rw[BUB]
   rw[oH]
  .rw[BUB]
   rw[oH]))
def b1Z{e it l:qE}{i:Nat}{z:Int}{items:DI}{x a:qB}(N:AK1 s.heap z)(J:B5I)(V:y6)(W:BOS)(ne:DLK)
  (U:∀(h':Heap) (t:Tok) (tk:Nat),CPT h' s.heap.objs.size->DUD->BTX (DTI (A9R z))->DEB ->
   (kE ASU (BOE->QC->AXB))->wU hQ) :
  EEU Builtin.«enumerate.__next__» e:=by
 rw[A39 e 2];rw[A36 (wpAny_field N rfl (x:=mL) rfl) (a2A J V W λh1 L u=>?_)];have h:AK1 h1 z:=AO u.extBut ne N;rw[A39 e 3];rw[MC (A7R h (rawInt z))];rw[A39 e 4];rw[MC (A7R h .none)];rw[DXP];rw[A36 wpAny_mkInt (E4D (eS s h1 eV) h h2 j y)];replace j:AK1 h2 ABV:=j;rw[BL (E4D (eS s h2 eV) j d f B)];replace f:AK1 d ABV:=f;rw[MC wpAny_newTuple];have K:d.objs.size=s.heap.objs.size:=by rw[B.1,cF,u.1]
 have r:e<d.objs.size:=Heap.lt_size f;have m:AK1 (A7G d.push #[BI6 z,x]) ABV:=QX f;rw[CR0 m];rw[DXP];rw[MC wpAny_rule];rw[A36 (A7R m a) (AVB m S n C)];replace n:C30 S ABV x:=n;rw[bO];unfold Builtin.SmallTypes.ownedTupleHandOut;rw[BL (wpAny_setField_rec n AJ λT p D=>?_)];replace p:DJP T:=p;refine wpAny_setField_rec p AJ λG g F=>?_;replace g:DJP G:=g;rw[MC wpAny_letGo];have P:BL1 (c≠e) (A8F d.get?) G.get?:=λc o I q=>E69 I I I kR;have M:G.get? d.objs.size=AC (DTI (BI6 z)):=E69 BPS BPS BPS IW;have O:G.objs.size=d.objs.size+1:=by rw[F.1,D.1,C.1,Heap.size_push]
 rw[cA tW];show LV d.objs.size _;rw[K]at M O g⊢;refine U G s.toks eV g (((A9P L.extBut y.extBut ne.symm B.extBut ne.symm)).at λo q=>P it o ne.symm q) M O λb o H R q=>P b o H (AO B.extBut H (YF y.extBut H u.extBut R q))
def b5a{e it l:qE}{i:Nat}{z:Int}{items:DI}{f:qB}{Q:BPE}(m:XA)(j:C30 s.heap z f)(a:B5I)(n:y6)(p:BQ5)
  (h:CGZ x (AJL (c≠e) (c≠it->uG->AGR)) (JN h'.get? o) x) :
  FH (BJJ Builtin.«enumerate.__next__» e):=by
 rw[A39 e 2];rw[MC (B76 mL)];rw[A58 (a7q m a n p λh1 x b d=>h h1 x (λc o _ g q=>AO b g q) d)]
def a4I(a v:qB):AG7 (BX8 checkTypeCall "enumerate" KG):=NJ
def a6m(a v:qB):AG7 (BX8 checkBuiltinCall "enumerate.__new__" [BN6,a]):=NJ
def b2h(a b v:qB):BX8 argsOk "object.__init__" VD:=DLI
def b2a{l:qE}{xs:DI}{t:Tok}(b:D4C)
  (h:∀h',IsEnum h' GE s.heap.objs.size 1 .none->sS h' s.heap.objs.size 0->CID uQ->AJL uG AGR->BNR GE) :
  FH (call BN6 AW8 DP2):=by
 refine b0g F.called_enumerate AK (BR a4I) (BR a6m) (DKK b2h) F.entry_enumerate_new (b4Z (k:=k) l xs t) (GD b);rw[DI0 d BSC];have a:AIP ACH C7L BSC _:=IW;have g1:AIP ACH C7L s.heap.objs.size ACH:=AXR;show _/\_;rw[d]at a;rw[d];rw[EV (PN a) (h _ a ?_ (IC Heap.size_push d) λc o x=>lH x)];rw[BM9 k g1]
#where
/---/def It1(K:qF)(k:Bool)(a:qE):It :=
 ⟨CPE B2H,
  AE6 v (∃p x,v=EZ/\RH/\H'=D5D/\CMV B2H),
  CKY B2H⟩
structure ETurn1(k:Bool)(e it a:qE)(i:Nat)(h:Heap):Prop where
 en:∃old,C30 h (1+OE) old
 t1:ItAt k h it a i
def b0q{P:qH}{kt:Nat}{tp:Pos}{a e it:qE}(ne:DLK) :
  EES AJS BEQ e (ETurn1 k e it a i h) where
 mem:=AJ
 obj:=AJ1 c (by
  rw[AH9 f f]
  .rw[ZI l st.en];exact EM q ADP
  rw[C6S st.t1.get])
 keep:=A4P k ⟨DM0 l ⟨l,AHK e q⟩,st.t1.at λo q=>D8A q⟩
 item:=by
  rw[ELJ];obtain⟨xs,x,j,C⟩:=L;rw[E8T];rw[D2 u hu R O.get C];rw[EJE (DUJ
   (CS8 F.slot_enumerate_next p F.entry_enumerate_next
    (b1Z g st.t1 N (x:=u) CUP ne λh' t tk V W Y a4 Z=>ATF) (F.args_enumerate_next_1 _)))]
  rw[AC1];refine wpAny_letOwnedTupleGo_enum (s:=hQ) V λh2 J n=>?_;have y:A2K BEQ CY8:=λc f q=>by
   have:∃o,uG:=by
    rw[AH9 f f]
    .exact DX g
    rw[C3Z st.t1.get]
   obtain⟨o,z⟩:=this;exact B03 z (B1F q)
  have m:A5K:=bR;have M:=AO n.extBut (A8U y e AJ) Y;have kk:E95 BEQ:=λc o f q=>by
   rw[AK5 f];exact AO n.extBut gT (Z c o gT f.2 q)
  have S:DWG CM3 :=
   I.turnedT (ch:=[e,it]) B rfl kk (EB9 [A9R (1+i),u] ATP R M)
  rw[iF U S.tok tk (OD TY _ U (OX x rfl m rfl (BB zs hz)) ⟨DX ((show PV+ER AT=1+i+1 by rw[SJ 0x583e9b863a2e2026d]) ▸ J),W.extBut n.extBut ne.symm⟩ BXG)]
  .rw[AF (I.sqk_inj hz j) C]
  rw[E7A y B]
 done:=by
  rw[ELJ];rw[A3R xs r L];rw[E8T];have l1:=O.length;rw[EJE (DUJ
   (A1V F.slot_enumerate_next p F.entry_enumerate_next (b5a CXF g st.t1 N (BDQ N7 r l1) (BS h' x hk C)) F.args_enumerate_next_1))]
  rw[ELA C (I.turnedL (ch:=[e,it]) B) q];rw[AK5 f];exact hk c o gT f.2 q
 self:=ELS (DM0 _ (wpAny_pyIter_enum q h))
/---/def c7r(K:qF)(ta:TA):TI:=C2V (∃k a,vs=OG/\(∃xs,ANO k K H1)/\R AJS H1)
section
variable {M:Model}{A:Around}{E:qI}{s:qC}{env:Env}
def a5X{T:String}{rest:BH}{kws:A88}
  (h:KO M (E2Z C1Y) ((λvs s₁=>wpAny M A (evalAll ((backToKw pos (keywordEach kws env)).map (·.2))) (λqM s₂=>wpAny M A (call (.type T) vs (((backToKw pos (keywordEach kws env)).filterMap (·.1)).zip qM)) Q E s₂) E s₁)))
  (c:backTo pos C1Y=yY (BAI env) (COD rest):=by rfl)
  (f:AM6 C1Y:=by rfl) (b:EG (E2T all) ((·.1.isSome)):=by rfl) (d:JP (E2T any) ((·.1.isNone)):=by rfl) :
  KO M (callWith pos AD6 [] DJD E7T) Q:=by
 have h2:KO M (evalArgs AD6 true DJD E7T) (λa s₁=>C4Z (call AD6 ([]++a.pos) a.kw) s₁):=by
  rw[c]at h⊢;exact evalArgs_kwB b h
 unfold callWith;rw[YG wpAny_holding (A7I h2 (λa s₁ h₁=>A1I wpAny_standAt))];simp only[f,d,Bool.or_false];rw[A65];rw[A58 (A7I h₁ (λr s₂ g=>DM3 (A55 wpAny_point g)))]
#where
def c0i(K:qF){v:Nat}{z:Pos}{a:Expr}{ta:TA}{p kp np:Pos}{nk:Nat}(o:IB "enumerate")(r:L1 "enumerate")(m:JA X KG ta)(l:AS:=by rfl)
  (n:backTo pos CTI=yY AO1 DCJ:=by rfl) (e:AM6 CTI:=by rfl) :
  JI X (.Tuple es v z) (.Call (AKV "enumerate") KG [⟨AC "start",.Constant (BK 1) nk np,kp⟩] pos) (c7r K ta):=by
 subst l;refine⟨pL R h ?_⟩;refine wpAny_Call_Name_kw (a3w I o r a8z ?_ AK AK);refine a5X (EW (BBU m.h) A s1 D) n e;rw[RX vs j y x D];refine kws_cons (kC wpAny_Constant_int kws_nil);obtain⟨k,E,rfl,⟨xs,t⟩,q⟩:=x;rw[cR g y.one g];have d:=j.tok BDU;rw[CL A g w G d.sqk t];refine b2a w (DY h' i B F C);rw[EC wpAny_pyIter_enum (s:=eS s1 h' BDU) i];refine⟨BMF,[BMF,s1.heap.objs.size],_,_,H1,rfl,DBI BDU C,b0q (nne (cY 13776102005)),⟨DX i,B⟩,BXG,q⟩;have b:D0J:=by
  rw[AH9 f f]
  rw[AFD]
  rw[D76]
 exact d.fpOk b (d.hok.fresh b)
def b4S{a:qE}{xs:AE}{g:TG}{tb:TS}{D:Ends}{σ:St}{H:Hp}(c:A5V)(h0:BS1)
  (j:C3T B2H)
  (hs:∀i x σ H p,YY->ANL->RH->A9Y (g EZ σ D5D) uE uE) (hd:BXX) :
  AJ7 (A74 ->
   AJ9 (AJS).stop (AJS).go f f (W AT f σ' H') (AJS).yld):=by
 rw[CPU DGL];have d:=j i σ H hi p;rw[CNJ]
 .rw[AVN (BFE d CJ1) uE (RO _ CKQ b p')];obtain⟨l,x',e,e2,h,n⟩:=y;subst e h;exact hs i x' σ _ l (n xs d) p e2
 .rw[C3B]
  rw[AK0 (AUQ d)]
/---/def c8x:R2:=λx y H Q=>∃(c:Nat) (z:Str),A38 GH/\y=.str z/\BEB D2C
/---/def c8u:RL:=PY (∃z:Str,EFE)
/---/def c5p(i j:Int):Prop:=0<j/\DNL
section
variable {a b c o i:Expr}{ta tb tc td ty tv:TE}{p:Pos}
def c6B:AZH c8x:=by
 rw[ND a b];rw[WC c z rfl rfl q];rw[GC a];rw[eZ b];rw[IR PySem.P.in_str];rw[StrLaws.found_one];exact BUU
def c0c(c:BZ)(d:CY)(e:BU5):A6D .In c8x:=YE a1v c6B c.h d.h e
def a8h(d:AYH)(f:AZ0)(b:oB)(c:pF:=by rfl)(a:oR:=by rfl):D9R c8u:=(DHS a8v)
def c5g(c:BZ)(d:CY)(hs:AXI:=by rw[A7A]):C4U c8w:=YE b7a c7l c.h d.h hs
def c3h(d:BZ)(e:CY)(f:DMR)(g:DDD:=by rw[eQ]):JT X DBL (EBS xT xT):=EJW b6I
def b7l:DWY c5p:=AK7 i j (by
 rw[EAT DNL];refine floordiv_int D52 E04 (jX PyProof.noPylong_of_log2 ?_);refine iQ Nat.log2_lt AG ?_;rw[A5A b (BHZ j.natAbs)]
 exact Nat.lt_trans b PF)
def c3t(c:BZ)(d:CY):DX3 c5p:=SR b7l
def Y0(b:HQ)(a:xQ)(hi:AIQ)(hs:c7M i:=by rw[A7A]):BI1 o i DD5:=YE c2q D3I a.h hi.h hs
#where
structure JPs(X:Cx)(pos:Pos)(keys:AFW)(values:BH)(trs:yC):Prop where
 h:AI5 keys values trs
section
variable {k v:Expr}{ks:AFW}{vs:BH}{tk tv:TE}{trs:yC}
def c7e:BII [] [] []:=⟨c1W⟩
def a4w(a:CQ k tk)(c:CQ v tv)(b:BII ks vs trs):DXB E3E:=bD b6Q a.h c.h b.h
def c7j(h:DXB trs)(a:EG (cU A4M) ((·.isSome)):=by rfl)(c:BV A4M=BV A4G:=by rfl)(b:BV A4M<=15:=by decide):sK .Dict A4M A4G DK9:=⟨c2p h.h a c AEI b⟩
#where
/---/def c0r(items:DI)(x:qB)(i:Nat)(_:C1Q):Sem (ForInStep C1Q) :=
 match CDQ with
 |AC y=>do
  let b <-eqBool y x
  if b=true then do
    let r <-retInt (i:Int)
    pure (ForInStep.done (some r,()))
   else pure (ForInStep.yield (none,()))
 |x=>D96
def b3q{prog:qH}{w:World}{B:Around}{E:qI}{s:qC}{items:DI}{x:qB}{f:dH}{k:Nat}{Q:PH ((C1Q))}(n:D0R)(a:C0Y)(l:DTG)(i:∀j y,D6D->EGE B)
  (q:ASM (AC (Fin.done (.ret DNS)),())):∀m j,j+m=items.size->AH2->FV JM B (forIn (List.range' j m) (BJN Fin,()) (c0r items x)) Q E s
 |0,j,h,b=>AG
 |m+1,j,h,b=>by
  rw[List.range'_succ,List.forIn_cons];have c:j<items.size:= wR 0x1ccf59f7ad1b835d7
  have hi:MA items items[j]:=by simp[c]
  rw[bO];rw[EA c0r hi];rw[BL (i j _ hi prog w _ _ ?_)];rw[KB j k]
  .rw[DG];rw[a];rw[nL o]
   wp_walk
   exact q
  .rw[l j (~~~b9g b e)];rw[ADI];exact b3q n a l i q m JC (wR 0x119033b1dd71f9a50a135d7) (~~~b9u b e)
def c0p(l:qE)(items:DI)(n:Nat)(dd:IY)(sl:eH)(x:qB)(f:dH)(k:Nat)(i:D0R)(a:C0Y)(c:DTG) :
  Meets (Builtin.«tuple.index» (MD [FP,x]))
   (λA R s=>AVX/\(∀j y,D6D->EGE A.in1)/\AU4 DNS sL):=by
 intro prog w A R s h;rw[nL o];rw[AWB m b h];unfold Builtin.«tuple.index»;simp only[Std.Legacy.Range.forIn_eq_forIn_range',Std.Legacy.Range.size]
 wp_walk using PySem.AutoSeq1.wpAny_loadPart' m
 have e:(min items.size items.size-0+1-1) / 1=items.size:=by simp
 rw[e];refine b3q i a c b ?_ items.size 0 (cY 6111941725) (Nat.zero_le _);exact wpAny_pure h
/---/def b6E(K:qF):OU:=nB (∃(a:qE) (xs:AE) (y:V) (n:Nat) (f:dH) (k:Nat),x=BF/\B23/\A4E/\n<=8/\(∀j z,A1R z->AP9 n z (f j))/\A6K/\C0Y/\(∀j,j<k->CMX)/\QG k)
section
def b7J(E:HQ):wG "tuple.index" (b6E X.K):=by
 rw[nC L J G];obtain⟨a,xs,y,n,f,k,rfl,rfl,t,D,A,C,g,B,q⟩:=h;cases J;rw[hH u F a3K G];obtain⟨z,c,r,o,p,w,m,hd⟩:=BC5 AY5 t;obtain⟨cls,dd,data,sl⟩:=o;have e:cls=.type "tuple":=BRY w;simp only at hd;subst e hd;have b:=r.length;rw[lO PySem.F.slot_tuple_index (PN p) PySem.F.entry_tuple_index PySem.F.args_tuple_index_2 (c0p a c.toArray m dd sl u f k (AEJ b C) g B) (C5U p (DV j K d) k TM)];have d:MA c K:=by simpa using d
 have l:WZ:=by rw[b];exact LM d
 obtain⟨M,hw,i⟩:=r.get (List.getElem?_eq_getElem l);rw[AU d hw hw];exact EqV.at I (D4Y A j l) (by show AO6 AN7;rw[D4 0x43cc610c9cffc0327d312a7 E D]) i F
/---/def c8f(r:OU)(to:TE)(t:TA):TE:=MU to x ((C2U (E33 a))/\QM t vs (r x vs H2 Q))
variable {o:Expr}{to:TE}{name:Str}{id:String}{r:OU}
def c6r(j:Slot "tuple" name id)(l:C6L)(B:wG id r)(C:AHV)(A:dX)
  (d:BSF:=by rfl)
  (g:HI (AMB
   && AMA):=by rfl)
  (f:SQ:=by rfl) (hs:DB:=by rfl) (c:QQ:=by rfl) :
  C0V (c8f r to t):=by
 rw[ECJ d g f C M];obtain⟨x,H1,n,J,⟨a,xs,D,k⟩,F⟩:=M;subst D;cases J;obtain⟨z,E,rr,u,i,q,m,hd⟩:=(show ObjOk X.prog X.w H1 s1.heap a AY5 from n.hok a _ k);rw[EBJ ⟨"tuple",id,PySem.F.plainAttrs_tuple,j,l,⟨u,i,BRY q⟩,(λb y=>by cases y;rw[AV u i (fZ Prod.snd q)]),?_⟩ p A n F p ((by show(false || (backTo qN (starEach es X.env)).any (·.1))=false;rw[c]<;>rfl))];exact thn p λL s2 (SI vs w K G)=>AAM B BF vs BF L Q w rfl K G
def b4L(K:qF)(i:HQ)(h:aF)(g:FT)(f:AS:=by rfl)(b:D1R:=by rfl)
  (d:jK:=by rfl)
  (c:SQ:=by rfl) (hs:DB:=by rfl) (a:QQ:=by rfl) :
  CQ (A0N "index") (c8f (b6E K) to t):=by
 subst f;exact⟨c6r PySem.F.slot_tuple_index PySem.F.type_tuple_index (b7J i) h.h g.h b d c hs a⟩
#where
abbrev TF:=St->Hp->EN Str ((CVI))
/---/def c9t:TF:=λ_ H qR Q=>Q qR H
/---/def c9u(te:TE)(t:TF):TF:=E10 (∃x,C1W/\DF2/\DJI)
/---/def c9v(te:TE)(t:TF):TF:=E10 ((∃x,C1W/\CB x.length/\DF2/\DJI)∨∃n:Nat,v=.int n/\DGH/\CB (BV D1X)/\CP7 D1X)
/---/def tFs(t:TF):TE:=QY σ (t σ H Str.empty λx H1=>CB x.length/\Q (.str x) H1)
structure JFs(X:Cx)(es:BH)(t:TF):Prop where
 h:ENC qR Str Q CVI (t σ H qR Q) (Joins T6 X.A X.xe (eJ evalEach es) qR (λx s1=>∃H1,C0R/\Q x H1) s)
section
variable {e1 e2:Expr}{t:TF}
def a4x:JFs X [] c9t:=C7H ⟨H,I,h⟩
def a1B(b:XE)(d:DB6):BXB JFs c9u:=C7H (by
 rw[PZ _ aN];refine cE b.h i;obtain⟨x,H1,a,g,y,f,c,q⟩:=i;subst f;rw[QU tk g];rw[EB y tk rfl c (gQ d.h _ Q a q)])
def R6(g:XE)(c:DB6):JFs X (EA6::es) (c9v te t):=C7H (by
 rw[PZ _ (QT EA6)];refine wpAny_FormattedValue_plain (cE g.h k);rw[RX x b d q k];rcases q with⟨y,rfl,j,a,q⟩|⟨n,rfl,i,a,q⟩
 .rw[QU tk d];exact wpAny_formatField_str (RO y tk a (gQ c.h _ Q b q)) (RO y _ a EK0) j
 .rw[QU tk d];refine wpAny_formatField_int ?_ (AHL a EK0);rw[BP f n 0]
  .subst f;decide
  rw[ECM (Nat.lt_trans i PF)])
def a9G{M:Model}{A:Around}{E:qI}{Q a:PH Str}:∀(ps:qA (Sem qB)) (qR:Str) (s:qC),E40 qR Q s->(∀x s1,Q x s1->a x s1)->E40 qR a s
 |[],_,_,h,k=>AI k h
 |_::ps,_,_,h,k=>thn h λ_ s1 (E7C q)=>E7C (a9G ps _ s1 q k)
def c3s(h:JFs X E3Y t):CQ (.JoinedStr E3Y pos) (tFs t):=⟨pL Q q (by
 rw[IR wpAny_JoinedStr];exact IE a9G (ZE h.h Str.empty _ I q) λx s1 ⟨H1,a,b,c⟩=>⟨b,SK,H1,a.tok _,TM,c⟩)⟩
#where
section
variable {a b c:Expr}{ta tb tc:TE}
def c3g(d:BZ)(e:CY)(f:DMR)(g:DDD:=by rw[eQ]):CQ DBL (a7n xT xT ta tb tc):=EJW b7g
#where
/---/def b6F:OU:=nB (∃(l:qE) (xs:AE) (y:V),x=FP/\B23/\dS/\A77/\ADT/\QG DOH)
/---/def b2Q:OU:=nB (∃(l:qE) (xs:AE) (y:V) (k:Nat),x=FP/\B23/\dS/\A77/\ADT/\A6K/\(∀z,GK xs k z->kQ eqV z y)/\(∀j z,j<k->A1R z->eqV z y=false)/\QG k)
section
/---/def bkV:qB->V
 |.none=>.non
 |AXH=>ZZ
 |C0U=>ZW
 |DMZ=>SK
 |_=>.non
def c5o{x:V}{v:qB}(f:oN)(h:ZL):bkV v=x:=by
 cases x<;>first | (cases h;rfl) | rw[C0C h]|cases f
def b3w{xs:AE}{b:AQ}(r:zQ b)(i:ADT)(y:V){u:qB}(l:A77)(m:LO):∃e:D1V,EH8 b (e v=AGD):=by
 classical
 rw[EV (λv=>GM (∃x,oN/\ZL/\AY AGD)) (DY j x v g k)];rw[iR n a h g];rw[AU k a a];have f:oN:=List.all_eq_true.mp i x (List.mem_of_getElem? g);cases e:AGD with
 |true=>rw[AWN ⟨x,f,h,e⟩]
 |false =>
  rw[IR decide_eq_false];rintro⟨x',c,d,e'⟩;have:x'=x:=by rw[<-c5o f h,c5o c d]
  rw[YK this e e' e']
def b7K(t:HQ):wG "list.count" b6F:=by
 rw[nC E D C];obtain⟨l,xs,y,rfl,rfl,m,k,fs,q⟩:=h;cases D;rw[DU u o C.one];rw[A4T a p (I.lstM m)];rw[A4Z f (b3w r fs y k o)];rw[lO F.slot_list_count vO F.entry_list_count F.args_list_count_2 (SeqAt.list_countAt l a.toArray n _ _ u f) (C5U e C0P DOH ?_)]
 .rw[A6S j hj (C0E a)];have c:WZ:=by rw[p];exact LM hj
  rw[AFP g c];rw[iR G d i g];rw[AU hj d d];rw[AF (b j _ _ g hj) (EHL (.flat (BKP fs c) k) t i o)]
 .have:E9M:=by
   clear q e m;have key:∀(xs:AE) (a:AQ),AZ6->EH8 a (f v=AGD)->E9M:=by
    intro xs a r;induction r with
    |nil=>rw[eC]
    |cons r1 _ B =>
     intro h;rw[List.countP_cons,List.countP_cons,B λj x v g A=>h JC x v g A,h 0 _ _ rfl rfl]
   exact key xs a r b
  rw[RQ s.toks];rw[show(a.toArray.toList)=a by simp,this]
def b4y(J:HQ):wG "list.index" b2Q:=by
 rw[nC M L K];obtain⟨l,xs,y,k,rfl,rfl,G,B,fs,i,o,p,q⟩:=h;cases L;rw[DU u D K.one];rw[A4T c C (I.lstM G)];rw[A4Z E (b3w r fs y B D)];have f:k<c.toArray.size:=by rw[sM C];exact i
 rw[lO F.slot_list_index vO F.entry_list_index F.args_list_index_2 (SeqAt.list_indexAt l c.toArray n _ _ u E k f (by rw[OA z sizeLine_eq];omega) ?_ ?_) (C5U e C0P k TM)]
 .rw[AFP a i];rw[AF (b k _ _ a CUL) (o _ a)]
 .intro m hm hmk;have t:m<xs.length:= AX 0x70f77092e797 i hmk
  rw[AFP a t];rw[AF (b m _ _ a (CJ hm)) (p m _ hmk a)]
 .rw[A6S j hj (C0E c)];have d:WZ:=by rw[C];exact LM hj
  rw[AFP a d];obtain⟨N,g,A⟩:=r.get a;rw[AU hj g g];rw[AF (b j _ _ a hj) (EHL (.flat (BKP fs d) B) J A D)]
variable {o:Expr}{to:TE}
def c0h(K:qF)(i:HQ)(h:aF)(g:FT)(f:AS:=by rfl)(b:bV "count":=by rfl)
  (d:jK:=by rfl)
  (c:SQ:=by rfl) (hs:DB:=by rfl) (a:QQ:=by rfl) :
  AIK "count" b6F:=AIL PySem.F.slot_list_count PySem.F.type_list_count (b7K i)
def b4M(K:qF)(i:HQ)(h:aF)(g:FT)(f:AS:=by rfl)(b:D1R:=by rfl)
  (d:jK:=by rfl)
  (c:SQ:=by rfl) (hs:DB:=by rfl) (a:QQ:=by rfl) :
  AIK "index" b2Q:=AIL PySem.F.slot_list_index PySem.F.type_list_index (b4y i)
def b3o:E00 b5X:=⟨b7d⟩
def c3w{td ty:TE}(c:HQ)(b:xQ)(a:D1G)(m:EKX:=by rw[E9Q]):CQ (B6D aW) DD6:=(YE b7f CF2 b.h a.h m)
def c3v{f:Expr}{td ty tx:TE}(d:HQ)(c:xQ)(a:D1G)(b:CQ f tx)(m:EL2:=by rw[E9Q]):CQ (B6D AHZ) DY2:=⟨b7e (~~~a2g d) c.h a.h b.h m⟩
#where
#where
universe L2
namespace L2
variable {D:AA}
namespace TabS
open PySem L2.Tab
structure CameS(rows:AY7)(i:Nat)(D:AA):Prop where
 nd:D.Nodup
 mem:∀x,AZJ↔∃j,j<i/\x=rows j
 le:D.length<=i
abbrev SetS(prog:qH)(w:World)(h:Heap)(a:qE)(D:AA):Prop:=h.SetOf (strKind prog w) a (λk=>GM (k∈D)) D.length
section
variable {prog:qH}{w:World}{A:Around}{R:nY}{I:qE}{fp wr:EK}{G:DMQ}{n:Nat}{P:DAW}{St:BPC}
def c9A{S:qE}{x:Str}{t:Tok}{s:qC}{E:qI}{Q:x9}(b:DI3)(f:BRT D.length)
  (h:∀h' c,D5L S->ABP h' S (if AZJ then D else x::D)->Q c BHL):FH (setAdd S AU0):=by
 unfold setAdd;have hi:AY ((strKind prog w).is x AU0):=by show AY (CTD AU0);simp[Value.isStrOf]
 refine wpAny_holding (wpAny_bind ((strKind prog w).pyHash hi ?_));refine wpAny_setAddHashed_of (s:=sL) hi rfl b f λh' d a=>h h' _ d ?_;by_cases c:AZJ
 .rw[nZ];rw[EJ1]
  .rw[DG];simp[c]
  .simp[e]
 .rw[CF c];rw[EJ1]
  rw[BOH]
  .simp[e]
def b5i{rows:AY7}{i:Nat}(h:DTW):APL AT (if D8S then D else CJB::D):=by
 by_cases c:D8S
 .rw[nZ];rw[E3W h.nd (BLU h.le a2i)]
  rw[EM0 b]
  .rw[BP q j i]
   .subst q;rw[AF e c]
   .exact E07
 .rw[CF c];rw[E3W (List.nodup_cons.mpr ⟨c,h.nd⟩) (by rw[C0M h.le List.length_cons b8O])]
  .rw[CM A5M]
   .rw[AV i CS1 z]
   rw[EM0 z]
  .rw[BP q j i]
   .subst q;rw[AF e List.mem_cons_self]
   .exact HV E07
def setS_at{h h':Heap}{a:qE}(x:C3L h D)(k:∀o,A6X->A14 h'.get?):C3L h' D:=by
 obtain⟨o,es,ep,t,e1,e2⟩:=x;rw[NG o es ep t (k o e1) e2]
def b3S(W:WalksS prog w A.in1 I fp wr G n P St)(S:qE)(l:S∉fp)(rows:AY7)
  (y:∀i v,LG->P i v->DZX) (N:FJ<scanBound) :
  ∀(k i:Nat) (s:qC) (D:AA),n-i=k->i<=n->St i s->DI3->DTW ->
   (∀s' L,Moved DKY G s s'->ABP s'.heap S L->APL n L->D9L s') ->
   BZI (.builtin "set.update.loop" (MD [AL S,BGF])):=by
 have m:S∉wr:=λh=>l (W.sub _ h);have d:AGI wr DKY:=λb p=>HV p;intro k;induction k with
 |zero =>
  rw[EOF];have J:i=n:= AX 0x356a0bc591c1eb8f002acb4775b756 C hi
  subst J;rw[EEY (GQ (W.done s _ _ f) s' q)];rw[jT A.in1 DK6 s'];exact B8G (hR s' D (q.mono d) ED7) B
 |succ k O =>
  rw[EOF];have a:LG:= BI 0xd6d31091ff5bea844357 C
  rw[EEY (B2D i s a f (DY v s' M x q))];rw[QU tk (y i v a M)];have F:ABP s'.heap S D:=ED7;rw[jT A.in1 (holding [Value.str (rows i) tk] (setAdd S (CM6 tk))>>=_) s'];rw[ATE (c9A F (by have:=B.le;exact lq 0x73d9a3a233055e5338 N a this) (BS h' c u H))];rw[cA ⟨CZM PyProof.Rows.F.plain_set_update_loop,O AT _ _ (BI 0x1dadce3b96adde22b20d5aecdd7fb9d583acac808b8357 C) a (W.frame _ s' _ _ x AAC (BS b p o e)) H (b5i B) (DY K z r j g)⟩]
  .rw[AF (E3L (l (by rw[KP h p]))) e]
  .refine hR K z (Moved.trans W.gtrans ((q.mono d).then_heap AAC (BS b o p e)) r) j g;rw[AF (E3L (ATD p h)) e]
#where
section
variable {prog:qH}{w:World}{A:Around}{E:qI}{s:qC}
def c3G{b:Bool}{h:Heap}{a:qE}(e:ZO (B8O b)):C3L h [] :=
 ⟨_,#[],0,_,e,DB9,rfl,(λe h=>tG),(λk=>AJ),(AK),(B7N),rfl⟩
def call_set_strs{l:qE}{items:DI}{rows:AY7}{Q:qI}
  (hh:XA) (hl:s.heap.IsList l items) (y:∀i v,i<items.size->D0V->DZX) (hn:BRT items.size)
  (h:∀(h':Heap) (tk:Nat) (xs:AA),CPF->CO0 ->
   (CLG)->wU hQ) :
  FH (lS call "set" AW8):=by
 obtain⟨c,tl,S⟩:=PySem.F.called_set.mro;rw[E2W I PySem.F.called_set.made V PySem.F.called_set.sub];rw[EJM (lS callAny "set" _) PySem.F.entry_type_call "set" AW8 [] rfl];rw[AD h1 PySem.F.called_set.notType h2 PySem.F.called_set.canCreate];have a1:=TK PySem.F.typeCall_set_1 l
 rw[pK]
 rw[BU3 (a6o FP (E:=E) (Q₁:=λobj s₁=>obj=TY/\s₁=CM0) AYA) s₁ J];cases r with
 |error e=>exact J
 |ok fl =>
  cases fl with
  |ret obj =>
   rw[QU rfl J];generalize a2:(CFS)=a;have O:AYX mT s.heap.objs.size=AC mT:=IW;have hT:Shared.TypeIs (HW (BBB mT)) TY "set":=PN O;rw[AD a3 PySem.F.called_set.init.lookup a0 (TK PySem.F.called_set.init.bind s.heap.objs.size)]
   rw[pK]
   rw[ECY (codeAny_call_builtin (R:=CPL (∃h' tk xs,s₂=hQ/\CPF/\CO0 /\
     (CLG))) PySem.F.called_set.init.plain PySem.F.entry_set_init (check_set_init_1 hT ?_))]
   .obtain⟨ol,hol,hcl,nl,hdl⟩:=hl;obtain⟨W,k,K,d⟩:=ol;simp only at hcl hdl;subst hcl;subst hdl;have u:AYX mT l=AC (BB9 "list" k (.seq items nl) d):=QX hol;rw[AD U a7p T a1V];have a4:(AW4 "list"==AW4 "dict")=false:=by decide
    have n:A87 mT IsList l items:=BEK u nl;unfold Builtin.«set.__init__» noKeywords Builtin.Frozenset.updateFrom;generalize B:pyIter=PI
    wp_walk
    subst B;rw[LF wpAny_pyIter_list n];rw[MC wpAny_runValue];have p:D2A:=Heap.lt_size hol;have G:A.in1.in1.in1.handled=none:=by simp[hh]
    have q:l≠BSB:=by
     rw[DMF p]
    have C:s.heap.objs.size∉[BSB,l]:=by
     rw[Heap.size_push];simp only[List.mem_cons,List.mem_singleton,List.not_mem_nil,or_false,not_or];rw[AZ A3H (Nat.ne_of_gt p)]
    have m:(A9J mT A1Z).get? s.heap.objs.size
       = AC mT:=QX O
    refine b3S ((Walks.list G _ l q items).toS) s.heap.objs.size C rows y hn (items.size-0) 0 _ [] (cY 0x20008c7bf484f1a4ff9a0c140a24edf02d25) FF
     ⟨AQY,(n.push _)⟩ (c3G m) ⟨List.nodup_nil,(FE ⟨(D5S),(λ(A2M hj _)=>absurd hj (Nat.not_lt_zero j))⟩),BW⟩ ?hR
    case hR =>
     intro s' N z g f;obtain⟨h',g',X,M,L⟩:=s';have Z:g'=s.gens:=z.gens;have Y:X=s.drawn:=z.drawn;have eo:L=s.os:=z.os;subst Z;subst Y;subst eo;rw[XY _];rw[ADI];rw[XY DK6];rw[cA ⟨rfl,h',M,N,rfl,g,f,ACJ P e⟩];have D:GY s.heap.objs.size:=B9X P;have F:GY BSB:=by
      rw[DMF P]
     exact z.heap b o (by simp only[List.mem_cons,List.mem_singleton,List.not_mem_nil,or_false,not_or];rw[AZ D F]) BO5
   .cases r₂ with
    |error e=>exact hr₂
    |ok fl₂ =>
     cases fl₂ with
     |ret r =>
      obtain⟨rfl,h',tk,xs,rfl,g,f,H⟩:=hr₂
      rw[pK]
      exact h _ _ _ g f H
     |_=>exact hr₂.elim
  |_=>exact J.elim
#where
universe TabS
open PySem PySem.Spec PyProof.Rows
/---/def a8X(P:qH)(w:World)(a:qE)(n:Nat):HO:=BYI (∃D:AA,TabS.SetS P w h a D/\D.length=n)
/---/def c4z(K:qF)(P:qH)(w:World):RL:=QY ys (nP p ws AA (ys=VY/\AP8 BE6/\BRT ws.length/\∀(a:qE) (D:AA),A5J->D.Nodup->(∀x,AZJ↔x∈ws)->D.length<=ws.length->LV a (tM (BBZ D.length))))
/---/def c4G(P:qH)(w:World):RL:=QY ys (nP a n Nat (ys=OG/\YP (BBZ n)/\n<2 ^ 60/\QG n))
section
variable {X:Cx}
def b2e(K:qF)(P:qH)(w:World)(F:ED)(B:AS:=by rfl)(E:ADY:=by rfl)(hw:ADZ:=by rfl):iK "set" E2V:=by
 subst B E hw;rw[bA ys U S h];obtain⟨p,d,rfl,M,L,q⟩:=h;rw[cR R S.one R];have G:X.A.handled=none:=D6S;obtain⟨l,r,C,_⟩:=I.list M;have c:l.length=d.length:=by rw[<-r.length,List.length_map]
 refine TabS.call_set_strs (rows:=λi=>d.getD i Str.empty) G C.isList (BS i v hi m) (BHG c L) (EX h' tk D A n J)
 .rw[ZN m (rY l) m]
  have g:i<d.length:=by rw[<-c];exact LM m
  rw[iR W k z (show(BGQ d.map)[i]?=CA V.str d[i] by rw[BE2 BOL])];rw[AU m k k];rw[GC z];rw[AZ t (AZL BOL)]
 .have hfr:A5K:=bR;have y:=A;obtain⟨o,es,ep,t,g1,T⟩:=y;refine EO TY _ (BG I.laid h' h' a s.heap.objs.size (o:=AKO a8X s.heap.objs.size D.length) (t':=tk) (GR o (kD J wM)) BW ⟨ABR D A,lZ g1,λh1 h2 ⟨D,N,O⟩ kk=>⟨D,TabS.setS_at N kk,O⟩⟩) (q _ D hfr n.nd (FE ?_) (by rw[AEZ n.le List.size_toArray c];rw[MZ]));rw[n.mem];constructor
  .rintro⟨j,f,rfl⟩;rw[List.size_toArray,c]at f;show DPN∈d;rw[DQA AT1 f]
  .intro hx;rw[A6S j f hx];rw[DN j (by rw[List.size_toArray,c];exact LM f) ?_];show x=DPN;rw[List.getD_eq_getElem?_getD,f];rfl
def b5r(P:qH)(w:World)(i:ADY:=by rfl)(hw:ADZ:=by rfl):AZO CWS:=by
 subst i hw;rw[bA ys v m h];obtain⟨a,n,rfl,k,r,q⟩:=h;rw[cR l m.one l];obtain⟨⟨D,j,g⟩,_⟩:=(BC5 (a8X X.prog X.w a n) k);obtain⟨o,es,ep,t,g1,c,d,_,_,p,e,f⟩:=j;have b:es.size=n:=by rw[f,g]
 refine call_len_set g1 c d e (TW b) (TN BN1 VI (DX (W0 b)) q)
variable {e:Expr}{es:BH}{t:TA}{p pos:Pos}
def c3k(K:qF)(P:qH)(w:World)(h:IB "set")(i:L1 "set")(d:FT)(f:ED:=by rfl)(b:AS:=by rfl)(c:ADY:=by rfl)(hw:ADZ:=by rfl)(g:DB:=by rfl)(a:IL:=by rfl) :
  AHP "set" E2V:=(rG (S1 (b2e K P w f b c hw) h i c7D) d.h g)
def c3p(P:qH)(w:World)(f:AYH)(g:AZ0)(c:FT)(b:ADY:=by rfl)(hw:ADZ:=by rfl)(d:DB:=by rfl)(a:IL:=by rfl) :
  AHP "len" CWS:=(rG (E5 (b5r P w b hw) f g a8y) c.h d)
#where
open PySem PySem.Spec PyProof.Rows PySem.Builtin PySem.Builtin.Str PySem.StrLaws
/---/def b6C(K:qF):OU:=EOK (SqT K H p CY0)
section
variable {X:Cx}
def b7I(K:qF)(i:AS:=by rfl):D8W (b6C K):=by
 subst i;rw[ENV D A y g j f];rw[GC A];rw[cR w y.one w];obtain⟨m,r,C,_⟩:=AW5 hs;rw[hH l b a3c r];have k:DNH:=by
  rw[AF b (joinFits g j)]
 rw[EIH meets_str_join_tuple k (by obtain⟨o,e,c,n,d⟩:=C;rw[EB o n e c d])]
 match l,b with
 |[z],b =>
  rw[EHC]
  rw[E7M]
 |[],b =>
  rw[B7J]
  rw[ED5 f]
  rw[E96]
 |E3X,b =>
  rw[B7J]
  rw[E4U f]
  rw[DYM]
variable {o e:Expr}{es:BH}{to:TE}{t:TA}{qO qN:Pos}
def c0g(K:qF)(h:aF)(g:FT)(f:AS:=by rfl)(b:D1Q:=by rfl)
  (d:jK:=by rfl)
  (c:SQ:=by rfl) (hs:DB:=by rfl) (a:QQ:=by rfl) :
  BUY "join" (b6C K):=(EAA b7I)
/---/def X7(z:Str)(n:Nat):Str:=⟨AT3 n z.cps.toList⟩
/---/def c4A:R2:=λx y H Q=>∃(z:Str) (n:Nat),A38 z/\uC n/\z.length<=10/\X3/\A35 DO3
def a9R(c:AFF):A4U n a AFF ((XQ n c foldl (λb d=>b++d) a).toList=a.toList++YW n c.toList)
 |0,a=>AJ
 |FJ,a=>by
  rw[E2A (a9R c n) List.replicate_succ List.flatten_cons Array.toList_append]
def c2M(z:Str)(n:Nat):PySem.Txt.mul z n=DO3:=by
 rw[CVT PySem.Str.ext'];unfold PySem.Txt.mul X7;rw[BZ7]
 .subst a;rfl
 rw[CF (nR 0x1df7de1e8b03418125)];by_cases h1:vN (EY==1) (z.length==0)
 .rw[BHN];simp only[Bool.or_eq_true,beq_iff_eq]at h1;rcases h1 with h1|h1
  .have:n=1:= AXG 0x346f1040d8627f7e555
   rw[UG];simp
  .have hz:z.cps.toList=[]:=by
    rw[<-List.length_eq_zero_iff,Array.length_toList];exact h1
   rw[hz];have:∀m:Nat,YW m ([]:GW)=[]:=λm=>by induction m with
    |zero=>rfl
    |succ m b=>rw[BXK b]
   rw[this]
 .rw[CF h1];rw[OI a9R]
def c2v:AH7 c4A:=by
 rw[ND b c];rw[RZ z n rfl rfl a h1 q];rw[BIE];refine YM PySem.SB.mul ?_ DMW DMW λd k=>TN (.str (X7 z n)) ?_ (DX (W0 c2M)) q
 .rw[AFK,AFK];rfl
 .rename_i hn _;have h2:BJ 1000<=CFB n:=Int.le_ediv_of_mul_le (BI 0x1a5a29350491955 hn) AG;omega
 .have hm:z.length*(EY).toNat<=10*1000:=CVE AG;rw[DO7 (_ > sizeLine) (TW sizeLine_eq)]
 .exact I.tok _
def c0l{a b:Expr}{ta tb:TE}{pos:Pos}(c:BZ)(d:CY):AHF c4A:=(SR c2v)
#where
universe L2
namespace L2
open PySem PySem.Spec PyProof.Rows
section
open PySem.W
/---/def c3A:B0G
 |.non=>true
 |_=>false
/---/def a6N:D1V
 |.none=>true
 |_=>false
/---/def c8y(K:qF):R2:=λx y H Q=>nP p xs AE (x=.non/\y=EZ/\AIF/\BT v xs E1Y/\Q (.bl (xs.any c3A)) H)
section
variable {X:Cx}
def c6C(K:qF)(f:HQ)(l:AS:=by rfl):AZH (c8y K):=by
 subst l;rw[ND B C];rw[RZ p xs rfl rfl m o q];rw[mK B C];rw[AHN b z D m];have d:=r.length;have key:A4U i hi (i<b.length) (SeqAt.EqAt X.A.in1 s AT9 .none (a6N AT9)/\∃c:wP,a6N AT9=c3A ANG):=λi hi=>by
  have t:DJ xs (xs[i]'(BIF)):=AT2 d;rw[iR E e1 e2 t];rw[ACN cC];rcases o _ (List.getElem_mem (BIF:wP))with e|⟨a,vs,e,j⟩
  .rw[EIZ .none];rw[DVF];rw[g];rw[jE ((BG EqV.flat K X.K H H (n:=0) (x:=.non) (y:=.non) rfl rfl).at I (A:=X.A.in1) (u:=.none) (v:=.none) (ECT 0xdcfc0ed2fdb2db95c0d9a7312a7) rfl rfl) (a9V rfl)]
  .rw[EIZ BF];obtain⟨k,_,pt,_⟩:=E30 j;rw[DVF];rw[AF g (SeqAt.EqAt.tuple_none pt (ECT 0x293bb827e6abf67e0a7312a7))]
 have j:b.any a6N=xs.any c3A:=by
  rw[DIP List.any_eq_true]
  .rw[EIB (key i hi)];exact EM (List.getElem_mem c) (QE e' e)
  .rw[EIB (key i DBR)];rw[AV (b[i]'(DBR)) (List.getElem_mem _) (A2S e')]
 refine SeqAt.in_listAt a6N z.isList C0P (BAM ?_)
 .rw[vB (C0E b)];exact(key i hi).1
 .rw[DW (show b.toArray.any a6N=b.any a6N by simp) j q]
variable {a b:Expr}{ta tb:TE}{pos:Pos}
def c7b(K:qF)(g:HQ)(d:BZ)(e:CY)(f:BU5)(c:AS:=by rfl):UW .In (c8y K):=(CPX (c6C K g c))
#where
#where
section
section
variable {prog:qH}{w:World}{A:Around}{I l S:qE}{vs:AQ}{kw:mX}{R:nY}{h₀:Heap}{s:qC}
#where
section
variable {prog:qH}{w:World}{A:Around}{E:qI}{s:qC}
#where
section
variable {X:Cx}{e:Expr}{es:BH}{t:TA}{p pos:Pos}
#where
#where
universe L2
namespace K51
open PySem PySem.Spec PyProof.Rows L2
section
variable {C a b c p:qE}{F L W rss:LLI}{H H':Hp}{P:qH}{Q:VK}{base:Heap}{cs:BY}{i j k:Nat}{qM:aA}{mg:BA}{o:HO}{r u v:qJ}{vs:AE}{w:World}{σ:L2.St}
/---/def top(i:Nat):Stmt:=PySem.Challenge.pw_leastlays_k51_desk_ways_and_lays.main.body.getD i (.Pass C54)
abbrev b0Q:Stmt:=BC 1
abbrev a4S:Stmt:=BC 2
abbrev a3d:Stmt:=BC 11
abbrev b0M:Stmt:=BC 12
abbrev a0N:Stmt:=BC 13
abbrev a3e:Stmt:=BC 14
abbrev a7F:Stmt:=BC 15
abbrev a7G:Stmt:=BC 17
abbrev b0O:Stmt:=BC 18
abbrev a7D:Stmt:=BC 19
abbrev a7A:Stmt:=BC 20
abbrev b0N:Stmt:=BC 21
abbrev a4V:Stmt:=BC 22
abbrev b0L:Stmt:=BC 23
abbrev X0:Stmt:=BC 27
abbrev a4T:Stmt:=BC 28
abbrev a7B:Stmt:=BC 29
abbrev a0M:Stmt:=BC 31
abbrev a0j:Stmt:=BC 32
abbrev a7E:Stmt:=BC 34
abbrev a7C:Stmt:=BC 37
abbrev b0P:Stmt:=BC 38
abbrev a3f:Stmt:=BC 49
abbrev a0k:Stmt:=BC 50
abbrev T0:Stmt:=BC 51
abbrev W9:Stmt:=BC 52
abbrev a4U:Stmt:=BC 54
abbrev a0L:Stmt:=BC 55
abbrev a0h:Stmt:=BC 56
abbrev a2b:Stmt:=BC 57
abbrev W5:Stmt:=BC 58
abbrev a1Z:Stmt:=BC 61
abbrev W8:Stmt:=BC 62
abbrev W6:Stmt:=BC 64
abbrev a0K:Stmt:=BC 65
abbrev a0g:Stmt:=BC 66
abbrev a2a:Stmt:=BC 67
abbrev S4:Stmt:=BC 68
abbrev W7:Stmt:=BC 69
abbrev a0i:Stmt:=BC 76
abbrev b6n:Stmt:=BC 77
abbrev a3g:Stmt:=BC 82
abbrev a4X:Stmt:=BC 83
abbrev a0f:Stmt:=BC 85
abbrev a2c:Stmt:=BC 88
abbrev a0O:Stmt:=BC 89
abbrev a3h:Stmt:=BC 90
abbrev a0m:Stmt:=BC 91
abbrev a0l:Stmt:=BC 92
abbrev X2:Stmt:=BC 93
abbrev X1:Stmt:=BC 94
abbrev a0n:Stmt:=BC 95
abbrev N2:Stmt:=BC 96
abbrev T5:Stmt:=BC 97
abbrev T3:Stmt:=BC 98
abbrev T4:Stmt:=BC 99
abbrev a0P:Stmt:=BC 100
abbrev a4W:Stmt:=BC 101
abbrev M5:Stmt:=xM 0
abbrev a6d:Stmt:=xM 1
abbrev J1:Stmt:=xM 2
abbrev a4Y:Stmt:=xM 3
abbrev X4:Stmt:=xM 4
abbrev T7:Stmt:=xM 5
abbrev T8:Stmt:=xM 6
abbrev N4:Stmt:=AH0 0
abbrev a0o:Stmt:=AH0 1
abbrev L3:Stmt:=AH0 2
abbrev N3:Stmt:=AH0 3
abbrev X5:Stmt:=AH0 4
abbrev O5:Stmt:=xN 0
abbrev a2d:Stmt:=xN 1
abbrev X6:Stmt:=xN 2
abbrev a4f:Stmt:=xN 3
abbrev a1L:Stmt:=xN 4
abbrev T9:Stmt:=xN 5
abbrev U0:Stmt:=xN 6
structure Tx(mg:BA):Prop where
 b_ValueError:LR "ValueError"
 b_abs:LR "abs"
 b_all:LR "all"
 b_any:LR "any"
 b_enumerate:LR "enumerate"
 b_int:LR "int"
 b_isinstance:LR "isinstance"
 b_len:LR "len"
 b_list:LR "list"
 b_max:LR "max"
 b_min:LR "min"
 b_range:LR "range"
 b_set:LR "set"
 b_sorted:LR "sorted"
 b_str:LR "str"
 b_sum:LR "sum"
 b_tuple:LR "tuple"
 b_zip:LR "zip"
/---/def pk(b:qE)(l t k:Int):KM:=[(DZ "own",GG),BTY "left" l,BTY "seed" t,BTY "many" k]
section
variable (b:qE)(l t k z:Int)
def c6d:B20 BE9 BNE:=CH
def c2d:B20 ABA BGY:=CH
def c2a:B20 ABB BO1:=CH
def c2b:B20 ABC BO0:=CH
def b6U:C5S ABA EC2:=CH
def b6S:C5S ABB E47:=CH
def b6T:C5S ABC (AKW z):=CH
def c2c:a3k [] (EGD l k)=A04:=CH
#where
structure PotAt(H:Hp)(a b:qE):Prop where
 ne:AHR
 ex:∃(cs:qJ) (l t k:Int),BAQ/\BSL
def PotAt.same(h:LP)(s:BN):KF:=by
 rw[RZ ne c l t k h1 h2];exact⟨ne,c,l,t,k,AY0,CVY⟩
def F6(h:LP){xs:AE}(d:DGC):BRD:=by
 rw[EOG (QO d h1) (QO d h2)]
def E2(h:LP)(d:DK c):BRD:=by
 rw[EOG (u4 h1 d) (u4 h2 d)]
def a1u(h:LP)(d:BRD):AKN BEN:=by
 rw[AK5 d];rw[RZ ne e l t k e1 e2];exact⟨ne,e,l,t,k,AH (A5 (Ne.symm cT)) e1,AH (A5 (Ne.symm d.2)) e2⟩
def IT.pot{v:V}{ns:qJ}(h:BVB)(d:LP)(o:GT):D28:=by
 rw[NA c e q h c e (o c _ (F6 d q) q)]
def Its.pot{H H':Hp}{vs:AE}{rss:LLI}{a b:qE}(h:SO)(c:LP)(o:GT):B4V:=(C6I (IT.pot e2 c o))
def a3i{l:EK}(s:AG3)(hp:RH):EF2:=UL a e (by
 rw[AF (AQG hp) B5S])
def a0S(o:GT)(c:KF)(hp:lW):RH:=by
 rcases e:H p with _|u
 .rfl
 .rw[AF0 (AO o (E2 c hp) e) hp]
section
variable {K:qF}
inductive IspPot(K:qF)(vs:AE)(H:Hp)(Q:VK)(E:XK):Prop
 |mk (a:qE) (ns:qJ) (_:CWG) (_:B53) (_:JR ns.length) (_:∀p b H',RH->KH->PotAt H' p b->BN->tL):EHG
/---/def c4q(K:qF):Sp:=BQ E EHG
def sc__law_pot:D18 ["_law_script","_law_seed","_law_own","_law_cell"] a2c:={}
def c6J(F:UM "_law_pot" a2c "_law_script")(T:AW):E6X:=by
 rw[BM sc__law_pot m j r]
 rw[QR a ns]
 .obtain⟨a,ns,rfl,hS,hl,k⟩:=h;rw[jC n]
  rw[BU (D7C A4
 (AI8 2 sc__law_pot.nd
 (A1 (BTD 3 sc__law_pot.nd
 (D7C (BRZ (K4 (K4 (fT Z6 1) DGG) A4))
 (A3 (C0 (DP c8X 3 (c0m A4 A4))
 (pE MX gZ)
 B4))))
 (ZC c7j (EHH MX (EHH HY c7e))))))]
  rw[dI b d];rw[LY q H eY d];rw[CW (rF a (DX (q.seq hS)))];rw[LF (O2 (K:=K) (a:=a) (xs:=AO3) (λi σ H2=>Ex3 λ(BJ t) (c:qJ) (v:cZ)=>An3 (σ=[MB,BO1,BNE,v]) (c.length<=i) (H2=fG b BDZ)) ⟨17,[],none,rfl,BW,rfl⟩
   (λi σ H2 _ (OX _ _ _ _ e)=>nN e ((iG d).seq hS))) ?_]
  .rintro i x σ H2 hx ⟨t,c,v,rfl,hcs,rfl⟩;have hi:i<ns.length:=by rw[AAZ (LM hx)]
   rw[lR z (K8 hx)];rw[CW ⟨_,rfl,_,_,rfl,rfl,BP6,_,rfl,_,_,rfl,rfl,(AAJ 2147483587),_,_,rfl,rfl,_,_,rfl,rfl,_,_,rfl,rfl,BX9,?_⟩];rw[CW ⟨_,rfl,_,_,rfl,rfl,C49,_,_,rfl,rfl,_,rfl,lD⟩]
   .refine C7O (EU (eU _ KZ)) b A0 (IF (lq 0xd566f1c41ba601cf01163667ddc80e8 hl n hcs hi));exact OX (c++[z]) _ rfl (AS5 List.length_append hcs) (CE0 a2z)
   .exact OX c _ rfl (BMV hcs) rfl
  .rintro σ H2 ⟨t,c,v,rfl,hcs,rfl⟩;refine λp g=>⟨_,rfl,_,rfl,A0,EGD 0 0,rfl,rB (4<=15),?_⟩;rw[c2c,a2z];have l:kU:=A6 (o:=BDZ) A0 g;rw[ZP BDZ d];exact k p b _ (s1.free g) d ⟨l.symm,c,0,t,0,A0,AZ1 l⟩ (s1.upd g)
inductive IspNext(vs:AE)(H:Hp)(Q:VK)(E:XK):Prop
 |mk (a b:qE) (m:Int) (_:AQI BN2) (_:LP) (_:0<m) (_:BHZ m) (_:∀r H',0<=r->r<m->KF->GT->CJS r):MO IspNext
/---/def a1X:Sp:=OS IspNext
def sc__law_next:IP ["_law_pot_here","_law_many","_law_drawn","_law_mixed"] ["_law_pot_here","_law_many"] a0O:={}
def c2F(F:D06 "_law_next" a0O "_law_many")(T:AW):yU:=by
 rw[BM sc__law_next O I R]
 rw[B65 a b m]
 .obtain⟨a,b,m,rfl,⟨ne,r,l,t,k,u,y⟩,hm0,hm1,kk⟩:=h;have n:=R.u60;rw[jC G]
  rw[BU (A1 (AJR (K3 eI A4) (b1L K n eI B1V)
 (A3 (B6M (a9J K eI RJ)))
 B4)
 (A1 (A6T U5 eI
 (BX 2 sc__law_next.nd (QZ a1S eI 1)
 (A1 (B6M (QZ c3t eI 1))
 B2C))
 B4)
 (A1 (B6M (B08 eI))
 (BX 3 sc__law_next.nd (a1S (Z6 (K4 eI (Z6 eI A4)) A4) A4)
 (A1 (B6M (BRZ (DP Z6 3 (B08 DGG))))
 (FK (QZ a1S (b1Q eI A4) 1)))))))]
  have B:B7K "left" BGY:=B7I c2d ABA
  have L:B7K "own" BNE:=B7I c6d BE9
  have gS:B7K "seed" BO1:=B7I c2a ABB
  have J:B7K "many" BO0:=B7I c2b ABC
  have N:C7X "left" EC2:=C7V b6U ABA
  have U:C7X "seed" E47:=C7V b6S ABB
  have S:C7X "many" (AKW z):=C7V b6T ABC
  rw[pM (λσ H'=>σ=[MB,ADB,none,none]/\GT/\∃(r:qJ) (l:Int),zP a .dK A04/\XJ H' CV8)]
  case fin =>
   clear u y;rintro σ H1 ⟨rfl,d,r,l,u,y⟩;rw[EK6 a (B u)]
   .rw[wA ⟨_,rfl,a,_,rfl,B u,_,rfl,_,_,rfl,rfl,hm0,?_⟩ ⟨_,rfl,a,_,rfl,B u,_,rfl,_,_,rfl,rfl,⟨hm0,hm1⟩,_,rfl,a,_,rfl,N u,?_⟩];rw[WW (EMP y CX1)]
   .refine⟨_,rfl,a,_,rfl,J u,_,_,rfl,rfl,_,rfl,a,_,rfl,S u,?_⟩;rw[FQ j (PJ H1 a DK3 b CV8) (A5 ne.symm) y]
    rw[A83 g H1 a DK3 a .dK BEC];have v:BOQ E89:=CX1;rw[AER E89 g j v];refine⟨_,rfl,a,_,rfl,gS g,_,rfl,a,_,rfl,J g,_,_,rfl,rfl,BP6,_,_,rfl,rfl,_,_,rfl,rfl,BP6,_,_,rfl,rfl,BX9,?_⟩;generalize M:(t+AWJ*104729)*48271 % 2305843009213693951=x;rw[WT X TB M (AWO Int.emod_nonneg)]
    rw[WT Y (x<2305843009213693951) M (AWO Int.emod_lt_of_pos)]
    rw[CW ⟨_,rfl,_,rfl,_,_,rfl,rfl,(AAJ 1009),_,_,rfl,rfl,_,_,rfl,rfl,yH,_,_,rfl,rfl,BX9,_,rfl,a,_,rfl,U g,?_⟩];refine⟨_,rfl,a,_,rfl,gS A0,_,_,rfl,rfl,CFT,_,rfl,_,_,rfl,rfl,hm0,?_⟩;exact EMP j (PK v.set)
  refine C6J a (B u) (R7 A84 (λe=>C4 (ON (iY A2V r l u y))));refine GQ (BG c7W b b cs r (λW q=>iV a _ (L u) q) y) p D;rw[AD g (Y8 (o:=CC []) u D) j (Y8 (o:=CC []) y D)];have d:BOQ AZS:=(A2V).upd D;rw[AEQ AZS g j d];cases r with
  |nil=>exact C4 (ON (iY d [] l g j))
  |cons c r =>
   rw[cI ⟨_,rfl,a,_,rfl,L g,QJ j,b,_,0,0,_,rfl,rfl,j,AK,AK,seqIndex_of AK AJ,rfl,?_⟩];rw[hJ C (upd H1 b (aJ (APX (FC (c::r)) eraseIdx) 0) a) (CA .dK A04) (A5 ne) g]
   refine iV a _ (N C) (ON (iY (DFN d.set) r c A0 ?_));rw[A5 ne.symm,A0];rfl
inductive IspOf(vs:AE)(H:Hp)(Q:VK)(E:XK):Prop
 |mk (a b l:qE) (xs:AE) (_:AQI FP) (_:LP) (_:dS) (_:NH l) (_:0<xs.length) (_:NL) (_:∀r H',r∈xs->KF->GT->TH r):MO IspOf
/---/def b3T:Sp:=OS IspOf
def b0K:lN "_law_pot_here" "_law_some" "_law_pot_here" "_law_some" a3h:={}
def c8L(F:D06 "_law_of" a3h "_law_some")(T:AW)(c:yU):A7U:=by
 rw[BM b0K m g o]
 rw[mH a b l xs]
 .obtain⟨a,b,l,xs,rfl,hP,hl,hn,h0,h1,k⟩:=h;rw[GS (J0 K HY (ALM o.mono BN5))];rw[E4B n xs.length ASG 0x2d58e6067b736e696480e5 h1 ⟨_,rfl,_,rfl,_,rfl,l,_,rfl,B05,a,b,_,rfl,hP,~~~b8m h0,n,EX r H1 q p e d⟩];rw[yK j j (r=j) r.toNat];have i:WZ:= ~~~b1x p
  refine⟨l,_,_,_,rfl,rfl,AX6 d hn hl,J4 (j:=j) (List.getElem?_eq_getElem i),k _ H1 (List.getElem_mem i) e d⟩
#where
def Y5{ns:qJ}(h:k<ns.length):atI (ns.map V.int) lF=DL (ns.getD k 0):=by
 rw[EHN]
def sqt{K:qF}{xs:AE}(h:A4E):ANO true K H:=FB h
/---/def Bel(xs ys:qJ):Bool:=cU (ARP (GM (a<=b))) id
def c7N(xs ys:qJ):cU (ARP (A0J (a<=b))) trV=CZ7:=by
 unfold Bel;induction xs generalizing ys with
 |nil=>rfl
 |cons x xs c =>
  cases ys with
  |nil=>rfl
  |cons y ys=>simp only[List.zipWith_cons_cons,List.all_cons,c ys];rfl
def a1q{γ:Type}(f:A73)(g:BVR):E9C
 |[],_=>rfl
 |F2,[]=>rfl
 |EL,FY=>C6M a1q
section
variable {K:qF}
#where
def c0A(n:Nat):DZY:=by
 induction n with
 |zero=>rfl
 |succ n a=>rw[C5N]
/---/def dot(xs ys:qJ):Int:=(ARP (a*b)).sum
/---/def Ans(rss:LLI)(ys:qJ):Bool:=rss.all λr=>BNI
/---/def Sm(ys:qJ):Prop:=iW ys (-A5Z<z/\z<2 ^ 64)
section
variable {K:qF}
inductive IspRowSum(vs:AE)(H:Hp)(Q:VK)(E:XK):Prop
 |mk (x:_) (y:_) (xs:_) (ys:_) (_:DQM) (_:AHD) (_:eB) (_:NL) (_:A6W) (_:xI CZ8):MO IspRowSum
/---/def a8Q:Sp:=OS IspRowSum
def b0G:A5Q CJP "row" a3d:={}
def b0Z(F:AFV "row_sum" a3d "row")(T:AW):E6J:=by
 rw[BM b0G d c l]
 rw[B6Y]
 .obtain⟨_,_,xs,ys,rfl,⟨a,rfl,ha⟩,⟨b,rfl,hb⟩,hl,hs,k⟩:=h;rw[GS (C20 (B5C
 AJP) D6I)]
  refine ARW;rw[DO (EG1 hl BFP g g) H1 p s e];rw[AJ5 (x*y)];exact EG5 CTO
inductive IspSums(vs:AE)(H:Hp)(Q:VK)(E:XK):Prop
 |mk (a:qE) (y:V) (us:AE) (rss:LLI) (ys:qJ) (_:BWB) (_:aE) (_:SN) (_:eB) (_:dF) (_:B0Z) (_:A6W) (_:y7 AZN):MO IspSums
/---/def b0A:Sp:=OS IspSums
def c1F:DB4 b0M:={}
def c2C(F:AY1 "sums" b0M)(T:AW)(b:E6J):C50:=by
 rw[BM c1F g e d]
 rw[BZP]
 .rw[C7Y hy c];rw[GS (cL (VS "row" "one" rX AG6
 (pX CJP)) (BTR d.mono))]
  rw[EGI E06 c n d ⟨_,rfl,_,rfl,v,y,r,ys,rfl,m,hy.same s1,hl2 r d,hs,q⟩ j];rw[B6K (zY E06) AZN];rw[B5V j]
inductive IspIsAns(vs:AE)(H:Hp)(Q:VK)(E:XK):Prop
 |mk (a:qE) (y:V) (us:AE) (rss:LLI) (ys:qJ) (_:BWB) (_:aE) (_:SN) (_:eB) (_:dF) (_:B0Z) (_:A6W) (_:D5A):MO IspIsAns
/---/def a1s:Sp:=OS IspIsAns
def a7y:DB4 a0N:={}
def a7R(F:AY1 "is_answer" a0N)(T:AW)(b:C50):A7J:=by
 rw[BM a7y j d m]
 rw[BZP]
 .rw[C7Y hy hl];rw[GS (AEA (A2F "total" (F5 K (BTR m.mono))
 (tX "total")) (ABD a0C))]
  refine EK2 hl hl2 c;rw[DU q g c];refine B0O q g;rw[DO (a8K (caps:=[]) (FE (BSA x)) (DUX hl) (ZK g) rfl (λx H2 n _ _ q=>AFY _ q)) H2 p s2 l];rw[B36]
  .rw[BFM c];rw[D2B x];rfl
  .have e:cU (FC AZN λx=>BSA x) trV=BJ0:=by
    rw[List.all_map,List.all_map];unfold Ans;congr 1;funext r;show iP (A2A BCM) BNI;simp
   rw[AF e (GP (s1.trans (s2.upd l)))]
#where
def a8A{α β γ:Type}(f:B49 Int)(g:BVR):∀(xs:DC) (ys:A57),CQU
 |[],_=>rfl
 |F2,[]=>rfl
 |EL,FY=>C6M a8A
/---/def V4(rss:LLI)(ts:qJ)(j:Nat):Int:=B0V RV ts
/---/def a2Y(rss:LLI)(ys:qJ)(j:Nat):Int:=uF AZN
/---/def Rs(n:Nat)(rss:LLI):Prop:=kW (BYM n Sm)
def Sm.at(h:Sm r)(a:j<r.length) : -A5Z<RV/\RV<2 ^ 64:=by
 rw[E20]
section
variable {K:qF}
inductive IspPullOf(vs:AE)(H:Hp)(Q:VK)(E:XK):Prop
 |mk (a:qE) (y:V) (us:AE) (rss:LLI) (ts:qJ) (j n:Nat) (_:A5Y BF y j) (_:aE) (_:SN) (_:ALX ts) (_:JR ts.length) (_:cB) (_:X3) (_:DFB) (_:xI D3V):MO IspPullOf
/---/def a8S:Sp:=OS IspPullOf
def b0H:B04 ["rows","totals","j"] "totals" "j" a3e:={}
def b1a(F:B0D "pull_of" a3e "totals" "j")(T:AW):EJ5:=by
 rw[BM b0H e c d]
 rw[B66 a y us rss ts j n]
 .obtain⟨a,_,us,rss,ts,j,n,rfl,ha,hI,⟨b,rfl,hb⟩,hl,hj,hn,hR,k⟩:=h;rw[GS (C20 (C3N "total" "row" "j" AMV AGM
 (bU CO7 CO7)) (DP Z6 0 DGQ))]
  refine AMF true true b a (KU hb) B9K;rw[DO (b5F (caps:=CEH) (λt r=>CI (t*RV)) hl (BC2 hb ha) hI rfl (λx v r H1 m _ d l _ q=>?_)) H1 p s g]
  .rw[DU va hva l];obtain⟨e1,e2⟩:=hR r d;exact⟨_,rfl,_,rfl,_,rfl,va,_,_,_,rfl,rfl,FB hva,Y5 (C0O e1),_,_,rfl,rfl,yX e2.at (C0O e1),q⟩
  .rw[a8A (λt r=>t*List.getD r j 0) V.int];exact EG5 CW8
inductive IspFalls(vs:AE)(H:Hp)(Q:VK)(E:XK):Prop
 |mk (a:qE) (y:V) (us:AE) (rss:LLI) (ys:qJ) (_:BWB) (_:aE) (_:SN) (_:eB) (_:dF) (_:BOC) (_:BUW) (_:A6W) (_:y7 (FC CO3 λ(QS i)=>OE)):MO IspFalls
/---/def a7u:Sp:=OS IspFalls
def sc_falls:IP ["rows","one","totals"] t7 a7F:={}
def b7A(F:AY1 "falls" a7F)(T:AW)(b:EJ5)(c:C50):C24:=by
 rw[BM sc_falls n m e]
 rw[mU a y us rss ts]
 .obtain⟨a,y,us,rss,ys,rfl,ha,hI,hy,d,hn,hR,hs,k⟩:=h;rw[BU (A5S 2 sc_falls.nd (GZ c e.mono fP)
 (AQ5 (LX (A7X B9 (N:=["j","rows","totals"]) (src:=[none,aS,AMV]) (iL BN5)
 (pX ["j","rows","totals"])) (A5L a9E (uH e.mono (YC (lU NB))) A4) AXD)))]
  rw[SH (EK2 d (λr e=>AH (B0W e) hn) t)];rw[hH x g hy.same s1];rw[C7N x g AG];rw[EF0 MB JZ BR7 hn B o]
  .refine⟨_,rfl,_,rfl,_,rfl,a,v,us,rss,_,i,ys.length,rfl,DMH,hI.same (s1.trans s2),t.same s2,DUX d,hi,hn,hR,AF5 u⟩;exact E0K (q _ u)
  .rw[BDL d (s1.trans ((s2.upd o).upd d))]
#where
def a1m(x y:Int)(xs ys:qJ):dot EL FY=x*y+CZ8:=by unfold dot;rw[List.zipWith_cons_cons,List.sum_cons]
def a9X:AEK xs qJ n (dot xs xG=0)
 |[],_=>rfl
 |F2,0=>rfl
 |EL,FJ=>AS4 List.replicate_succ a1m (a9X xs n) b8J
def a6U:∀(xs ys:qJ),BU8->dot xs ys=(BZM gC).sum
 |[],[],_=>rfl
 |EL,FY,h=>by
  rw[a1m,a6U xs ys AFM,List.length_cons,List.range_succ_eq_map,List.map_cons,List.sum_cons,List.map_map];rfl
def b2D(l:GW)(f g:HN):(l.map λj=>f j+g j).sum=C0K f+C0K g:=by
 induction l with
 |nil=>rfl
 |cons x l a=>simp only[List.map_cons,List.sum_cons,a];rw[SJ 0x1c8c351a6415ce1357caa]
def a7o(l:GW)(c:Int)(f:HN):(l.map λj=>c*f j).sum=c*C0K f:=by
 induction l with
 |nil=>simp
 |cons x l a=>simp only[List.map_cons,List.sum_cons,a,Int.mul_add]
/---/def bump(now:qJ)(j:Nat):qJ:=now.set j CSN
/---/def Pl(rss:LLI)(now xs:qJ):GW:=D7K (B4K && (BVL || D5K))
/---/def Under(now xs:qJ):Prop:=now.length=xs.length/\∀j,WZ->bL<=gC
/---/def Goes(rss:LLI)(xs:qJ):qJ->EN GW qJ
 |now,[],e=>now=e
 |now,j::js,e=>(DPC hX)/\ABO AZW js e
def Goes.snoc{rss:LLI}{xs:qJ}:∀{a:GW}{now e:qJ}{j:Nat},EHM->(DPC (B8J e))->ABO now (a++[j]) (rM e)
 |[],_,_,_,rfl,h=>(ZA h)
 |F2,_,_,_,(BM3 h2),h=>(BM3 (Goes.snoc h2 h))
def b2W(rss:LLI)(xs:qJ):B8J xs=[]:=by
 rw[EA Pl List.filter_eq_nil_iff];intro j _;simp
def Goes.one{rss:LLI}{xs:qJ}:∀{a b:GW}{now:qJ},E5C now->E09->a=b
 |[],[],_,_,_=>rfl
 |[],j::a,now,h,h'=>by
  rw[EKH h' h]
 |j::a,[],now,h,h'=>by
  rw[EKH h h']
 |j::a,i::is,now,⟨⟨rest,e⟩,h⟩,⟨⟨rest',e'⟩,h'⟩=>by
  rw[e]at e';rw[ANX e' _]
  subst e1;rw[Goes.one h h']
def J2(now:qJ)(j:Nat):MK bump now j=now.length:=List.length_set
def a5h{now xs:qJ}(h:B1X):WZ/\DKS:=by
 rw[E51 Pl List.mem_range Bool.and_eq_true];rw[AZ CD SE]
def a2W(now:qJ)(j k:Nat)(a:BO3):DCX now k 0=if k=j then CSN else now.getD k 0:=by
 unfold bump;rw[List.getD_eq_getElem?_getD,List.getElem?_set];rw[KB j k]
 .rw[DG];rw[F1,ZX,F1];rfl
 .rw[FZ,BZ1,List.getD_eq_getElem?_getD]
def Under.bump{now xs:qJ}(h:AHJ)(a:B1X):DJ0 now xs:=by
 rw[OK (a5h a)];rw[GF (BMS CD) k b];rw[IE a2W (AH CD h1)];rw[KB k j]
 .rw[KK IG e b8U h2]
 .rw[AF FZ (EJ k b)]
def b2C:∀(xs:qJ) (k:Nat) (z:Int),A6K->lT xs.set k z=ARZ BVX+z
 |[],_,_,h=>aG
 |EL,0,z,_=>by rw[List.set_cons_zero,List.sum_cons,List.sum_cons,List.getD_cons_zero];rw[SJ 0x30c3a41451915c8e]
 |EL,DA,z,h=>by rw[List.set_cons_succ,List.sum_cons,List.sum_cons,List.getD_cons_succ,b2C xs k z AFM];rw[SJ 0x1c978819e44407a5df2aa]
def a2V(now:qJ)(j:Nat)(h:BO3):lT bump now j=now.sum+1:=by
 rw[AEO bump (IE b2C h) lq 4640591445492082]
def Under.tail{x y:Int}{xs ys:qJ}(h:Under EL FY):x<=y/\BQS :=
 ⟨CJ (EJ 0 AJ),CJ CD,λj a=>CJ (EJ JC dE)⟩
def Under.sum:E2C (BQS->xs.sum<=ys.sum/\(DLL->xs.sum<ys.sum))
 |[],[],_=>⟨Int.le_refl _,λh=>yI⟩
 |[],F2,h=>B43
 |F2,[],h=>B43
 |EL,FY,h=>by
  rw[BQZ];rw[A4Z a (Under.sum h2)];rw[List.sum_cons,List.sum_cons];rw[EV (AX 0x81a56ed276f2e4c6aa h1 a) (RB ne)];rw[KB xs ys]
  .rw[E3P];rw[PR 0x3f1f6b0a8e64cd698684c5ee8e h1]
  .rw[SD (b e) 0x8b8402bf5f272286aa h1]
def Under.ne:E2C (BQS->DLL->∃j,ADC/\gC<YU)
 |[],[],_,h=>yI
 |[],F2,h,_=>B43
 |F2,[],h,_=>B43
 |EL,FY,h,ne=>by
  rw[BQZ];rw[KB xs ys]
  .rw[E3P];rw[AV 0 AJ (by simp;rw[PR 0x6baf4101f491accf5ee72 h1])]
  .rw[NA j q1 q2 (Under.ne h2 e) JC (CJ q1) (CJ q2)]
def b0w(l:qJ)(h:B0N):CU1:=by
 induction l with
 |nil=>rw[AYY]
 |cons x l b =>
  rw[AEL];have:=AJU;rw[KA BZT]
def c1u(l:qJ)(h:B0N)(y:Int)(b:y∈l)(hp:0<y):CUW:=by
 induction l with
 |nil=>cases b
 |cons x l e =>
  rw[AEL];rw[AD d AJU c (A3B (b0w l) z z)];rw[SC A5M]
  .exact lq 0x1e53141944ee1751698d4af37ce6e hp c q
  .have:=e (λz a=>D34) q;rw[iB b8k d]
def a3O(t:Int):0<=t*t:=by
 rcases Int.le_total 0 t with h|h
 .exact Int.mul_nonneg h h
 .have:=Int.mul_nonneg (a := -t) (b := -t) DMV DMV;rw[wF Int.neg_mul_neg]
def a4J(ys:qJ):KC rss LLI ts qJ (A9V (AW7 r.length)) (ts.length=rss.length ->
  (CFJ (uF ts*YU)).sum=B0V BCM ts)
 |[],[],_,_=>by
  have e:(BZM (V4 [] [] j))=BZM 0:=rfl;rw[e,a7o,Int.zero_mul];rfl
 |[],F2,_,h=>aG
 |F2,[],_,h=>aG
 |oM,DAD,h,a=>by
  have c:=a4J ys rss ts (λq b=>kN q b) dE;rw[List.zipWith_cons_cons,List.sum_cons,<-c];have e:(VZ (V4 oM DAD j*YU))=VZ (t*(RV*YU)+D3V*YU):=by
   funext j;unfold V4;rw[List.zipWith_cons_cons,List.sum_cons,Int.add_mul,Int.mul_assoc]
  rw[e,b2D,a7o,<-a6U r ys (h r (List.mem_cons_self ..))]
def b2E:∀(rss:LLI) (now xs:qJ),vI->B0V (dot r xs) mF=0
 |[],_,_,_=>rfl
 |oM,now,xs,h=>by
  rw[bY Ans];rw[EAN CD (C2Y b2E EJ)];exact b8J
def c5A(rss:LLI)(now:qJ)(h:DJ2):0<B0V A00 mF:=by
 have e:CCS A00 mF=zY C04:=by
  clear h;induction rss with
  |nil=>rfl
  |cons r rss d=>rw[List.map_cons,List.zipWith_cons_cons,List.map_cons,d]
 rw[e];have:∃r∈rss,A00≠0:=by
  rw[AGA q];have:D9W:=by
   rw[DOM];intro r b;rw[AF decide_eq_true_eq (Classical.byContradiction λz=>YM q r b z)]
  rw[yD this]
 obtain⟨r,b,a⟩:=this;refine c1u _ (A25 c) C04 (yJ r b) ?_
 .rw[D2B q];exact a3O _
 .have h1:=a3O (dot r now);have h2:C04≠0:=λz=>by
   rcases Int.mul_eq_zero.mp z with q|q<;>exact a q
  exact a7Z h1 h2
def c4I(rss:LLI)(now xs:qJ)(hR:kW (BC7 r.length))(c:AHJ)(h:now≠xs)(n:vI):FW hX:=by
 intro a;rw[AAS Pl];rw[List.filter_eq_nil_iff]at a;cases d:BVL with
 |true =>
  rw[D2 j h1 h2 c.ne h];rw[EC a j CZB];rw[d,Bool.and_eq_true,decide_eq_true_eq];rw[AZ h2 rfl]
 |false =>
  rw[AD p1 (E0W now (DOW o o F0)) p2 (E0W xs hR)];rw[AD u (c5A rss now d) v (C2Y b2E n)];rw[F0]at p1;have m:(rL xs.length λj=>ECD).sum<=0:=by
   have hs:∀(l:qJ),BT x l (x<=0)->l.sum<=0:=λl k=>by
    induction l with
    |nil=>rw[AYY]
    |cons x l t =>
     rw[AEL];have:=k x (List.mem_cons_self ..);rw[KA (t λy s=>k y (HV s))]
   refine GQ (hs _) x p;rw[LN j i p];rw[AD f (List.mem_range.mp i) g (QF j f)];have e:ECD = -(uF mF*(gC-bL)):=by
    rw[PM Int.mul_sub]
   rw[e];by_cases b:DKS
   .have hp:0<=uF mF:=by
     have q:=a j i;rw[d]at q;have w:¬A0Z now<0:=λz=>q (by simp only[Bool.false_or,Bool.and_eq_true,decide_eq_true_eq];rw[AZ b z]);show 0<=A0Z now;rw[DQ 0xe64e1ab0fd816 w]
    have:=Int.mul_nonneg hp (AWH (0<=DKN) 0xddb51fef6d772 b);rw[NE 0xdae8650811236]
   .have:DKN=0:= AX 0x366b995ee8119bd2526442e72 g b
    rw[this,Int.mul_zero];exact Int.le_refl _
  rw[b2D,a7o,p1,p2,v]at m;rw[D4 0x39bc2734e37eb969d5ae36 u m]
section
variable {K:qF}
inductive IspBelow(vs:AE)(H:Hp)(Q:VK)(E:XK):Prop
 |mk (x:_) (y:_) (xs:_) (ys:_) (_:DQM) (_:AHD) (_:eB) (_:NL) (_:ABE CZ7):MO IspBelow
/---/def b2P:Sp:=OS IspBelow
def b6l:C3A a7G:={}
def b7D(F:BXN "below" a7G)(T:AW):DUF:=by
 rw[BM b6l d c l]
 rw[B6Y]
 .rw[C80 hl];rw[GS (AEA (B5C
 AJP) (AC9 c0b))]
  rw[C6Z (rC (A0J (x<=y))) hl e];rw[B36]
  rw[DA3 g g]
  .rw[AF c7N (GP CTO)]
inductive IspUnit(vs:AE)(H:Hp)(Q:VK)(E:XK):Prop
 |mk (wd:Int) (n j:Nat) (_:vs=A9K wd j) (_:wd=n) (_:X3) (_:cB) (_:y7 (AQV BJ2)):MO IspUnit
/---/def b0y:Sp:=OS IspUnit
def c1E:lN "width" "j" "width" "j" b0L:={}
def b3a(F:WG "unit" b0L "width" "j")(T:AW):C64:=by
 rw[BM c1E b a m]
 .obtain⟨_,n,j,rfl,_⟩:=h;rfl
 .obtain⟨_,n,j,rfl,rfl,hn,hj,k⟩:=h;rw[GS (cL (VS "k" "j" rX (iL NB)
 (YR "k" "j")) (a2R (AC9 K3) A4 A4))]
  rw[AT8 (AVO n)];rw[DO (a5c (caps:=CEH) (λi=>CTF) hn rfl (BKR H1 g _)) H1 p s d]
  .refine VX _ rfl _ rfl _ rfl lD
   .rw[BNM e1 OE QP e]
    have e':i=j:= ~~~b8T e1
    rw[D2O]at q;exact q
   .rw[ZN e1 (¬OE=QP) e]
    have e':i≠j:= BI 0x3d88b437a1ce563f3996 e1
    rw[CW2]at q;exact q
  .rw[B6K (AQV CTF) C2O];rw[B5V d]
/---/def cV:D0P
 |none=>.non
 |AC c=>BK c
/---/def b5h(c:FX)(x:Int):Bool:=E9D (GM (x<=c))
/---/def Wi(cs:BY)(xs:qJ):Bool:=cU (List.zipWith b5h cs xs) id
def c7P(cs:BY)(xs:qJ):cU (A95 c x E87 cs xs) trV=DFO:=by
 unfold Wi;induction cs generalizing xs with
 |nil=>rfl
 |cons c cs a =>
  cases xs with
  |nil=>rfl
  |cons x xs=>rw[List.zipWith_cons_cons,List.zipWith_cons_cons,List.all_cons,List.all_cons,a];rfl
inductive IspWithin(vs:AE)(H:Hp)(Q:VK)(E:XK):Prop
 |mk (a b:qE) (cs:BY) (xs:qJ) (_:AQI GG) (_:CZX) (_:A0T RT) (_:JR cs.length) (_:ABE DFO):MO IspWithin
/---/def a8P:Sp:=OS IspWithin
def b3W:A5Q (jW "caps") "caps" a4S:={}
def b4n(F:AFV "within" a4S "caps")(T:AW):E6K:=by
 rw[BM b3W e d m]
 rw[mH a b cs xs]
 .obtain⟨a,b,cs,xs,rfl,ha,hb,hl,k⟩:=h;rw[GS (AEA (APN "cap" "number"
 (bU CMM CMM)) (c8Z (DP c7a 0 J5) (a3T (BUD c0b))))]
  refine ARW;rw[DO (c1k (caps:=[]) cV V.int (λc x=>E87) hl BFP rfl (λc x H1 l _ _ _ q=>?_)) H1 p s g]
  .cases c with
   |none=>exact A82 rfl true (E8 SG)
   |some c=>exact A82 rfl false (C4 (CCH SG))
  rw[B36]
  rw[DA3 j j]
  .rw[AF c7P (GP CW8)]
#where
/---/def S3(n j:Nat):qJ:=C2O
/---/def a1p(cs:BY):LLI:=BGD (E2J cs.length) λu=>BK8
/---/def b3F(c:FX)(x:Int):Bool:=E9D (VM x c)
/---/def StP(rss:LLI)(cs:BY)(ys:qJ):GW:=DAN λj=>CMF
section
variable {K:qF}
inductive IspFirst(vs:AE)(H:Hp)(Q:VK)(E:XK):Prop
 |mk (a:qE) (cs:BY) (_:CWG) (_:CZX) (_:BNH) (_:BX3) (_:∀p zs tss H',BN->ACE p->B2W->tss.Perm (a1p cs)->xU->tL):MO IspFirst
/---/def b2M:Sp:=OS IspFirst
def sc_first_steps:bQ ["caps","units"] "caps" X0:={}
def a5p(F:UM "first_steps" X0 "caps")(T:AW)(c:C64)(b:E6K):ECP:=by
 rw[BM sc_first_steps U L n]
 rw[QR a cs]
 .rw[RZ a cs rfl ha h1 h2 k];rw[jC V]
  rw[BU (A1 (cJ 1 sc_first_steps.nd (N:=["j","caps"]) (src:=[none,aS]) (iL (AFB NB))
 (YR "j" "caps") XU (HS (GZ c n.mono (FU cD NB))))
 (AQ5 (E35 (LX (VS "one" "caps" aS D2V
 (YR "one" "caps")) (A5L F8 K (D40 AGM)) AXD))))]
  rw[C7N a ha uV];refine a5e (caps:=ALJ) BVZ rfl (iS (fV ys (E2J i))) (B8Q .nil) (AEE (BG2 SE)) ?_ ?_
  .rw[C5W s' hI];refine⟨_,rfl,a,_,rfl,UA BSK,_,rfl,_,cs.length,i,rfl,CZS,BVZ,hi,λv H2 s2 I=>GD AZ4⟩;rw[List.range_succ,List.map_append];exact(hI.same s2).snoc I
  .rintro ys H' ⟨s',hI⟩ p hp;rw[EF];rw[AD s1 (A53 s'.upd ys hp) e (vJ hI.same AFQ ys hp)];rw[JH e1 H' p ys p ys];rw[AEQ CG8 s1 e e1];refine dP p e1;have J:ys.length=cs.length:=by rw[OI vD]
   refine a5D (caps:=ALJ) (λu=>BK8) (ZU 0x5cde6d514a4e27bcdf1773c4c60e867 h2 V J) (AUX (AFE e1)) e rfl (λv r H2 X n I s2 q=>?_) (EX H2 p2 d s2 m y)
   .rw[DU va hva I];exact⟨_,rfl,_,rfl,a,va,cs,r,rfl,DMH,hva,BVZ,λt x=>CU (Wi cs r) (q t x)⟩
   rw[AD x (DNJ (o:=CC d) m) g (vJ y.same AXQ d m)];rw[JH O H2 p2 d p2 d];generalize WX p2 d=t at x g O;refine VX p2 d _ (WK O) g (AF4 n) (λl zs M B z D G _=>?_)
   .rw[LN j hj (gJ n)];have:=BFY hj;simp[S3];exact b9m this
   rw[gF l KZ W C];rw[AD R (A53 (VC t) zs B) S (VC (HU t l zs) (o:=NS zs) C)];exact k W zs M _ (GI x.trans R S) A0 (DWK z.same) D G
inductive IspRaised(vs:AE)(H:Hp)(Q:VK)(E:XK):Prop
 |mk (y:V) (ys:qJ) (j:Nat) (_:WH y BN3) (_:eB) (_:ADC) (_:BOC) (_:y7 xL):MO IspRaised
/---/def a8R:Sp:=OS IspRaised
def b3X:BFL "j" "j" a4T:={}
def b4q(F:BED "raised" a4T "j"):E5K:=by
 rw[AJ4 b3X]
 rw[B65 y ys j]
 .obtain⟨_,ys,j,rfl,⟨a,rfl,ha⟩,hj,hl,k⟩:=h;rw[GS (a1D (EB1 DR 1 DRH) (a9L K DR (BTK 1) G6))];exact BG c5V i 0 j 1 (a:=a) (xs:=ys) (k:=j) (z:=YU+1) rfl rfl ha hj hl (λH' N s' q=>⟨_,rfl,_,rfl,a,_,_,_,rfl,rfl,BQN ha,Y5 hj,_,_,rfl,rfl,q⟩) k
inductive IspSteps(vs:AE)(H:Hp)(Q:VK)(E:XK):Prop
 |mk (a c:qE) (y:V) (us:AE) (rss:LLI) (cs:BY) (ys:qJ) (_:vs=[BF,fS,y]) (_:aE) (_:SN) (_:BV9) (_:eB) (_:dF) (_:ys.length<=100) (_:AW7 cs.length) (_:BUW) (_:A6W) (_:∀p ps H',BN->oF p ps->Prs H' ps D29 fQ->tL):MO IspSteps
/---/def b2H:Sp:=OS IspSteps
def c0P(h:CVD):atI (cs.map cV) QP=CA cV B4N:=by
 rw[EHN]
def sc_steps:B04 ["rows","caps","one","places"] "caps" "one" a7B:={}
def b7r(F:B0D "steps" a7B "caps" "one")(T:AW)(d:C24)(b:E5K):E8W:=by
 rw[BM sc_steps U I M]
 rw[B66 a c y us rss cs ys]
 .obtain⟨a,c,_,us,rss,cs,ys,rfl,ha,hI,hc,⟨y,rfl,hy⟩,hl,hn,hcl,hR,hs,k⟩:=h;rw[jC O]
  rw[BU (A1 (EAD sc_steps.nd "caps" (F5 K (fL d M.mono a3l (VG IZ)))
 (CXC "caps") (HS (O9 (a2n (a1c (a1d BVF J5) (a0u (a9E D6M BVF)))))) (HS DR))
 (FK (VS "j" "one" AMV B2R
 (pX (jW "j")) XU (ABX Q5 (AG1 (uH M.mono AGM))))))]
  refine⟨_,rfl,_,rfl,a,_,us,rss,ys,rfl,ha,hI,CU y hy,hl,DMT,hR,hs,BS v H1 s1 G⟩;rw[DU X l G];refine GO X (KU l) ?_;rw[List.map_map]at l;have p:∀j∈(List.range ys.length).filter BR7,ADC:=λj g=>BFY (gJ g);have n:EI (AN1 ys.length) BR7<=ys.length:=C1G;rw[DO (b3P (caps:=[DE c,DE y]) (λ(QS j)=>B9Y) CZR (AX 0x236dfbe0ba924853f62866 hn n) (ZK l) rfl (EX j H2 Y g s2 q)) H2 p2 s2 u]
  .have hj':=p j g;refine EL7 c _ DFZ EB6 rfl _ ?_;cases e:B4N with
   |none =>
    rw[e]at q;exact E8 SG
   |some z =>
    rw[e]at q;rw[cQ ⟨_,rfl,_,rfl,y,_,_,_,rfl,rfl,QA (BFH) hy,Y5 hj',_,rfl,_,rfl,c,_,_,_,rfl,rfl,DFZ,EB6,?_⟩];rw[e];exact E0K SG
  rw[GA J DNJ (CC ACT) u];rw[JH t H2 p2 ACT p2 ACT];have D:DI7:=λj g=>p j (gJ g);have C:BV fQ<=ys.length:=Nat.le_trans ZJ n;have W:DAN CZR=fQ:=rfl;rw[W];rw[EF];generalize WX p2 ACT=L at J t;refine dP p2 t;rw[EC (S2 (xs:=ACT) (AGL 0xbe501db666aa273044c60e867 hn O C) (OB qs (ASK L/\Prs H' qs D29 (D15 i))) ⟨Same.refl L,Prs.nil⟩) (US qs ⟨ZY CD t,AH SE YX⟩) ?_]
  .rintro i x qs H' hx ⟨s',hP⟩;rw[AS7 hx];cases r:(fQ)[i]? with
   |none=>rw[AU r hx hx]
   |some j =>
    rw[AU r hx hx];have g:=RU D j r;refine⟨Sub.one,_,rfl,_,rfl,_,rfl,_,ys,j,rfl,CU y (AI ((J.trans s')) hy),g,DMT,BS v S R G⟩;rw[GF (w5 BGL 0x226c080b3c6523cd O) Z B];rw[x6 m S CFI B];rw[RQ (GI s'.trans R m)];rw[List.take_add_one,r];exact((hP.same R).same m).snoc A0 (G.same m)
  .rintro qs H' ⟨s',hP⟩ p4 hp4;rw[D8P hP];rw[mY m H' qs hp4];exact k p4 qs _ (GI J.trans s' m) A0 (hP.same m)
/---/def Bar(fss:LLI)(ys:qJ)(j:Nat):Bool:=fss.any λf=>YB CUE YU && Bel f ys
inductive IspBarred(vs:AE)(H:Hp)(Q:VK)(E:XK):Prop
 |mk (l:qE) (y:V) (fs:AE) (fss:LLI) (ys:qJ) (j:Nat) (_:A5Y FP y j) (_:bB l fs) (_:OY fs fss) (_:eB) (_:ADC) (_:BOC) (_:BT f fss (AW7 f.length)) (_:ABE DC6):MO IspBarred
/---/def a8U:Sp:=OS IspBarred
def sc_is_barred:UE ["found","one","j","answer"] "found" "one" "j" a0M:={}
def a7Q(F:RA "is_barred" a0M ["found","one","j"])(T:AW)(b:DUF):EKU:=by
 rw[BM sc_is_barred v t n]
 rw[XG l y fs fss ys j]
 .obtain⟨l,_,fs,fss,ys,j,rfl,hl,hI,⟨y,rfl,hy⟩,hj,hn,hL,k⟩:=h;rw[BU (A1 (BTD 3 sc_is_barred.nd
 (A3 (AJR (K3 (A9D WO 2) DGQ) (F8 K (D40 D4Z))
 nU
 B4)))
 nU)]
  refine dP l hl;refine UX O2 l fs (OB σ (Ex1 λo=>An3 (σ=[AX8,DE y,DL j,o]) BN (NU (BIL (fss.take i))))) (GO none kJ rfl) (kP σ (UB _ s' _) (EE (gM hl))) ?_ ?_
  .rintro i x σ H' hx ⟨o,rfl,s',hB⟩;rw[CL r n p q hI.mem hx];rw[hH u m q.same s'];have g:=hL r n;have d:BIL (fss.take AT)=(B3N && C0X):=by
    unfold Bar at hB⊢;rw[List.take_add_one,p,List.any_append,hB];simp
   have c:HI (B3N && C0X)->AY DC6:=λe=>by
    rw[EA Bar List.any_eq_true];rw[AV r n e]
   rw[CW ⟨_,rfl,_,rfl,u,_,_,_,rfl,rfl,FB m,Y5 (C0O g),_,rfl,_,rfl,y,_,_,_,rfl,rfl,BQN hy,Y5 hj,rfl,_,rfl,?_⟩];have z:iP (V.int RV=CI YU) B3N:=by simp
   rw[z];cases e:B3N with
   |false =>
    rw[e]at d;rw[aM C4 C4];rw[AH5 s' d]
   |true =>
    rw[e]at d c;rw[cI ⟨_,rfl,_,rfl,_,_,r,ys,rfl,CU u m,CU y (gM hy),AX 0x182b90fcef282f9b4a75c027080e6 hn g,AUX tW⟩];cases e2:C0X with
    |false =>
     rw[e2]at d;exact C4 (GO _ AZ4 d)
    |true =>
     rw[e2]at c;rw[AG5];rw[jE (k H2 (s'.trans s2)) (c rfl)]
  .rintro σ H' ⟨o,rfl,s',hB⟩;rw[AS8 vD hB];rw[A33 k H' s' hB];rw[MZ]
#where
/---/def a2t(rss:LLI)(cs:BY)(F:LLI)(u v:qJ):Prop:=∃j,D62/\v=AZV/\NU (AI6 v)
def c3B{a b:qJ}(h:a.map DMD=b.map Sum.inl):a=b:=by
 induction a generalizing b with
 |nil=>cases b with|nil=>rfl|cons _ _=>cases h
 |cons x a c =>
  cases b with
  |nil=>cases h
  |cons y b =>
   rw[AEM h1 h2]
   injection h1 with h1
   rw[h1,c h2]
def a5E{a:LLI}(e:DHX):PP C60↔r∉a:=by
 constructor
 .intro h hm;rw[LF b5M h];rw[BO e List.mem_map.mpr (ABR r hm)]
 .intro h;cases c:C60 with
  |none=>rfl
  |some v =>
   rw[OA (c1r c) e];rw[D2 q b e2 List.mem_map.mp this];rw[FO (c3B e2 ▸ b) h]
def b9Z{a:LLI}(e:DHX):(R0 qM DKC).isSome=decide D61:=by
 by_cases h:D61
 .rw[decide_eq_true h];cases b:C60 with
  |none=>rw[FO h ((a5E e).mp b)]
  |some v=>rfl
 .rw[ASP,iQ a5E e h];rfl
def b9Y(r:qJ):GN r.map DMD kV=CJC:=vC List.map_map
def c3z{d:qE}(h:SO)(hd:DU8)(o:ADH d):B4V :=
 (AVC (UI o (QO q hd) q))
def b6m{H1 H2:Hp}(s:IV)(c:A5J)(o:DPY KG):BMY:=GR u (o b u (CJ (A37 c)) BSO)
structure NxPre(H:Hp)(a c f l:qE)(us:AE)(rss:LLI)(cs:BY)(fs:AE)(F:LLI)(ls:AE)(L:LLI):Prop where
 ha:aE
 hI:SN
 hc:BV9
 hf:bB f fs
 hF:DFH
 hl:bB l ls
 hL:OY ls L
 us1:dF
 n1:BNH
 n2:BX3
 hR:D5I
 fw:DFW
 lw:HK L DIC
 big:C53
section
variable {K:qF}
inductive IspNxl(vs:AE)(H:Hp)(Q:VK)(E:XK):Prop
 |mk (a c f l:qE) (r:V) (us:AE) (rss:LLI) (cs:BY) (fs:AE) (F:LLI) (ls:AE) (L:LLI) (_:vs=[BF,fS,A01,FP,r]) (_:NxPre H a c f l us rss cs fs F ls L) (_:DWQ) (_:∀p zs tss H',BN->RH->oF p zs->B2W->xU->tss.Nodup->BS0 tss->DWR tss tss.length->C1E tss.length->(C6A tss.length)->tL):MO IspNxl
/---/def c4s:Sp:=OS IspNxl
def sc_next_level:IP ["rows","caps","found","level","room","met","one","j","more"] BKZ a0j:={}
def a6k(F':RA "next_level" a0j BKZ)(T:AW)(M:E8W)(n:EKU):EC4:=by
 rw[IQ F'.okJ sc_next_level d0 c7 hr]
 .obtain⟨a,c,f,l,r,us,rss,cs,fs,F,ls,L,rfl,_⟩:=h;rfl
 .obtain⟨a,c,f,l,r,us,rss,cs,fs,F,ls,L,rfl,N,hroom,k⟩:=h;rw[A2N W hr.u60 hz]
  have hbig:=N.big;rw[BU (BX 5 sc_next_level.nd c3u
 (A1 (iI B2R 6 sc_next_level.nd
 (A1 (B4X (A5F (A6E M b1j (VG (YC AFH)))) 7 sc_next_level.nd 8 sc_next_level.nd
 (A3 (A0L (a3A (b4J W CT6 mC CH) (AV0 a1z (AFO n hr.mono 174585852 (lU (XH 8 AOV)))))
 (A3 (a1A W mC CT6 a5H))
 B4)))
 (A3 (AJR (BIC 4) (QZ U5 (BH7 c3o AFG) 4)
 (A3 c0f)
 B4))))
 (FK (c0k rfl T.b_sorted AFG))))]
  intro d hd;rw[EF];rw[LY s0 H AQH hd];rw[A83 e0 H d AQH d .dT []];generalize VA H d .dT []=H0 at s0 e0;have fin:∀(qM:aA) (g:LLI) (σ:L2.St) (H':Hp),BVY 5 d->BN->zP d .dT qM->qM.map (·.1)=IK g->g.Nodup->BS0 g->DWR g g.length->C1E g.length->(C6A g.length) ->
    DZH (tCB b0T (v8 5)):=by
   intro qM g σ H' hσ s' R y I h1 h2 B O;refine⟨_,hσ,d,qM,g,rfl,R,y,tU t,λp zs c8 hp hI J c4=>?_⟩
   .obtain⟨u,W,j,hj,rfl,_⟩:=h1 v t;rw[J2];rw[A2Q DI6 b9m]
   refine k p zs c8 _ (BLP hp) (s'.free hp) A0 (hI.same (AFQ hp)) c4 (J.symm.nodup I) (λv t=>h1 v (J.mem_iff.mp t)) ?_ (BMR B) λm e=>BMR (O m e)
   rcases h2 with h2|⟨m,e,h2⟩
   .exact .inl λu W v t=>J.mem_iff.mpr E70
   rw[HM ⟨m,e,BMR h2⟩]
  refine dP l (AI s0 N.hl);rw[EC (UX O2 l ls ((λi σ H'=>Ex5 λo6 o7 o8 qM g=>An9 (σ=[some (.ref a),some (.ref c),some (.ref f),some (.ref l),some r,some (.ref d),o6,o7,o8]) (Same H H') (H' d=some (.dT qM)) (qM.map (·.1)=IK g) (g.Nodup) ((∀v∈g,∃u∈L,a2t rss cs F u v)) ((∀u∈L.take i,∀v,a2t rss cs F u v->v∈g)) (g.length<=i*cs.length) (∀m:Int,r=.int m->(g.length:Int)<=m)))
   ⟨none,none,none,[],[],rfl,s0,e0,rfl,List.nodup_nil,A3V,DM2,AJ,D94⟩) (US σ (by rw[DM1];rw[ASE (gM N.hl)])) ?_]
  .rw[BM8 e' m' e' hm']
   .rw[GU e']
   .rw[GU e'];simpa using hm'
  .rintro i x σ H' hx ⟨o6,o7,o8,qM,g,rfl,s',R,y,I,h1,h2,B,O⟩;rw[CL ys b3 b4 c6 N.hL.mem hx];obtain⟨yw,c9⟩:=N.lw ys b3;have c2:i<L.length:=LM b4;have a8:C1E DAB:=CSL c2;rw[EA5 C DAB i]
   rw[EF];rw[FQ b7 BUW yw N.hR]
   refine⟨_,rfl,_,rfl,_,rfl,a,c,x,us,rss,cs,ys,rfl,gM N.ha,N.hI.same s',gM N.hc,c6.same s',N.us1,AH yw N.n2,yw.symm,b7,c9,EX p1 ps H1 s1 a2 a1⟩;rw[AD G AYG a3 (s'.trans s1)];rw[B3B p1 a2];have c5:DI7:=λj hj=>DI6;have S:BV fQ<=cs.length:=by rw[gY yw Nat.le_trans ZJ C1G]
   have b9:d≠p1:=QO G a2;rw[EC (UX O2 p1 ps ((λZ σ H2=>Ex4 λo7 o8 qM g=>An10 (σ=[some (.ref a),some (.ref c),some (.ref f),some (.ref l),some r,some (.ref d),some x,o7,o8]) (Off [d] H1 H2) (H2 d=some (.dT qM)) (qM.map (·.1)=IK g) (g.Nodup) ((∀v∈g,∃u∈L,a2t rss cs F u v)) ((∀u∈L.take i,∀v,a2t rss cs F u v->v∈g)) ((∀j∈(StP rss cs ys).take Z,Bar F (bump ys j) j=false->bump ys j∈g)) (g.length<=i*cs.length+Z) (∀m:Int,r=.int m->(g.length:Int)<=m+Z)))
    ⟨o7,o8,qM,g,rfl,A2V,G,y,I,h1,h2,DM2,B,λm e=>by have:=O m e;rw[NE 0x49fa49de21c243757]⟩) (λZ σ H2 _ h=>by obtain⟨_,_,_,_,_,o2,_⟩:=h;rw[ASE (UI o2 b9.symm a2)]) ?_]
   .rintro Z q σ H2 hq ⟨o7,o8,qM,g,rfl,off2,hd2,y,I,h1,h2,h5,B,O⟩;obtain⟨j,b,v,ej,rfl,hb,t⟩:=a1.2 Z q hq;rw[DU va b2 t];rw[AD b0 (List.mem_of_getElem? ej) hj (c5 j b0)];rw[AD b8 (UI off2 (QO hb G) hb) U (UI off2 (QO b2 G) b2)];rw[AD a7 (AI a3 N.hf) c0 (UI off2 (QO a7 G) a7)];have b6:=c3z (N.hF.same a3) G off2;have c1:Z<BV fQ:=LM ej;have X:qM.length=g.length:=by
     rw[E0H]
    have a0:∀D:LLI,BT v g (v∈D)->(NU (AI6 xL)->xL∈D)->∀j'∈D15 (Z+1),NU (Bar F DZ3 j')->DZ3∈D:=λD b1 c3 j' a9 a5=>by
     rw[List.take_add_one,ej]at a9;rw[CM (CIB a9)]
     .exact b1 _ (h5 j' z a5)
     .have:j'=j:=CJ z
      rw[UG];exact c3 a5
    refine u7 b (eX j WS) b8 BN3 [WS] WS [];refine EAK d (DGet.t hd2 (AH b9Y U));rw[b9Z y];by_cases hm:xL∈g
    .rw[iN hm];rw[aM C4 C4];rw[EOT off2 hd2 (CO hm)]
    .rw[MY (iM hm) E8 ⟨_,rfl,_,rfl,_,rfl,f,WS,fs,F,xL,j,rfl,c0,b6,CU va U,BMS hj,by rw[J2,yw];rw[A2Q N.n2 a2k],λv t=>by rw[J2,yw];exact N.fw v t,λH3 s3=>tW⟩];have a6:=AAX hd2;cases e:AI6 xL with
     |true =>
      rw[xA];rw[EOT (off2.trans s3.off) a6 (λz=>by rw[AU e z z])]
     |false =>
      rw[AG5];refine AMP d (DPut.t a6 (AH b9Y (AAX U)) (~~~lq 0xf630520312f412f36f3a4b9b0c569e11b1ceeea0c156937d2b17683275f53c3e032ae0ee5 hz hbig a8 C S B c1 X)) ?_;rw[a9d _ (iQ a5E y hm)];refine⟨_,_,_,g++[xL],rfl,PK (off2.trans s3.off).set,A0,by rw[List.map_append,y];simp[IK],b3d I hm,tU t,λu W v t=>hZ E70,a0 _ (λv t=>hZ t) (CO AJ),by rw[CZ5];exact b8p B,λm e=>by have:=O m e;rw[CZ5];rw[NE 0x2b686806c21ede7b9c0b58]⟩;rw[DO0]
      rw[IJ h1 v]
      .rw[WB];exact⟨ys,b3,j,b0,rfl,e⟩
   .rintro σ H2 ⟨o7,o8,qM,g,rfl,off2,hd2,y,I,h1,h2,h5,B,O⟩;rw[AS8 a1.1 h5];have X:qM.length=g.length:=by
     rw[E0H]
    have Y:=a1.1;have s2:BMY:=b6m a3 hd off2;have a4:∀u∈L.take AT,CGY g:=λu W v t=>by
     rw[List.take_add_one,b4]at W;rw[CM (List.mem_append.mp W)]
     .exact h2 u z v t
     .have:u=ys:=CJ z
      rw[UG];obtain⟨j,hj,rfl,hb⟩:=t;exact h5 j hj hb
    rw[BM8 rfl m rfl d1]
    .refine TQ (kC C4 C4);exact⟨_,_,_,qM,g,rfl,s2,hd2,y,I,h1,a4,EH0,λm e=>by rw[CG]⟩
    .rw[GV (TQ (E8 ?_)) ⟨_,rfl,d,qM,rfl,hd2,_,rfl,_,_,rfl,rfl,_,rfl,lD⟩]
     .have e':D6X:=dD;have b5:=O m rfl;exact ED9 H2 s2 hd2 (DZ (CU m (AX 0x7c2da9532ebe98813d58 X e'))) (~~~lq 0x579545243ee8723ec81ee55c4a39825137db a8 C S B Y) λm' e2=>by cases e2;exact lq 0xa3a80bdb4398deca7f886f234af6b35a S Y b5
     .rw[BXP D6X];exact⟨_,_,_,qM,g,rfl,s2,hd2,y,I,h1,a4,EH0,λm' e2=>by cases e2;rw[D4 0xd9612a51d7fd5622d3d58 X e']⟩
  .rintro σ H' ⟨o6,o7,o8,qM,g,rfl,s',R,y,I,h1,h2,B,O⟩;rw[CRP,List.take_length]at h2;exact ED9 H' s' R (EU h2) (by rw[CRP]at B;exact B) λm e=>by have:=O m e;rw[NE 0x7b194d4c5c8f8ef83758]
#where
/---/def ffl(ra ca:qE)(b:Bool)(ah af aw:qE):OO:=[D3F ra,D3G ca,("begun",ZZ),mM "here" ah,mM "found" af,mM "walked" aw]
section
variable (ra ca ah ah' af aw:qE)(b b':Bool)
def a9T:AI1 "rows" ra:=CH
def a9U:AI1 "caps" ca:=CH
def a6T:B9L (pU "begun")=CA .bl b:=CH
def a1l:AI1 "here" ah:=CH
def a3D:AI1 "found" af:=CH
def a5P:AI1 "walked" aw:=CH
def a9c:C6 "here" (AL ah') A96=A8G b ah':=CH
def b4d:C6 "begun" (.bl b') A96=A8G b' ah:=CH
def a9b:AL3 "walked" aw "found" af (C6 "here" CD4 (C6 "begun" ZZ EDB))=A96:=CH
def c0C:B1J "told":=CH
def b4X:B1J "paper":=CH
def b4Y:B1J "ended":=CH
def a4l:B1J "step_within":=CH
#where
structure FiTx(K:qF)(C:qE):Prop where
 cl:UR
 n1:D1O
 n2:D1P
 n3:bT "begun"
 n4:bT "here"
 n5:bT "found"
 n6:bT "walked"
structure FAt(C:qE)(H:Hp)(p ra ca af aw:qE)(b:Bool)(L F W:LLI):Prop where
 ob:∃dx ah hs,AQR A96/\bB ah hs/\OY hs L/\ah≠af/\ah≠aw
 hf:∃fs,bB af fs/\DFH
 hw:∃ws,bB aw ws/\OY ws W
 ne:af≠aw
def FAt.same{C:qE}{H H':Hp}{p ra ca af aw:qE}{b:Bool}{L F W:LLI}(h:jL)(s:BN):B9F (AME FAt ra):=by
 rw[AW3 a c d g e f h];rw[CK ⟨dx,ah,hs,AY0,CVY,a.same s,c,d⟩ ⟨fs,JU f1,f2.same s⟩ ⟨g,JU e,f.same s⟩ ne]
structure SyAt(H:Hp)(a c:qE)(rss:LLI)(cs:BY):Prop where
 ex:∃us,aE/\SN/\dF
 hc:BV9
 n1:BNH
 n2:BX3
 hR:D5I
def SyAt.same{H H':Hp}{a c:qE}{rss:LLI}{cs:BY}(h:EE4)(s:BN):EFZ:=by
 obtain⟨⟨g,h1,h2,b⟩,d,e,f,hR⟩:=h;rw[EB ⟨g,AY0,CZ2,b⟩ (JU d) e f hR]
structure StR(rss:LLI)(cs:BY)(b:Bool)(L F:LLI)(r:V)(L':LLI):Prop where
 ri:O4 L'
 nd:L'.Nodup
 fst:NU b->vT L' B4Q
 snd:u9->HK L' BFO
 all:u9->CO2 L'∨ARN (m<L'.length)
 len:L'.length<=cs.length+L.length*cs.length
 few:C6A L'.length
def a1r(n j i:Nat)(hi:LG):DOC n=BJ2:=by
 unfold S3;rw[vE hi]
def R8(n j:Nat):MK S3 n j=n:=JY S3
def b4U(cs:BY):(a1p cs).Nodup:=by
 unfold a1p;rw[LF List.Nodup.sublist ((List.filter_sublist))];rw[CJJ List.Nodup];refine(List.nodup_range (n:=cs.length)).imp_of_mem (EH2 b a);have h1:(S3 cs.length i).getD i 0=DOC cs.length:=CX3 (λl:qJ=>l.getD i 0);rw[DFU,DFU,F1,dC]at h1;omega
def lp{f:Str}{v:V}{fs:OO}(h:fs.length<=k):BV ATZ<=DA:=by
 refine Nat.le_trans ?_ (Nat.succ_le_succ h);clear h;induction fs with
 |nil=>rw[CY4]
 |cons p r a =>
  obtain⟨g,x⟩:=p;show BV E7V<=_;split
  .simp
  .simpa using a
section
variable {K:qF}
inductive IspFInit(C:qE)(vs:AE)(H:Hp)(Q:VK)(E:XK):Prop
 |mk (p dx ra ca:qE) (_:vs=[EZ,BMG,AL ca]) (_:BWF) (_:∀(af aw:qE) (H':Hp),DK af->CUH->CQL false [] [] []->CPY false->DEM->A9H):A1X IspFInit
/---/def b2N(C:qE):Sp:=AGN IspFInit
def a1Y:UE B4Z "self" "rows" "caps" M5:={}
def b7z(I:WI "__init__" "Finder.__init__" M5 B4Z)(U:A6C):kO "__init__" 1 B4Z b2N:=by
 rw[IQ I.fnJ a1Y J G L]
 rw[mH p dx ra ca]
 .rw[RZ p dx ra ca rfl hp k];rw[BU (E3G 1
 (E3G 2
 (AB5 a5H
 (B3F
 (B3F
 (A3 (BDI D6)))))))]
  have t:([]:OO).length<=0:=BW;refine EMZ hp U.n1 (Nat.lt_of_le_of_lt t AK);refine EMZ A0 U.n2 (Nat.lt_of_le_of_lt (lp t) AK);rw[a2z];refine gR A0 U.n3 (CS6 DZ7 AK);rw[a2z];generalize D:C6 "begun" (ALO V.bl) EDB=r;have F:r.length<=3:=by rw[vF D lp DZ7]
  have k1:qV A0U kU (PJ H p AG9 b o):=PU e c (ID c e)
  have e1:PJ H p AG9 p AG9:=A0;have u:∀b,PP (upd H p AG9 b)->KH:=λb e=>by
   rw[BP c b p]
   .rw[BM1 c]
   .rwa[AXK]at e
  rw[AEQ (fG p AG9) k1 e1 u];rw[dI ah n];have x:p≠ah:=A6 e1 n;refine gR (AH (A5 x) e1) U.n4 (BI 0x25c2b6fbea393465 F);rw[dI af m];have y:p≠af:=λz=>by subst z;rw[AU A0 m m]
  have g:upd H1 ah eY af=none:=by rwa[BNS]at m
  have j:ah≠af:=A6 (o:=CC []) A0 g;have d:AD5 af:=by rwa[A5 j.symm]at g
  refine gR (AZ1 y) U.n5 (ACY (lp (f:="here") (v:=CD4) F) 0x4214c038d9ecee065);rw[dI aw q];have B:D1F:=λz=>by subst z;rw[AU A0 q q]
  have a:=q;rw[BNT]at a;have i:af≠aw:=E3I;rw[A5 i.symm,BNT]at a;have l:ah≠aw:=E3I;rw[A5 l.symm]at a;refine gR (AZ1 B) U.n6 (ACY (lp (f:="found") (v:=AL af) (lp (f:="here") (v:=AL ah) F)) 0x162273630afc27290c465);rw[DO (k af aw _ (u _ d) (u _ a) ⟨⟨dx,ah,[],?_,?_,.nil,j,l⟩,C3F,C3F,i⟩ ⟨dx,ah,by rw[A0,<-D,<-a9b],u _ n⟩) b o e c]
  .rw[A0,<-D,<-a9b]
  .rw[BNU,A5 l,BNU,A5 j,BNU,A0]
  .rw[BNS,A5 i,BNS,A0]
  .rw[BNT,A0]
  .have e2:=YV k1 c;rw[AXK,BR5 a,AXK,BR5 d,AXK,BR5 n];exact e2
def b3s:∀{vs b:AE}{rss a:LLI},SO->OY b a->OY (vs++b) (rss++a):=by
 intro vs b rss a h g;rw[C5K (by rw[List.length_append,List.length_append,CD,g.1]) BTA vs.length]
 rw[C3U r A9W r]
 .rw[List.getElem?_append_right hi]at e;rw[NA r e1 e2 (g.2 _ v e) r (ASA CLA CD e1) e2]
def a4z{o':HO}(h:SO)(b:AC2 o)(d:C5H):CEG (fG c o') :=
 (AVC (ID (I9 q b (d _)) q))
def a5I(h:SO)(b:AC2 o)(d:C5H)(off:ADH c):B4V :=
 (AVC (C1N q b d q))
def c1t(h:EE4)(d:A0U)(e:C5H)(off:jU [b]):EFZ:=by
 obtain⟨⟨k,h1,h2,g⟩,f,i,j,hR⟩:=h;rw[EB ⟨k,C1N h1 d e h1,a5I h2 d e off,g⟩ (C1N f d e f) i j hR]
def c1y{B:Int}(h:EQ u (eT B))(b:B41):EQ AZV (eT (CBP+1)):=by
 rw[DXQ]
 .rw[KA (h x z)]
 .rw[DHK]
  .rw[EHD];omega
  .rw[DDI];omega
inductive IspStepW(C:qE)(vs:AE)(H:Hp)(Q:VK)(E:XK):Prop
 |mk (p ra ca af aw:qE) (b:Bool) (L F W rss:LLI) (cs:BY) (r:V) (B:Int) (_:WH EZ r) (_:jL) (_:C7I) (_:DWQ) (_:(BT v L EDP)) (_:B41) (_:DBY) (_:C53) (_:D43) (_:D42) (_:ECS L' (E4S rss) (DJY L' DCI DEE) L'.length):A1X IspStepW
/---/def a7r(C:qE):Sp:=AGN IspStepW
def b6q{ra ca af aw:qE}{b:Bool}{r:V}{B:Int}(hi:B21)(h:rS ATK r)(D:jL)(Y:C7I)(h1:CLN∨ARN ASO)(h2:HK L EDP)(c:B41)(d:DFW)(e:C53)(f:D43)(g:D42)
  (k:ECS a (CPB rss F r a) (DJY a (BJ5 a.filter) (W++a)) a.length):B5U "step_within" a7r (v8 j):=by
 rw[BLH ⟨_,hi,p,dx,_,rfl,g1,YO a4l,_,h,p,ra,ca,af,aw,b,L,F,W,rss,cs,r,B,rfl,D,Y,h1,h2,c,d,e,f,g,k⟩]
def a0E:IP ATC ATC J1:={}
def b7q(FM:WI "step_within" "Finder.step_within" J1 ATC)(U:A6C)(T:AW)(d:EC4)(a:ECP)(n:A7J) :
  ECV:=by
 rw[IQ FM.fnJ a0E c9 c5 hr]
 .obtain⟨p,ra,ca,af,aw,b,L,F,W,t,cs,r,B,rfl,_⟩:=h;rfl
 .obtain⟨p,ra,ca,af,aw,b,L,F,W,t,cs,r,B,rfl,D,Y,hroom,hL,hB,hF,hbig,hF1,hW1,k⟩:=h;rw[OR hz]
  rw[AW3 h3 h4 h5 ws w1 w2 tZ];have b7:p≠af:=QO h1 f1;have b8:D1F:=QO h1 w1;rw[BU (A1 (DRA KY
 (AY4 (A6E d a5w (VU KY KY (VU KY KY HX))))
 (AB5 (QV c3n T.b_list (CZ (A1Y (CZO 175200508) sW)))
 (AY4 a5H)))
 (AU9 KY (LX (VS "one" "self" aS (A5F KY)
 (BHT "one")) (A5L F8 K (A6E n b7P (FU B0X NB))) AXD)
 (AU9 KY sW
 (FK AZ8))))]
  rw[pM (λσ H'=>σ=[WA,cW]/\∃ah' c L',KW p (aT BYZ)/\oF ah' c/\fV c L'/\DK ah'/\E4S t/\ADH p/\HK L' DIC)]
  case fin =>
   rintro σ H1 ⟨rfl,ah',c,L',p1,a1,i1,a0,R,g,c2⟩;have a6:=Y.n2;have y:AAA L'.length:=by have:=R.len;exact lq 0x15d25e151e3800651a643540baa23cc95586e54927867 hbig a6 this
   rw[AD b0 (UI g b7.symm f1) c7 (UI g b8.symm w1)];rw[AD c0 (DJE f2) c8 (DJE w2)];have Y1:=c1t Y h1 uS g;have b1:ah'≠af:=u4 f1 a0;have b3:ah'≠aw:=u4 w1 a0;have d0:p≠ah':=A6 h1 a0;refine B7G p1 U.n5 BR0 b0;refine AVZ p1 U.n4 AGS ah' rfl (rK a1) ?_;refine a5D (caps:=[WA]) (λv=>D07) (A2T i1.1 0x3f871e88c24f9655e63bd89f17d6e hz y) (AUX (AFE a1)) i1 rfl (λv r' H2 Q2 c4 hv s2 q=>?_) (EX H2 p2 zs s2 b5 S)
   .obtain⟨⟨us,u1,u2,u3⟩,_,_,_,hR⟩:=Y1.same s2;refine⟨_,rfl,p,C,dx,_,_,rfl,WE p1,U.cl,U.n1,CZI,_,rfl,ra,v,us,t,r',rfl,u1,u2,hv,u3,λr hr=>IU (B0W hr) a2k a6,(c2 r' c4).2,λO G=>DS (q O G)⟩
   have X:BV (L'.filter λv=>D07)<=L'.length:=ZJ;rw[AD G (A53 s2.upd zs b5) c6 (AXQ (o:=CC zs) b5)];rw[JH e3 H2 p2 zs p2 zs];have I:=S.same c6;generalize WX p2 zs=O at G e3 I;have f3:=A3Y b0;refine⟨af,p2,fs,zs,rfl,rfl,f3,e3,OH f2.1 S.1 (lq 0x44ab7be3665b9767d1fc5904786ca95c7a83c90b4b9a228 hF1 hz y X),?_⟩;rw[FQ p4 (xB O af APE p (aT BYZ)) (A5 b7) (A3Y p1)]
   rw[EGA w4 aw ws ne.symm c7]
   rw[EGA a4 ah' c b1 a1]
   rw[GV (B7G p4 U.n6 CZL w4) ⟨_,rfl,p,C,dx,_,_,rfl,p4,U.cl,U.n4,AGS,aw,ah',ws,c,rfl,rfl,w4,a4,OH w2.1 i1.1 (lq 0xcd01f7cd995ef7e1cf0223aa4d887a83c90b4b9a227 hW1 hz y),?_⟩];rw[FQ p5 (xB C4K aw B1I p (aT BYZ)) (A5 b8) p4]
   rw[hJ a5 (upd C4K aw (CC B1I) ah') (CA .lst c) (A5 b3) a4]
   refine⟨_,rfl,p,C,dx,_,_,rfl,p5,U.cl,U.n4,AGS,ah',_,rfl,WK a5,?_⟩;rw[i1.1];have M:∀{vs:AE}{t:LLI},Its O vs t->Its (HU C4K aw B1I) vs t:=λh=>a4z (a4z h f3 uS) w4 uS;rw[DO (k L' _ R ⟨⟨dx,ah',c,p5,a5,M (i1.same G),b1,b3⟩,⟨APE,AZ1 ne,M (b3s (c0.same G) I)⟩,⟨B1I,A0,M (b3s (c8.same G) (i1.same G))⟩,ne⟩ ⟨dx,ah',p5,a0⟩) b o hb e];rw[ZN a3 (kU/\GY af/\GY aw) hb]
   rw[DW (A5 a3.2.2) (A5 a3.2.1) (A3Y (UI g a3.1 e))]
  refine⟨_,rfl,p,C,dx,_,_,rfl,h1,U.cl,U.n3,CZK,b,rfl,?_⟩;obtain⟨us,u1,u2,u3⟩:=Y.ex;have a6:=Y.n2;cases b with
  |true =>
   rw[AG5];rw[GV ⟨_,rfl,p,C,dx,_,_,rfl,h1,U.cl,U.n1,CZI,_,rfl,p,C,dx,_,_,rfl,h1,U.cl,U.n2,CZJ,_,rfl,p,C,dx,_,_,rfl,h1,U.cl,U.n5,BR0,_,rfl,p,C,dx,_,_,rfl,h1,U.cl,U.n4,AGS,_,rfl,?_⟩ ⟨ra,ca,af,ah,r,us,t,cs,fs,F,hs,L,rfl,⟨u1,u2,Y.hc,f1,f2,h2,h3,u3,Y.n1,Y.n2,Y.hR,hF,λv hv=>⟨(hL v hv).1,DVD (hL v hv).2⟩,hbig⟩,hroom,λp9 zs a9 H9 s9 J h9 c1 a8 c3 a2 b2 y b4=>?_⟩];have b9:=AI s9 h1;have a7:p≠p9:=DH4;rw[E8C b9];rw[ENL p9 h9 c1 b9 ⟨a8,c3,AWK,CO a2,CO b2,BI 0x10590516048917d7 y,b4⟩ (PK s9.off.set)];obtain⟨u,hu,j,_,rfl,_⟩:=a2 v hv;have:=c1y (j:=j) (hL u hu).2 hB;rw[AZ (nN J2 (hL u hu).1) (DVD this)]
  |false =>
   rw[xA];rw[GV ⟨_,rfl,p,C,dx,_,_,rfl,h1,U.cl,U.n2,CZJ,ca,cs,rfl,Y.hc,Y.n1,Y.n2,λq zs a9 H2 s2 hq S Z a8=>?_⟩ (RO q zs (UA hq) (BB l hl))];rw[AD p3 (Y8 (o:=CC zs) (WE h1) hl) G (s2.upd (o:=CC zs) hl)];have I:=vJ S.same AXQ zs hl;rw[JH e3 H2 l zs l zs];have J:=s2.free hl;generalize WX l zs=O at p3 G I e3;rw[E8C p3];refine gR A0 U.n3 CNB;rw[a2z,b4d];have a7:p≠l:=DH4;have X:EI a1p cs<=cs.length:=C1G;have b6:=Z.length_eq;rw[ENL l e3 I p3 ⟨a8,Z.symm.nodup (b4U cs),FD v Z.mem_iff,AWK,AWK,AX 0xf632a17235ebb02fa1d8 X b6,D94⟩ CX2]
   .rw[BM8 z m' z hm']
    .rw[GU z]
    .rw[GU z];exact lq 0x1e89568cec85034f0dfe98f41b359 X b6 hm'
   .rw[DGR j (BMB Z.mem_iff.mp hv).1];rw[GF CTB x hx];unfold S3 at hx;rw[DGR i hx];split<;>omega
inductive IspEnded(C:qE)(vs:AE)(H:Hp)(Q:VK)(E:XK):Prop
 |mk (p ra ca af aw:qE) (b:Bool) (L F W:LLI) (_:AT0) (_:jL) (_:DS7):A1X IspEnded
/---/def a7v(C:qE):Sp:=AGN IspEnded
def b6s{ra ca af aw:qE}{b:Bool}(hi:B21)(D:jL)(k:DS7):B5U "ended" a7v K9:=by
 rw[EPV b4Y]
def a4d:B3G T8:={}
def b7B(c:AH1 "ended" "Finder.ended" T8)(U:A6C)(T:AW):DSN:=by
 rw[IQ c.fnJ a4d d a l]
 rw[C7U]
 .rw[EPO g i j o m n (a6L KY (a3T (a0C AZ8 A4)))];rw[GV (CR1 h1 U.n3 CZK) (AY9 b)];cases b with
  |false=>exact C4 k
  |true =>
   rw[cI ⟨_,rfl,p,C,dx,_,_,rfl,h1,U.cl,U.n4,AGS,ah,_,rfl,WK h2,rfl,?_⟩];have e:iP (A2A (BJ hs.length)) BIO:=by
    rw[g.1];cases L with
    |nil=>simp
    |cons x L=>simp;rw[SJ 899391872267029]
   rw[AF e k]
inductive IspTold(C:qE)(vs:AE)(H:Hp)(Q:VK)(E:XK):Prop
 |mk (p ra ca af aw:qE) (b:Bool) (L F W:LLI) (_:AT0) (_:jL) (_:(BT v F CUX)) (_:E8L tss B2W BVQ xU):A1X IspTold
/---/def b0z(C:qE):Sp:=AGN IspTold
def c1K{ra ca af aw:qE}{b:Bool}(hi:B21)(D:jL)(h:HK F CUX)(k:E8L a E3J (a.Perm F) (O4 a)):B5U "told" b0z K9:=by
 rw[BLH ⟨_,hi,p,dx,_,rfl,g1,YO c0C,p,ra,ca,af,aw,b,L,F,W,rfl,D,h,k⟩]
def a4Q:B3G X4:={}
def c2B(g:AH1 "told" "Finder.told" X4)(U:A6C)(T:AW):DSL:=by
 rw[IQ g.fnJ a4Q i d v]
 rw[C7U]
 .obtain⟨p,ra,ca,af,aw,b,L,F,W,rfl,D,hF,k⟩:=h;rw[AW3 r t u z x y tZ];rw[GS (aZ (E35 sW))];rw[GV ⟨_,rfl,p,C,dx,_,_,rfl,h1,U.cl,U.n5,BR0,af,fs,F,rfl,WK f1,f2,hF,λl zs e m j a c _=>?_⟩ (NV l _ (kF KZ q n))];rw[GA s2 (iG (o:=CC zs) m).upd (NS zs) n];exact k q zs e _ s2 A0 CYK a c
inductive IspPaper(C:qE)(vs:AE)(H:Hp)(Q:VK)(E:XK):Prop
 |mk (p ra ca af aw:qE) (b:Bool) (L F W:LLI) (_:AT0) (_:jL) (_:EJA):A1X IspPaper
/---/def a7s(C:qE):Sp:=AGN IspPaper
def b6r{ra ca af aw:qE}{b:Bool}(hi:B21)(D:jL)(k:EJA):B5U "paper" a7s K9:=by
 rw[EPV b4X]
def a4c:B3G T7:={}
def b7t(d:AH1 "paper" "Finder.paper" T7)(U:A6C)(T:AW):DSM:=by
 rw[IQ d.fnJ a4c e a r]
 rw[C7U]
 .rw[EPO l m n c i j BQH];refine AVZ h1 U.n6 CZL aw _ rfl (kF (EE i) q g);rw[LY s2 H (NS c) g];exact k q c _ s2 A0 CYK
#where
inductive Wk(rss:LLI)(cs:BY):LLI->LLI->EN LLI Nat
 |one {L:LLI}(ri:O4 L) (nd:L.Nodup) (h:vT L B4Q):YD BVI L L 1
 |more {F W L L':LLI}{k:Nat}(h:jI) (ne:nX) (ri:O4 L') (nd:L'.Nodup) (hm:vT L' BFO):YD DCI DEE L' DA
/---/def b5D(rss:LLI)(cs:BY)(most:Int):Prop:=∃F W L k,jI/\(most<W.length∨(nX/\∃L':LLI,L'.Nodup/\BS0 L'/\most<W.length+L'.length))
def b3c(h:B0M):EQ v (x<=v.sum):=by
 induction v with
 |nil=>intro x a;cases a
 |cons y v c =>
  intro x a;rw[AD h1 (ANH y) h2 (b0w v λz b=>BJU)];rw[AEL];rw[oX]
  .exact lq 0xdd1b54cc76252 h2
  .rw[SD (c DC0 x a) 0x4a1385aeaf97b226e h1]
def c3O(h:A13 u):A13 AZV:=by
 rw[DXQ]
 rw[IJ h x]
 .rw[DHK]
  .rw[EHD];rw[iB b8D z]
  .rw[DDI];rw[DQ 0x9e6754105652516 z]
def b5O(n j:Nat):A13 (S3 n j):=by
 rw[BJB S3];rw[lR i A43];split<;>omega
def b0n(n j:Nat)(a:cB):S3 n j=rM xG:=by
 refine List.ext_getElem (by rw[R8,J2,List.length_replicate]) λi h1 h2=>?_;rw[R8]at h1;rw[AD e1 (a1r n j i h1) e2 (a2W xG j i dE)];rw[APU (MW List.getElem?_eq_getElem R8 h1) e1];rw[APU (LZ h2) e2];simp only[Option.getD_some]at e1 e2;rw[e1,e2];simp only[List.getD_eq_getElem?_getD,List.getElem?_replicate,a,h1,if_true];by_cases e:i=j<;>simp[e]
def b6p(n:Nat):E4I:=by
 induction n with
 |zero=>rfl
 |succ n a=>rw[DVG]
def b3L(n j:Nat)(a:cB):lT S3 n j=1:=by
 rw[b0n n j a,AI a2V dE,b6p];rfl
def b0x(h:D62):j<u.length/\A0Z u<0/\AY (BFS b3F CUD):=by
 rw[E51 StP List.mem_filter List.mem_range];rw[AV CD.1 CD.2 EJ]
structure LvF(n k:Nat)(v:qJ):Prop where
 len:CXL
 nn:B0M
 sum:v.sum=k
def a3C(h:B4Q):AJM 1:=by
 rw[LN j a (gJ h)];rw[AV CTB (BR b5O) (AI b3L (List.mem_range.mp a))]
def b3b{n:Nat}(a:LvF n k u)(h:B9U):LvF n DA v:=by
 obtain⟨j,b,rfl,_⟩:=h;have:=(b0x b).1;rw[AV (BMS a.len) (c3O a.nn) (OH (AI a2V this) a.sum a7Y)]
def Wk.lv(h:jI):BT v L (LvF cs.length k v)/\BT v W (∃i,1<=i/\AYO/\AJM i)/\BT v F (v∈W/\AEW)/\CRG W.length/\BDO W.length/\1<=k/\k<=W.length+1/\(nX->k<=W.length):=by
 induction h with
 |@one L ri nd h =>
  refine⟨λv a=>DQE,λv a=>⟨1,AG,AG,DQE⟩,λv a=>List.mem_filter.mp a,ZJ,BW,AG,A3T,RB ne⟩;cases L with
  |nil=>rw[FO rfl ne]
  |cons x L=>simp
 |@more F W L L' k h ne ri nd f p =>
  obtain⟨l,m,d,n,q,r,s,o⟩:=p;have b:HK L' (AJM DA):=λv a=>by
   rw[UP g j ((f v).mp a)];exact b3b (l u g) j
  have:=List.length_filter_le CEL L';rw[iF e o ne ⟨b,BT7,BT7,by rw[CRR List.length_append];rw[PR 0x392a1d2b48312d5d8 n],CDP lq 1147073304470,A3T,AH List.length_append (lq 0x3210a01de77a8dc3d7 e),RB c⟩]
  .rw[CM AQ1]
   .obtain⟨i,q1,q2,q3⟩:=m v z;rw[CK i q1 (BMV q2) q3]
   .rw[CK DA A3T (cY 183599221) (b v z)]
  .rw[CM AQ1]
   .rw[AZ (hZ (d v z).1) (d v z).2]
   .rw[AZ (WD BS8) (List.mem_filter.mp z).2]
  .rw[BG3];have:0<L'.length:=List.length_pos_iff.mpr c;rw[iB c4Z e]
section
variable {K:qF}
inductive IspLeast(D:qE)(vs:AE)(H:Hp)(Q:VK)(E:XK):Prop
 |mk (ra ca:qE) (rss:LLI) (cs:BY) (most:Nat) (mi:Int) (_:A5Y BMG (AL ca) mi) (_:mi=most) (_:C7I) (_:AAA (A63*BPG+200)) (_:(∀q t pp zs tss ws F W k H',BN->rO q [bZ,AL pp]->ACE t->B2W->BVQ->xU->rO pp ws->fV ws W->oO->DAC->AQQ)) (_:(∀H',BN->DPT->AUT (AL D))):DRO
/---/def a7t(D:qE):Sp:=BQ E DRO
def sc_least:B04 (CCI "most" "finder") "caps" "most" a7E:={}
def b7x(X:B0D "least" a7E "caps" "most")(T:AW)(U:A6C)(a:UR)(G:EAO "Finder" B4Z b2N)(g:ECV)(l:DSN)(r:DSL)(n:DSM)
  (t:DJX p):C6R p:=by
 rw[IQ X.okE sc_least c5 c2 hr]
 rw[XG ra ca rss cs most mi]
 .obtain⟨ra,ca,rss,cs,most,_,rfl,rfl,Y,hbig,kq,ke⟩:=h;rw[BU (BX 3 sc_least.nd (c0n G (CZO 4923175852) rfl fP)
 (lV 4 sc_least.nd jv 2
 (DNQ (AV0 a9F (C4M l)
 (BX 4 sc_least.nd (DP a5G 4 (a1h g a (KS hr.mono b7R) WO wO))
 (A3 (C0 (fT a9E 4)
 (BLJ t)
 B4))))
 (ZC Q5 (wK (C4M r) (C4M n))))))]
  refine AJ3 (DY x dx hx b4 M);rw[EAC c1 M.symm hx]
  have s0:JJ C45:=bH iG b4 c1;refine rV x dx ra ca A0 (λaf aw H1 b2 b3 D1 _ kp=>nW);have a0:DK af:=s0.free b2;have a1:CUH:=s0.free b3;have s1:IV:=E18;rw[EF];rw[BV8];rw[OR hz]
  rw[pM (λσ H'=>σ=C6K (σ.getD 4 none)/\BN/\∃F W k,EH7 [] F W/\oO/\DAC)]
  case fin =>
   rintro σ H2 ⟨hσ,s2,F,W,k,N,I,S⟩;rw[EOH];have a2:=I.lv;rw[hσ];refine c1K rfl N D2T λq1 zs c3 H3 s3 b8 a7 b7 c0=>?_
   .obtain⟨i,i1,_,lv⟩:=a2.2.1 v (W1 a2 v J).1;cases v with
    |nil=>rw[BCB lv.sum];rw[PR 0x5bc56849a6aaf3bc066e i1]
    |cons _ _=>simp
   have D3:=N.same s3;obtain⟨⟨c6,c4,c8,g1,_⟩,_,_,_⟩:=id D3;refine b6r rfl D3 (EX q2 ws H4 s4 b9 a8);rw[GF (w5 BGL 0x696ad8a3c841b17d6d hz) q hq];rw[x6 s5 H4 [AL q1,AL q2] hq];exact kq q q1 q2 zs c3 ws F W k _ (GI (ASD s2.trans s3) s4 s5) A0 (A2P (AWT b8)) ((a7.same s4).same s5) b7 c0 (A2P b9) D4I I S
  refine⟨λm σ H'=>∃(b:Bool) (L F W:LLI) (d:Int),σ=C6K (DL d)/\BN/\B9F CQ7/\0<=d/\m=d.toNat+MM DEH 0 1/\((NU b/\L=[]/\F=[]/\W=[]/\d=most)∨(u9/\DT2 jI)),
   ⟨_,false,[],[],[],_,rfl,s1,D1,wE,rfl,EU (AAF rfl rfl rfl)⟩,?_⟩
  rintro m σ H2 ⟨b,L,F,W,d,rfl,s2,N,r0,rfl,V⟩;rw[EOH];refine b6s rfl N tW;have c7:most+1<=A63*BPG:=Nat.le_mul_of_pos_right _ CIN;have O:A63*BPG=BCO (A63) (A63):=by rw[Nat.mul_add,Nat.mul_one]
  by_cases he:DEH
  .rw[QU rfl he];rw[xA];rcases V with⟨z,_⟩|⟨_,k,I,hroom⟩
   .cases z
   .exact ON ⟨rfl,s2,F,W,k,N,I,E2X⟩
  .have hb:(b && BIO)=false:=by
    cases b with
    |false=>rfl
    |true =>
     have:nX:=λz=>DYU;rw[fJ]
   rw[hb,CF he];rw[cI (A4Y (λσ' H'=>∃(D X Z:LLI) (k:Nat) (j:Int),σ'=C6K (DL j)/\BN/\EH7 D X Z/\0<=j/\YD X Z D k/\j=most-Z.length/\j.toNat+MM (D=[]) 0 1<d.toNat+1) (BBP ⟨D,X,Z,k,j,e1,e2,e3,e4,e5,e6,e7⟩ ⟨_,e7,true,D,X,Z,j,e1,e2,e3,e4,AJ,DZ (uK k e5 e6)⟩))];obtain⟨B,hB,hL,hF,b1,b0,a6⟩:∃B:Int,B41/\BT v L (CLX (NY v (0<=y/\y<=B)))/\DBY/\W.length<=most/\BDO most/\CRG most:=by
    rcases V with⟨rfl,rfl,rfl,rfl,_⟩|⟨rfl,k,I,hroom⟩
    .exact⟨0,AG,A3V,A3V,AJ,AJ,AJ⟩
    .obtain⟨i1,i2,i3,i4,i5,i6,i7,i8⟩:=I.lv;refine⟨k,AG,λv J=>⟨(i1 v J).len,λy hy=>GD (DJF y hy)⟩,D2T,E2X,E7E i5,E7E i4⟩
     .rw[jE (b3c DJF y hy) (lT i1 v J)]
     .obtain⟨i,_,_,lv⟩:=i2 v (i3 v J).1;exact lv.len
   have a9:BFZ L.length<=most*cs.length:=CSL b0;rw[EA5 b6 (BFZ (A63)) most]
   rw[WW (b6q rfl rfl N (Y.same s2) (DZ (CU d r0)) hL hB hF (~~~lq 0x34d1b5312030e0989947fb8756e32e086480dd64ea652ba02563892148447f6a hbig O a9 b6) (E7D a6) (E7D b1) (EX D H3 R D3 _ a4))];rw[SH (BIP ?_)];have s3:JJ H3:=λc o e=>a4 c o (by simpa using⟨CKZ,A37 a0,A37 a1⟩) (s2 c o e);have key:(DT2 (YD (BJ5 D.filter) (W++D) D k))∨(d<D.length/\DPT):=by
    rcases V with⟨rfl,rfl,rfl,rfl,hroom⟩|⟨rfl,k,I,hroom⟩
    rw[IH ⟨1,CJ (Wk.one R.ri R.nd (R.fst rfl)),CJ hroom⟩]
    .have M:nX:=λz=>DYU;rcases R.all rfl with ha|⟨m',e',a3⟩
     rw[IH ⟨DA,.more I M R.ri R.nd λv=>⟨R.snd rfl v,λ⟨u,hu,J⟩=>ha u hu v J⟩,hroom⟩]
     .cases e';rw[wH ⟨a3,F,W,L,k,I,DZ ⟨M,D,R.nd,R.snd rfl,AX 0x2aae99fb1010a1b4757c8e36484f99 hroom a3⟩⟩]
   refine A7B
   .have e':DQ9:=dD;rw[EV AEH (ke _ s3 ?_)];rcases key with⟨k,I,hroom⟩|⟨_,ho⟩
    .exact OX _ _ k I (MW .inl List.length_append (lq 0x82ac556d0c46e9325fedcb8d59071f99 e' hroom))
    .exact ho
   .rw[BXP DQ9];rcases key with⟨k,I,hroom⟩|⟨b5,_⟩
    .refine⟨D,_,_,k,_,rfl,s3,D3,BI 0x18d94a651d94ea7831f97 e',I,A6H List.length_append 0x608ef6100a441ed122dc9011ec484f99 hroom,?_⟩;cases D with
     |nil=>simp
     |cons y D=>rw[CS5 e'];rw[PM KJ]
    rw[II b5 (BI 0xa2f4953f51cce31f97 e')]
#where
structure Answer(rss:LLI)(n:Nat)(v:qJ):Prop where
 len:CXL
 nn:B0M
 ans:AEW
 pos:AXL
structure Least(rss:LLI)(cs:BY)(v:qJ):Prop where
 an:B4G v
 wi:A4S
 min:∀u,B4G u->ADF u->u=v
def Under.refl(v:qJ):ADF v:=FN (A0X (Int.le_refl _))
def Under.trans{a b c:qJ}(h:D2F)(g:Under b c):Under a c :=
 ⟨MQ CD g.1,λj d=>Int.le_trans (EJ j (AH g.1 d)) (g.2 j d)⟩
def Under.eq{a b:qJ}(h:D2F)(hs:b.sum<=a.sum):a=b:=by
 rw[AGA ne];rw[SD (h.sum.2 ne) 6621043538546 hs]
def a4H(h:AR6):A4S↔∀j,CVD->AY (BFS b5h BNJ):=by
 unfold Wi;induction cs generalizing v with
 |nil=>simp
 |cons c cs b =>
  cases v with
  |nil=>cases h
  |cons x v =>
   rw[DLE Bool.and_eq_true DWF];constructor
   .rintro⟨h1,h2⟩ j a;cases j with
    |zero=>exact h1
    |succ j=>exact h2 j dE
   .intro h1;rw[AZ (h1 0 AJ) (λj a=>h1 JC dE)]
def b5g{c:FX}{x y:Int}(h:kQ b5h c y)(a:x<=y):AY (b5h c x):=by
 cases c with
 |none=>rfl
 |some c =>
  have:y<=c:=of_decide_eq_true h;rw[AWN (BNW 0xe7ecd3ec51a8e a)]
def a4q(a:AR6)(h:A4S)(c:ADF u):CSR:=by
 rw[a4H a]at h;rw[MW a4H F0 a];intro j b;exact b5g (h j b) (QF j (ASJ a))
def c1d(h:AEW)(j:Nat):A0Z v=0:=by
 unfold a2Y V4;rw[bY Ans];induction rss with
 |nil=>rfl
 |cons r rss a =>
  rw[EAN (a EJ) CD];rw[SJ 0x1ba02323a2b5236]
def a7d{f:qJ}(a:f.length=v.length):AY (Bel f v)↔ADF f:=by
 constructor
 .intro h;rw[RQ a];rw[bY Bel];induction f generalizing v with
  |nil =>
   intro j b;rw[<-a]at b;simp at b
  |cons x f c =>
   cases v with
   |nil=>cases a
   |cons y v =>
    rw[List.zipWith_cons_cons,List.all_cons,Bool.and_eq_true]at h;intro j b;cases j with
    |zero=>rw[CSJ CD]
    |succ j=>exact c dE EJ j BGS
 .intro h;unfold Bel;induction f generalizing v with
  |nil=>rfl
  |cons x f c =>
   cases v with
   |nil=>cases a
   |cons y v =>
    rw[BQZ];rw[DLE (c dE h2) Bool.and_true];rw[D3E]
def a0y{rss:LLI}{cs:BY}:∀(m:Nat) {u:qJ},u.sum<=m->B4G u->CSR->∃a,CAS/\Under a u
 |0,u,b,h,_=>absurd h.pos (wQ 0x1e6e0b759cd0016)
 |m+1,u,b,h,hw=>by
  by_cases d:∃t,B4G t/\Under t u/\t≠u
  .obtain⟨t,h1,h2,h3⟩:=d;have:=h2.sum.2 h3;rw[NA a e c (a0y m (u:=t) (BNW 0x4b11b493ae97819b3 b) h1 (a4q h.len hw h2)) a e (c.trans h2)]
  .rw[AV u ⟨h,hw,λt f c=>Classical.byContradiction λne=>d ⟨t,f,c,ne⟩⟩ (Under.refl u)]
def b6R:∀{v:qJ},BT x v TB->AXL->∃j,j<v.length/\1<=BNJ
 |[],_,h=>aG
 |x::v,a,h=>by
  by_cases b:1<=x
  .rw[AV 0 AJ BGS]
  .have h0:=a x List.mem_cons_self;rw[List.sum_cons]at h;rw[NA j h1 h2 (b6R (v:=v) (λy c=>a y CVQ) (AX 0x1bcbe79425cccef8f1652 h b)) JC A2Z A30]
def c4M(h:B0M)(j:Nat):0<=BNJ:=by
 rw[List.getD_eq_getElem?_getD];cases e:v[j]? with
 |none=>simp
 |some x=>simpa using RU h x e
structure WkOk(rss:LLI)(cs:BY)(F L:LLI)(k:Nat):Prop where
 wi:D7I
 bar:HK L (∀f∈F,E6E)
 snd:∀f∈F,BQR f
 all:AJI (a.sum<=k) (a∈F)
 up:AJI (k<=a.sum) DTA
def Wk.ok(hR:DQO)(h:jI):WkOk rss cs F L k:=by
 induction h with
 |@one L ri nd h =>
  have l:HK L (AJM 1):=λv g=>a3C (AUM g);have o:D7I:=λv g=>(BMB AUM g).2;have s:AJI (ER 1<=a.sum) DTA:=λa b _=>by
   rw[AJB j (b6R b.an.nn b.an.pos)];rw[b.an.len]at h1;have d:Under (S3 cs.length j) a:=⟨IC R8 b.an.len,gK (by
    rw[b.an.len]at hi;rw[IE a1r hi];rw[B3O]
    .rw[DW IG e h2]
    .rw[AF FZ (c4M b.an.nn i)])⟩
   exact EM (B09 _ (List.mem_filter.mpr ⟨yJ j CZB,a4q b.an.len b.wi d⟩)) d
  refine⟨o,DY v g f m d,BB f m,DV a b hs,s⟩
  rw[EE6 (gJ m) 0x1dc2aa854b187e5a186c132]
  .rw[ENJ (List.mem_filter.mp m) (AS3 lv.sum) (λu p d=>d.eq ?_)];rw[C0M p.pos lv.sum b8o]
  .rw[C56 s (BLU b.an.pos b8o)];have h1:=BKT;have:v=a:=d.eq (AX 0x17c4bd0e74772b96814a132 hs h1);rw[UG];exact List.mem_filter.mpr CZT
 |@more F W L L' k h ne ri nd M E =>
  obtain⟨N,Z,T,i4,i5,i6,i7,i8⟩:=h.lv;have l:HK L' (AJM DA):=λv g=>by
   rw[UP p Y C3R];exact b3b (N u p) Y
  have y:∀f∈F,f.length=cs.length/\f.sum<=k:=λf m=>by
   obtain⟨i,q1,q2,lv⟩:=Z f (T f m).1;rw[AZ lv.len (AYN b8s q2)]
  have s:AJI (CW7<=a.sum) (∃v∈L',CM2):=λa b hs=>by
   rw[C56 E.up (BI 0xe67d99cb5edd7 hs)];have lv:=N v g;have J:v≠a:=λz=>by rw[<-z,lv.sum]at hs;rw[DQ 235793910325 hs]
   have Q:CNA v:=by
    cases e:A8S with
    |false=>rfl
    |true=>rw[FO (b.min v (lJ lv.len lv.nn (AYN a5C i6)) d) J]
   have V:=c4I rss v a (DOW X X b.an.len) d J b.an.ans;obtain⟨j,t⟩:=List.exists_mem_of_ne_nil _ V;have C:=a5h t;have P:A0Z v<0:=by
    unfold Pl at t;rw[List.mem_filter,Q,Bool.false_or,Bool.and_eq_true]at t;rw[CSJ A2R]
   have G:DJ0 v a:=d.bump t;have hw:=(a4H b.an.len).mp b.wi j (QE b.an.len C.1);rw[DN (rM v) (iQ M _ ⟨v,g,j,?_,rfl,?_⟩) G]
   .unfold StP;rw[List.mem_filter,List.mem_filter,List.mem_range,decide_eq_true_eq];rw[RQ ⟨AH cT C.1,P⟩];cases e:B4N with
    |none=>rfl
    |some c =>
     rw[e]at hw;have:CUC<=c:=of_decide_eq_true hw;rw[AWN (BNW 0xf8c30edde7b8e C.2)]
   .cases e:AI6 (rM v) with
    |false=>rfl
    |true =>
     unfold Bar at e;obtain⟨f,m,n⟩:=List.any_eq_true.mp e;rw[CRT n];have A:=(y f m).1;have B:Under f a:=GI (a7d (A2J A J2 lv.len)).mp n.2 G;have:=b.min f (E.snd f m).an B;rw[cG h2 (y f m).2 this h2];omega
  have o:HK L' A4S:=λv g=>by
   obtain⟨u,p,j,t,rfl,_⟩:=C3R;rw[EMO];have hw:=E.wi u p;rw[a4H w]at hw;rw[MW a4H J2 w];intro i hi;rw[BYX];rw[B3O]
   .rw[IG,e];have K:=q.2.2;cases U:B4N with
    |none=>rfl
    |some c =>
     rw[U]at K;have:CUD<c:=of_decide_eq_true K;rw[AWN (~~~b8U this)]
   .rw[AF FZ (hw i hi)]
  have x:HK L' (∀f∈D6Z,E6E):=λv g f m d=>by
   rw[CM BQP]
   .obtain⟨u,p,j,t,rfl,hb⟩:=C3R;rw[EMO];have A:=(y f z).1;exfalso;rw[KB CUE (DCX u j 0)]
    .have:AY (AI6 AZV):=by
      unfold Bar;exact List.any_eq_true.mpr ⟨f,z,by rw[Bool.and_eq_true];rw[AZ A5G (iQ a7d cT d)]⟩
     rw[AU this hb hb]
    .have B:Under f u:=⟨IC A w,gK (by
      have h1:=d.2 i (AF3 J2);rw[BYX]at h1;rw[BP S i j]
      .subst S;rw[BYX,F1]at e;rw[F1]at h1;rw[D4 0x149c8a5cad62c9d490552372 e h1]
      .rw[CF S]at h1;exact h1)⟩
     rw[AD h2 (E.bar u p f z B) K (c1d (T f z).2 j)];rw[h2]at K;omega
   rw[EE6 BS8 0x1dc2aa854b231a3ca9a39b3]
  have H:AJI (a.sum<=CW7) (a∈D6Z):=λa b hs=>by
   by_cases h1:a.sum<=lF
   .exact hZ (D7G h1)
   .rw[C56 s (AXG 0x1935b87b52fcb97)];have h2:=BKT;have:v=a:=d.eq (ANC 0x17c4bd0e7481c77912819b3 hs);rw[UG];exact WD (List.mem_filter.mpr CZT)
  refine⟨o,x,BB f m,H,s⟩;rw[CM BQP]
  rw[IJ E.snd f]
  .rw[ENJ (List.mem_filter.mp z) (AYN lq 21541609533277) (DV u p d)];rw[AGA R];have D:=d.sum.2 R;rw[lv.sum]at D;obtain⟨a,b,I⟩:=a0y (rss:=rss) (cs:=cs) u.sum.toNat (by rw[KA p.pos]) p (a4q lv.len CNR d);rw[AD hs I.sum.1 O (D7G (AX 0x4b11b3f9c091529b3 D hs))];have:=x f hf1 a (hZ O) (I.trans d);rw[this,lv.sum]at hs;rw[D4 0x385c7151a7fa6997 D hs]
def Wk.least(hR:DQO)(h:oO)(v:qJ):v∈F↔BQR v:=by
 have o:=h.ok hR;rw[EV (o.snd v) (RB a)];by_cases hs:v.sum<=lF
 .exact o.all v a hs
 .obtain⟨u,hu,_⟩:=o.up v a (BI 0xe67d9ecb9cb97 hs);cases hu
def Wk.nd{rss:LLI}{cs:BY}{F W L:LLI}{k:Nat}(h:jI):W.Nodup/\F.Nodup:=by
 induction h with
 |@one L ri nd h=>rw[AZ nd DKE]
 |@more F W L L' k h ne ri nd f d =>
  obtain⟨l,m,n,p,q,r,s,w⟩:=h.lv;have a:HK W (∀u∈L',v≠u):=λv c u b e=>by
   obtain⟨i,x,o,lv⟩:=m v c;obtain⟨t,g,j⟩:=(f u).mp b;have:=lT b3b (l t g) j;rw[<-e,lv.sum]at this;rw[PR 0x111ffe3dcf3736bd6 o]
  rw[EV (CZC cT nd a) (CZC d.2 DKE (λv c u b=>a v (n v c).1 u D1L))]
def a2C:∀{a b:LLI},O4 a->O4 b->a.Nodup->b.Nodup->(vT a (v∈b))->a=b
 |[],[],_,_,_,_,_=>rfl
 |[],AXY,_,_,_,_,h=>CSZ (iQ h y List.mem_cons_self)
 |A5P,[],_,_,_,_,h=>CSZ ((h x).mp List.mem_cons_self)
 |A5P,AXY,ra,rb,na,nb,h=>by
  rw[D1Z j k ra];rw[D1Z g i rb];rw[sU d f List.nodup_cons.mp na];rw[sU m1 c List.nodup_cons.mp nb];have e:x=y:=by
   refine a1x x y ?_ ?_
   .rw[DCG (h x).mp]
    .rw[BO z a0s y]
    rw[IJ g x]
   .rw[DCG (B09 y)]
    .rw[BO z a0s x]
    rw[IJ j y]
  rw[DG];rw[jO (a2C k i f c) v];constructor
  .rw[E21 AUM]
   rw[II (z ▸ hv) d]
   .exact z
  .rw[E21 (B09 v)]
   rw[II (z ▸ hv) m1]
   .exact z
section
variable {K:qF}
def a6Q(n:Nat)(v:V):YW n [v]=BAH v:=by
 induction n with
 |zero=>rfl
 |succ n a=>rw[C5N]
inductive IspFree(vs:AE)(H:Hp)(Q:VK)(E:XK):Prop
 |mk (n:Int) (_:vs=BRH) (_:0<=n) (_:X3) (_:B2I (eO (XQ n.toNat (none:FX) map) cV)):MO IspFree
/---/def b0C:Sp:=OS IspFree
def c1I:DTO b0Q:={}
def c2H(F:UM "free" b0Q "width"):C33:=by
 rw[BM c1I c a g]
 rw[AJX n]
 .rw[EK1 (BXA (CZ J5) DR)]
  rw[EO5 [.non]]
  rw[EAV]
  .rw[a6Q]at e;exact AO k (C1B d) (bG e List.map_replicate)
#where
#where
section
variable {now xs:qJ}
section
variable {P:qH}{w:World}{K:qF}{mg:BA}{base:Heap}
/---/def b2F(g:A73):Sp:=BQ _ (∃x y xs ys,WH x y/\AHD/\eB/\NL/\BA4 (IT H' v (List.zipWith g xs ys)))
def c1H:C3A b0O:={}
def c2E(F:BXN "plus" b0O)(T:AW):DYH:=by
 rw[BM c1H e d m]
 rw[B6Y]
 .rw[C80 c];rw[GS (cL (B5C
 AJP) (AC9 K4))]
  rw[C6Z (AQF (x+y)) c g];rw[AJ5 (x+y)];rw[B5V g]
def b6k:C3A a7D:={}
def b7w(F:BXN "minus" a7D)(T:AW):DYI:=by
 rw[BM b6k e d m]
 rw[B6Y]
 .rw[C80 c];rw[GS (cL (B5C
 AJP) D6H)]
  rw[C6Z D7L c g];rw[AJ5 (x-y)];rw[B5V g]
/---/def a8T:Sp:=BQ _ (∃(n:Int),vs=BRH/\x8/\X3/\y7 (qU n.toNat))
def b3Y:DTO a4V:={}
def b4s(F:UM "nought" a4V "width"):DVK:=by
 rw[BM b3Y c a g]
 rw[AJX n]
 .rw[EK1 (c7i (Q5 RJ) DR)]
  rw[EO5 (kS 0)]
  rw[EAV]
  .rw[c0A]at e;exact AO k (C1B d) (CU q e)
/---/def b2G:Sp:=BQ _ (∃(m:Int) (x:V) (xs:qJ),vs=eX m x/\AHD/\NL/\ASO/\AZQ m/\y7 (xs.map λz=>m*z))
def b6i:A5Q (jW "many") "many" a7A:={}
def b7o(F:AFV "times" a7A "many")(T:AW):E6L:=by
 rw[BM b6i d c j]
 rw[B65 m x xs]
 .obtain⟨m,_,xs,rfl,⟨a,rfl,ha⟩,b,m0,m1,k⟩:=h;rw[GS (cL (VS "a" "many" aS BEM
 (YR "a" "many")) (BUD Z6))]
  rw[CNQ (a8K (caps:=[ADB]) (λz=>CI (m*z)) b CKE rfl (λx H1 g _ _ q=>CQY yH)) e];rw[B6K (AAG (CI (m*x))) (AAG (m*x))];rw[BDL b (bH s.upd e b)]
#where
/---/def Small(xs:qJ):Prop:=uN CXD
def Small.at(h:vP){k:Nat}(a:A6K):0<=BVX/\BVX<=1000:=by
 rw[E20]
def IT.put{H:Hp}{v:V}{ns:qJ}{c:qE}{xs:AE}{o:HO}(h:BVB)(b:BRQ):IT BEN v ns:=by
 rw[NA a e q h a e CNS]
def Its.put{H:Hp}{vs:AE}{rss:LLI}{c:qE}{xs:AE}{o:HO}(h:SO)(a:BRQ):BZ6:=C6I (IT.put e2 a)
/---/def cst(l:GW):qJ:=CNK l.map
def c3N(l m:GW):cst (l++m)=cst l++cst m:=List.map_append
def b5A(now:qJ)(j n:Nat)(c:now.length=n)(d:cB):A95 a b (a+b) now C2O=AZW:=by
 unfold bump;refine List.ext_getElem (by simp[c]) λi h1 h2=>?_;rw[List.getElem_zipWith,List.getElem_map,List.getElem_range,List.getElem_set];rw[KB j i]
 .rw[DG];rw[F1,F1];have:bL=now[j]'(AG):=by rw[vE (BGA BO3)]
  rw[this]
 .rw[FZ,BZ1];omega
def c3D(x:Int)(l:qJ):CM8 (TC l.map)=decide (x∈l):=by
 rw[cH inV Bool.eq_iff_iff List.any_eq_true decide_eq_true_eq];constructor
 .rw[A2O y hy];rw[LN z a hy];rw[E0F z]
  exact this ▸ a
 .intro h;rw[AV (BK x) (yJ x h) CXQ]
def a6R(l:qJ):EG DU2 J6:=by
 rw[E7X]
def c2O{l:GW}{j:Nat}:QP∈cst l↔j∈l:=by
 rw[EA cst List.mem_map];constructor
 .rw[A2O k hk];have:k=j:= ~~~b8T e
  exact this ▸ hk
 .intro h;rw[AV j h rfl]
/---/def Ls(now xs:qJ):GW:=D7K B4K
/---/def Fl(rss:LLI)(now:qJ):GW:=BCQ now.length D5K
def c6c{rss:LLI}(h:D9W):hX=BAR:=by
 unfold Pl Ls;congr 1;funext j;rw[OI h]
def c1Z{rss:LLI}(h:DJ2)(c:D6Y):eW cst BAR DNW=cst hX:=by
 rw[EA cst List.filter_map];congr 1;unfold Ls Pl;rw[List.filter_filter];refine GQ List.filter_congr j b;have a:=List.mem_range.mp b;show(inV (.int QP) CNT && B4K)=_;rw[c3D,h,Bool.false_or,Bool.and_comm];congr 1;rw[Bool.eq_iff_iff,decide_eq_true_eq,decide_eq_true_eq,c2O];rw[cH Fl List.mem_filter List.mem_range decide_eq_true_eq];rw[AZ (λq=>DM) (λq=>⟨iC N6 c,q⟩)]
/---/def NN(xs:qJ):Prop:=iW xs (0<=z)
def c8R(h:BX1)(a:AHJ)(hs:vP):D8J:=λz b=>by
 rw[vB b];rw[AD h1 (h _ b) h2 (a.2 i DQ2)];have c:=hs.at (k:=i) DQ2;have e:now.getD i 0=now[i]:=by rw[vE hi]
 omega
def c2L(h:BX1)(j:Nat):NN (bump now j):=λz a=>by
 rw[AAS bump];rw[SC (List.mem_or_eq_of_mem_set a)]
 .exact h z q
 .by_cases hj:j<now.length
  .have:bL∈now:=by
    rw[ACQ ADG]
   have:=h _ this;rw[iB b8D q]
  .have:bL=0:=by rw[vE (BER now.length j X9 hj)]
   rw[PR 0x11029a55bcf34ed579e372 q]
def a6A:∀(xs:qJ),vP->xs.sum<=1000*xs.length
 |[],_=>AJ
 |EL,h=>by
  rw[DV6 AJU (A3B (a6A xs) z z)]
def a7I(n:Nat):E4I:=by
 induction n with
 |zero=>rfl
 |succ n a=>rw[DVG]
def a6v(xs:qJ)(h:vP):Under AC7 xs:=by
 rw[GF AJ j a];have:=h.at a;have e:XQ xs.length NW getD j 0=0:=by rw[vE a]
 rw[D4 0x7b194f3034f5fcdf2252 A4V e]
def c6M(n:Nat):NN xG:=λz a=>D4A DBZ
section
variable {P:qH}{w:World}{K:qF}{mg:BA}{base:Heap}
/---/def c4r:Sp:=BQ _ (∃(a:qE) (y z:V) (us:AE) (rss:LLI) (now xs:qJ) (j:Nat) (rest:GW),vs=[BF,y,z]/\aE/\SN/\ALX now/\xS/\dF/\D6Y/\NL/\BUV/\D8J/\hX=BI2/\xI j)
def sc_next_place:B04 (D63 "at" "one" "falling") "at" "one" a0i:={}
abbrev c9N(a:qE)(ya:qE)(za:qE)(H:Hp)(rss:LLI)(now:qJ)(xs:qJ)(σ:L2.St)(H':Hp):Prop:=∃p o4,σ=[MB,DE ya,BGP,WA,o4]/\BN/\KW p (ALK hX)
def c6K(F:B0D "next_place" a0i "at" "one")(T:AW)(b:A7J)(c:C24):E8X:=by
 rw[BM sc_next_place L u g]
 .obtain⟨a,y,z,us,rss,now,xs,j,rest,rfl,_⟩:=h;rfl
 .obtain⟨a,_,_,us,rss,now,xs,j,rest,rfl,ha,hI,⟨ya,rfl,hy⟩,⟨za,rfl,hz⟩,hl,hnl,hxl,hR,hs,hPl,k⟩:=h;rw[BU (A1 (EAD sc_next_place.nd "at" (iL (AFB IZ))
 (CXC "at") (A5L a9E BVF D6M) (HS DR))
 (A1 (pI (AM3 (KS g.mono a3l) fP)
 (A5S 4 sc_next_place.nd (fL c g.mono a3l fP)
 (A3 (cJ 3 sc_next_place.nd (N:=["j","falling"]) (src:=[none,AC 4]) B2R
 (YR "j" "falling") (ABX O9 (b1M K DR HY CH)) (HS DR))))
 B4)
 (FK D0Z)))]
  rw[C7N za hz AG];rw[EF0 (DE ya) BGP (VZ B4K) hxl W M]
  .exact⟨_,rfl,_,rfl,ya,_,_,_,rfl,rfl,BQO hy,Y5 (B9O hnl),_,rfl,_,rfl,za,_,_,_,rfl,rfl,BQO hz,Y5 hi,_,_,rfl,rfl,_,rfl,SG⟩
  rw[A5O e AQM M];rw[NF B H2 p AQM p AQM];show(A0X _) _ DPU;generalize DPU=R at e B;rw[EF];rw[pM (c9N a ya za H rss now xs)]
  case fin =>
   rintro σ H' ⟨p,Y,rfl,s',e'⟩;refine ZM p _ 0 BN3 rfl rfl (EE e') ?_ (GP s');rw[AF hPl (Y5 (ns:=QP::cst rest) (k:=0) AJ)]
  refine BKY CSP now (AI e ha) (hI.same e) (CU ya (AI e hy)) hl (λr g=>AH (B0W g) hxl) hs (BB S d);rw[AD C (AI d B) d (e.trans d)];cases G:BVL with
  |true=>rw[iD true (C4 (ON (RO p _ d (AH (c6c G) C))))]
  |false =>
   rw[GV (CU false (E8 ?_)) ⟨_,rfl,_,rfl,a,CSP,us,rss,now,rfl,AI d ha,hI.same d,CU ya (AI d hy),hl,AX 0x1861d376767851c52273ae63a0456 hnl hxl,AH hnl hR,hs,BS Z U l n⟩];rw[DU I t n];rw[AD D (iZ l) l (d.trans l)];rw[CW (dP p D)];rw[DO (b4F (caps:=[DE I]) DNW (by unfold cst Ls;rw[AF List.length_map (bP ZJ CRK)]) (A69 D) rfl (λx J X _ v q=>⟨_,rfl,_,rfl,I,_,rfl,UA (A3Z v),rfl,a6R _,_,rfl,q⟩)) J O v m];rw[AF (c1Z G hnl) (ON (RO O _ (l.trans (v.upd m)) A0))]
/---/def b6b(C:qE):Sp:=BQ E (B6X a z V us AE xs (vs=A4X z/\aE/\SN/\xS/\dF/\B0Z/\Sm xs/\((vI/\CWF/\A6G/\BUV/\vP/\∀v js H',BN->DXH->IT H' v (cst js)->kX)∨(A0O=false/\aQ (AUT HJ)))))
def sc_way:IP (D63 "one" "at" "j") t7 b6n:={}
def c6H{C:qE}(F:AY1 "way" b6n)(T:AW)(g:A7J)(p:DVK)(x:C64)(t:DYH)(d:E8X)(OC:OwnCls "NoAnswer" C BDM "ValueError.__new__" mg base):EEX C:=by
 rw[IQ F.okE sc_way b0 a9 G]
 rw[mU a z us rss xs]
 .obtain⟨a,_,us,rss,xs,rfl,ha,hI,⟨za,rfl,hz⟩,hl,hRl,hSm,k⟩:=h;have hu:=G.u60;rw[yW b2 10000]
  rw[BU (A1 (pI (AFO g G.mono 174586636 fP)
 DE2
 B4)
 (BX 2 sc_way.nd (AGX p a7U BN5)
 (AI8 3 sc_way.nd
 (DNQ (a9F (b1L K hu MX HY)
 (BX 4 sc_way.nd (AGX d b1j (VG (lU HX)))
 (B17 WO wO
 (BNY 2 sc_way.nd (AGX t a7U (BSW (AGX x a7U (FU cD wO))))))))
 BW2))))]
  refine BKY AWP xs ha hI (AY8 hz) hl hRl hSm AJD;rcases k with⟨Z,a7,B,hR,hs,k⟩|⟨Z,k⟩<;>rw[Z]
  rotate_left
  .rw[AV false rfl (E8 ⟨AEH,AGK⟩)]
  rw[GV (CU true AZE) (ZM za _ rfl (UA (HZ hz)) _ rfl (CDO b1t a7) (IF (lq 0x4d5c44b53a3cd5125 B)) (B22 v2 O))];rw[List.length_map,Int.toNat_natCast]at O;rw[B3V];rw[EF];rw[dI n J];rw[A5O s3 eY J];have a2:DK n:=s2.free J;rw[B4O e3 H2 n n];have R:=O.same (AXQ (o:=CC []) J);generalize WX n []=H3 at s3 e3 R;rw[CW ⟨λm σ H'=>ENN now (m=DFP) now AHJ BX1 now now.sum,
   ⟨_,v2,none,_,[],rfl,rfl,s3,R,a6v xs hs,c6M _,rfl,a7I _,e3⟩,?_⟩]
  rintro m σ H' ⟨v,L,now,l,rfl,rfl,s',hv,D,hN,hG,N,e'⟩;rw[hH va a6 id hv];refine ED4 1 AK (EqV.ints (k:=true) (sqt a6) (sqt D20)) AJK;rw[BP y now xs]
  .subst y;rw[show NU ((ASB true (! YB now now) (YB now now))) by simp];rw[xA];refine AGE n (EE e') q hq;exact k _ l _ (BLP hq) hG D3O
  .rw[show HI (ASB true (! YB now xs) (YB now xs)) by simp[y]];rw[AG5];have a3:=C2Y c4I (λr G=>B0W G) D y Z;obtain⟨j,rest,I⟩:∃j rest,hX=BI2:=by
    cases e:hX with
    |nil=>rw[FO e a3]
    |cons j rest=>rw[AV j rest rfl]
   have M:B1X:=by rw[B3E I]
   rw[AD hj (a5h M) a0 D.sum];have a8:=a6A xs hs;refine⟨λσ H'=>ENN c (MF (ARZ c.sum)<DFP) c (Under c xs) (NN c) c c.sum,
    BBP ⟨v,L,c,l,h1,h2,h3⟩ ⟨_,h2,v,L,c,l,h1,rfl,h3⟩,?_⟩
   refine⟨_,rfl,_,rfl,_,rfl,a,WS,AWP,us,rss,now,xs,j,rest,rfl,BSK,hI.same s',hv,(AY8 D20),hl,D.1,D93,hR,c8R hN D hs,I,BB X W⟩;rw[AD Y (vH e') a4 (hv.same W)];have W:=s'.trans W;rw[CW (C7O (QJ Y) n Y (by rw[List.length_map];rw[EA cst List.length_map];omega))];rw[show BB2 l++[BK QP]=B88 BAU V.int by rw[BOK c3N]];have S:=IT.put (o:=AQN) a4 Y;have s5:JJ DZA:=GR u (AH (AQG a2) (t5 W))
   rw[NF e5 X n AQN n AQN];generalize DZA=H5 at S s5 e5;rw[GV ⟨_,rfl,_,rfl,za,_,rfl,UA (A2P hz),_,rfl,_,xs.length,j,rfl,CZS,D93,hj.1,BS v6 H6 s6 a5⟩ ⟨WS,v6,now,_,rfl,S.same s6,a5,IU D.1 b1l B,BS v7 H7 s7 U⟩];rw[b5A now j xs.length D.1 hj.1]at U;have a1:=a2V now j (AH D.1 hj.1);refine⟨v7,_,AZW,BAU,rfl,?_,GI s5.trans s6 s7,U,D.bump M,c2L hN j,hG.snoc ⟨rest,I⟩,AAQ a1 N List.length_append,AI s7 (AI s6 e5)⟩;have b1:=a0.2 y;omega
#where
def a9P{rss:LLI}{xs:qJ}:∀(b:GW) (now:qJ),AHJ->E09->BJ b.length=ARZ now.sum
 |[],now,_,h=>by
  have:now=xs:=h;rw[UG];simp
 |j::b,now,e,⟨⟨rest,c⟩,f⟩=>by
  have a:B1X:=by rw[B3E c]
  have d:=a2V now j (nN e.1 (a5h a).1);have:=a9P b AZW (e.bump a) f;rw[BXD 0xa284f07ecd07fc48e236bc51f826138f d this]
#where
section
variable {w:Str}{xs:qJ}
/---/def C9(x:Int):Str:=AQU
/---/def Sz(xs:qJ):Prop:=uN BX5
abbrev bk:Str:=pW 32
abbrev lf:Str:=pW 10
def C1(x y:Str):BV (x++y)=x.length+y.length:=by
 show(x++y).cps.size=_;rw[Str.cps_append,Array.size_append];rfl
def M8{c B:Nat}:∀{ys:AA},BI7 B->BI3 GH<=ys.length*(B+1)
 |[],_=>FF
 |RW,h=>by
  have:=vR;rw[YJ (x.length<=1*(B+1))]
 |wW,h=>by
  rw[AD h1 vR h2 (M8 (c:=c) (ys:=fM) λz a=>D34)];show BV DXX<=_;rw[C1,C1,A51 ((GH:Str).length=1),List.length_cons,Nat.succ_mul];rw[AIR 0xaefa8c1b15b8bb7d5d8]
def U9{x:Int}(h:BX5):DPA x:=CUJ
def c3I{x:Int}{c:Nat}(a:c<48):c∉BKV:=λh=>by
 have:=U8 x.toNat c h;rw[D4 0x6207d617a8641bce5 a A4V]
/---/def vt(xs:qJ):Str:=tS bk xs.map C9
/---/def ln(w:Str)(xs:qJ):Str:=JD BK0
def a3a(h:xE)(a:A6G):EI vt xs<=488:=by
 rw[ATB (EKK AOA (λy d=>DVJ d (h x b)))];rw[xY (show xs.length*61<=8*61 from CVE BW)]
def c5e(h:CWF):ln w xs=w++bk++vt xs:=by
 cases xs with
 |nil=>rw[A60 h]
 |cons x r=>rfl
def c6S(hw:w.length<=60)(h:xE)(b:A6G):MK ln w xs<=549:=by
 have:=EKK BK0 (λy a=>by
  rw[oX]
  .exact hw
  .rw[AAB hx rfl A43];exact U9 D0E)
 rw[List.length_cons,List.length_map]at this;rw[xY (show(xs.length+1)*61<=9*61 from Nat.mul_le_mul (wQ 0x6352ccfff125) BW)]
def a9t{c d:Nat}:∀{ys:AA},d≠c->A9E (d∉y.cps.toList)->d∉BZL ys
 |[],_,_=>D5S
 |RW,_,h=>vR
 |wW,hd,h=>λa=>by
  rw[a1e]at a;rw[SC AQ1]
  .exact h x List.mem_cons_self q
  .rw[SC (List.mem_cons.mp q)]
   .exact hd q
   .exact a9t (c:=c) hd DC0 q
abbrev wL:Str:=⟨#[108,101,97,115,116]⟩
abbrev wS:Str:=⟨#[115,116,101,112]⟩
/---/def lns(A B:LLI):AA:=A.map (ln wL)++B.map (ln wS)
/---/def pt(A B:LLI):Str:=Str.join lf (lns A B)
def b9U(hw:32∉w.cps.toList):C0Q (ln w xs) BK0:=by
 refine GQ (PK a1W) a b;rw[TR A5M b]
 .exact hw
 .rw[BST x];exact c3I AK
section
variable {K:qF}{α:Type}{src:LQ}{σ caps:L2.St}{Q:VK}{a:qE}{vs:AE}{as:DC}{H:Hp}{te:TE}
def a3u(f:xR)(j:A5D)(g:DKU)(b:DHC)(c:UT)
  (d:EP5) (hd:D9Y):A2B A6I:=by
 rw[EC (S2 (xs:=vs) j (iS (B33 as.take)) u5) (US ys B3C) ?_]
 .rw[EII]
  rw[END]
 rw[EIC]
def O1(f:xR)(j:A5D)(g:DKU)(b:DCE)(c:UT)
  (d:EP5) (hd:D9Y):BU4:=by
 rw[EC (Z9 (xs:=vs) j (iS (B33 as.take)) u5) (US ys B3C) ?_]
 .rw[EII]
  rw[END]
 rw[EIC]
#where
abbrev topN:Int:=1000000000000
abbrev wd(s:String):Str:=RD s
/---/def isNm(w:Str):Prop:=1<=w.length/\w.length<=8/\D4T C2R
structure Nms(ns:AA):Prop where
 nd:ns.Nodup
 nm:∀n∈ns,BOU
/---/def N5(s:B44)(w:Str):B44:=if w=wd "+" then(kT C0T)else(s.1,s.2++[w])
/---/def prt(ws:AA):ES:=let s:=ws.foldl N5 xP;C0T
/---/def Wok(w:Str):Prop:=CV1 w.cps.all/\w.length<=10000
def b5K(h:D4T (c<128))(b:A2I w.length):Wok w:=⟨by
 rw[AF Array.all_eq_true' (λc a=>decide_eq_true (h c dE))],b⟩
/---/def ovI:D0P
 |bN=>BK x
 |none=>.non
section
variable {P:qH}{w:World}{K:qF}{mg:BA}{base:Heap}
abbrev fgs:Str:=RD "0123456789"
abbrev lts:Str:=RD "abcdefghijklmnopqrstuvwxyz"
def c3J(c:Nat):c∈fgs.cps.toList↔CO5:=by
 have e:fgs.cps.toList=List.range' 48 10:=by rw[eQ]
 rw[DSU]
def c2P(c:Nat):c∈lts.cps.toList↔C2R:=by
 rw[DG8 (List.range' 97 26)]
 rw[DSU]
def a8V{σ:L2.St}{src:LQ}{Q:VK}{x z:Str}{H:Hp}{te:TE}(b:A2I x.length)(a:∀c H' (N:VK),N (B82 D2C) H'->BFC (AM4 0 (ANY GH)))(h0:∀v,Sub fY (AM4 0 JZ))
  (hd:A9M (DC3 x.cps.toList.map)):A2B BNC:=by
 rw[RP d]
 rw[EC (b5f (x:=x) (by show x.length<=_;exact b8u b d) (OB ys (H'=H/\ys=DC3 (GN x.cps.toList.take i))) (FN AJ)) (AEE CC7) ?_]
 .rintro i c ys H' hc ⟨rfl,rfl⟩;rw[EV (h0 _) (a c _ _ nW)];rw[CIG hc];rw[CLO hc]
 .rintro ys H' ⟨rfl,rfl⟩ p hp;rw[show x.cps.size=x.cps.toList.length by rw[Array.length_toList],List.take_length];exact hd p hp
def a7f(l:GW)(p:dH):cU E5Q trV=l.all p:=by
 rw[List.all_map];rfl
def a5N(l:GW)(p:dH):BGU (cU E5Q):=by
 rw[A7T]
/---/def c4v:Sp:=BQ _ (∃n:Nat,vs=[C1D]/\D9M/\BUS)
def a6b:DTP a0k:={}
def b4W(n:Nat):E9 n=CWK∨(E9 n≠RD "" /\ ∃c,CY9/\atI AI7 0=AC c):=by
 rw[BZ7]
 rw[IH (AH a b4V)]
 .rw[AA2 (GD (λe=>a4C n D4S))];rw[AD b (a6S n (nR 0x9c8eb1be6da6125)) d CWD];cases e:AI7 with
  |nil=>rw[FO e d]
  |cons c r =>
   rw[e]at b;rw[AV c (λz=>b (by rw[z];rfl)) B3Y]
def dq0{c:Nat}(h:CY9):A4C (GM (V.str GH=oW "0")):=by
 rw[jO decide_eq_false z]
 .rfl
 .rw[C0F]
  have a:[c]=[48]:=fZ (λt:Str=>t.cps.toList) z;injection a with a
  exact h a
def c7s{n:Nat}(h:D9M):Wok (E9 n):=b5K (λc a=>by have:=U8 n c a;rw[DQ 0x254cbe63e13aeea5 this.2]) h
def a6l{m:Tok}(F:UM "is_written" a0k "word")(T:AW)(a:mg "FIGURES"=AC (.str fgs m)):DWZ:=by
 rw[BM a6b d b q]
 rw[AJX n]
 .rw[bX n rfl hl k];rw[RP l]
  rw[BU (A1 (pI (EEP (DSQ
 D2Z) (sQ "0123456789"))
 LS
 B4)
 (FK (c8Z (BEA a0C) (a3T (a6L (BEA c5f) (a3T (c5f (ABD c5g) B2)))))))]
  refine rF _ (c7s hl).1;refine E2U fgs hl (λc H' N e=>iV c fgs rfl e) λp j=>?_;have k:=GP (iG (o:=CC (CEI (ANN cps.toList.map) fgs.cps.toList)) j);refine OD false p _ KZ CTC ?_;rw[a7f,List.all_eq_true.mpr λc g=>BMC (sJ c3J c) (U8 n c g)];rw[WW (C4 AGO)];rcases b4W n with z|⟨z,c,h1,h2⟩
  .rw[BO (BMM (by rw[z])) E8 k]
  .refine R7 (CO k) lL;refine AGO;rw[decide_eq_false λy=>z (V.str.inj y)];rw[cI (ZM _ 0 c rfl rfl (~~~b8u hl l) h2 rfl ?_)];rw[AF (dq0 h1) k]
/---/def c8n:Sp:=AT5 n m Nat (vs=[C1D,BN2]/\AU5 m/\m<=600/\xI n)
def a3Z:lN "word" "most" "word" "most" T0:={}
def a4h(F:WG "read_figures" T0 "word" "most")(T:AW)(a:DWZ):EDZ:=by
 rw[AJ4 a3Z]
 rw[QR n m]
 .obtain⟨n,m,rfl,hl,hm,k⟩:=h;rw[BU (A1 (E02 (QZ U5 DIH 1) (AUA d.mono NB)
 LS
 B4)
 (FK (BE5 c3q NB)))]
  rw[RP e]
  refine⟨_,rfl,_,rfl,ZU 0x248a20bf0d75636cd0ff25a398d7 hl hm e,_,rfl,_,_,rfl,rfl,_,rfl,?_⟩;rw[BO (iM (show ¬(MV<BJ DFC) by exact b8G hl)) C4 (OX rfl n rfl (DNG 0x218aebdfebacd5d18398d6) (BBW (DS (C4 ⟨_,rfl,_,EY,rfl,DNG 0xbb94b398da84b8398d6,b1Y (AX 0x22f55090ff1ec06a8398d6 hl hm),DW7⟩))))]
/---/def c1w:Sp:=BQ _ (∃x:Int,vs=[BXL,C99]/\TB/\aD/\xI x)
def sc_read_number:IP (BDT "top" "number") ["word","top"] W9:={}
def a5o(F:WG "read_number" W9 "word" "top")(T:AW)(a:EDZ):B7D:=by
 rw[BM sc_read_number d c e]
 rw[AJX x]
 .rw[WC x rfl h0 h1 k];rw[RP g]
  have b:EI E9 1000000000000=13:=by
   have h1:D32 13:=BMO BKH;have h2:¬D32 12:=λz=>BEW (a1j AK).mp AK;rw[AIR 0x1ebc5a7729835915f9b7cde5]
  rw[BU (BX 2 sc_read_number.nd (AUA e.mono (AG1 (BH7 a8h (CZ (AE8 HX)))))
 (A1 (B6N 2 (DP U5 2 HY)
 LS
 B4)
 B2C))]
  have h1:x<=1000000000000:=h1;refine⟨_,rfl,_,rfl,1000000000000,rfl,PF,_,rfl,AH b (lq 0x698e4bb341316e0edd g),x.toNat,13,vC b,CUJ,AK,AJD⟩;rw[B26 x.toNat x];rw[CW AGO];rw[DRW (EAK _ rfl) (iM (AWH (¬(BJ 1000000000000<x)) 0x3e0dcd8bd8646e4d29ef7524589666f1ce19960e3bb32bda2a16 h1)) (DS DW7)]
/---/def c8o:Sp:=BQ _ (∃(w:Str),vs=[D14]/\isNm w/\BUS)
def b0I:DTP a3f:={}
def isNm.ok{x:Str}(h:BDY):Wok x:=b5K (λc a=>by have:=AF1 c a;rw[DQ 0x254cbe63ea771625 this.2]) (BLU SE b8j)
def b1b{n:Tok}(F:UM "is_name" a3f "word")(T:AW)(a:mg "LETTERS"=AC (.str lts n)):DX0:=by
 rw[BM b0I d b o]
 rw[AJX x]
 .rw[bX x rfl hx k];rw[D2 h1 h2 e id hx];rw[RP m]
  rw[GS (a6L (c3g A4 DIH A4) (a3T (EEP (DSQ
 D2Z) (sQ "abcdefghijklmnopqrstuvwxyz"))))]
  refine ED4 (AX 0x238079d3484c5f55bdd926 h2 m) _ rfl rfl;rw[DVO x.length];rw[cI AVW];rw[MY (iN (show BJ x.length<=8 by rw[DQ 0x7fd6ae585125 h2])) E8 (rF _ hx.ok.1)];refine GQ (E2U lts (~~~b8j h2) (λc H' N g=>iV c lts rfl g)) p l;rw[APP p CTC];rw[DW a7f (List.all_eq_true.mpr λc j=>BMC (sJ c2P c) (e c j)) (GP (ACO l))]
#where
#where
section
variable {H:Hp}{L:ES}{b:qE}{j:Nat}{ns:AA}{x:Int}{ys:qJ}
/---/def Lsts(H:Hp)(gs:EK)(L:ES):Prop:=gs.length=L.length/\KC i Nat a qE (DJ gs a) (∃l:AA,DJ L l/\YP CVG)
def Lsts.same{H':Hp}{b:EK}(h:ASL b L)(s:BN):Lsts H' b L:=EDN BOF
def Lsts.put{c:EK}{o:HO}(h:DHY)(d:b∉c):Lsts (A9T b) c L:=EDN (AH (A5 λz=>d (by rw[DLR z])) e2)
def Lsts.snoc{c:EK}{l:AA}(h:DHY)(d:A0T CVG):ASL (c++[b]) (L++[l]):=by
 rw[C5K CXS (VO i a) c.length]
 rw[C3U f (A07 a) f]
 .rw[D6E];have:i-c.length=0:=by
   rw[AAZ BPT]
  rw[GU this];rw[AV l (DL1 this) d]
structure PrtI(H0 H:Hp)(g:qE)(D:ES)(c:AA)(ds:EK)(cu:qE):Prop where
 hg:bB g (DQS cu)
 hd:ASL ds D
 hc:GX cu (JQ c.map)
 nd:cu∉ds
 ng:g∉ds
 gc:g≠cu
 fg:ET H0 g
 fc:ET H0 cu
 sm:aI H0 H
def a8B{γ:Type}(f:A73)(g:BVR):E9C
 |[],_=>rfl
 |F2,[]=>rfl
 |EL,FY=>C6M a8B
def R9(a b c:Str):a++b++c=a++(b++c):=Str.ext' (by rw[Str.cps_append,Str.cps_append,Str.cps_append,Str.cps_append,Array.append_assoc])
def U6(s x y:Str)(r:AA):mV s wW DXW:=rfl
def Z4{s:Str}:∀{a b:AA},AYI->AXZ->mV s (a++b) (RG s a++s++RG s b)
 |[],_,h,_=>yI
 |RW,b,_,h=>by
  cases b with
  |nil=>rw[FO rfl h]
  |cons y r=>rfl
 |wW,b,_,h=>by
  show x++s++RG s ((fM)++b)=(DXW)++s++RG s b;rw[Z4 AEI h];rw[AWF]
/---/def N0:ES->AA
 |[]=>[]
 |[t]=>t
 |yM=>vZ
abbrev wplus:Str:=RD " + "
def a9f:∀{ts:ES},BPA->BVM->FW B0A
 |[],h,_=>yI
 |[t],_,h=>AUC
 |yM,_,h=>λz=>by
  have:t=[]:=(List.append_eq_nil_iff.mp z).1;exact h t List.mem_cons_self this
def a6K:∀{ts:ES},BVM->mV wplus (AV1 ts.map) (tS bk N0 ts)
 |[],_=>rfl
 |[t],_=>rfl
 |yM,h=>by
  have c:=DYA a6K;have b:FW B9Q:=BKJ (a9f (by rw[jY]));show JD t++wplus++RG wplus (AV1 (FC ALI))=JD vZ;rw[c,E3Z Z4 AEI];cases e:B9Q with
  |nil=>rw[FO e b]
  |cons y q =>
   rw[U6];have:wplus=bk++(ABK "+"):=CH
   rw[this];rw[AWF]
def a7L:KC t AA s B44 C3H (t.foldl N5 s=(s.1,s.2++t))
 |[],s,_=>AJ
 |wV,s,h=>by
  rw[List.foldl_cons,a7L r _ λz=>h A4A];have:N5 s x=(s.1,s.2++[x]):=by
   rw[EA N5 (AYL (ATD h z))]
  rw[OI this]
def a6D:∀(ts:ES) (D:ES),BPA->ACK C3H->(let s:=tI N0 ts N5 BEE;C0T)=D++ts
 |[],_,h,_=>yI
 |[t],D,_,h=>by
  rw[E4V t.foldl t.foldl];rw[DZM];rfl
 |yM,D,_,h=>by
  have b:=BKJ (a6D ALI DN4 (by rw[jY]));rw[E4V DEO DEO];rw[List.foldl_append,DZM,List.foldl_cons];have:N5 (D,[]++t) (wd "+")=kT DN4:=by
   rw[EA N5 F1];simp
  rw[this];rw[LF Eq.trans b];simp
def b6P{ts:ES}(h0:BPA)(h:hY ts C3H):prt (N0 ts)=ts:=by
 rw[jE (a6D ts [] h0 h) List.nil_append]
def isNm.ne{n:Str}(h:BOU)(x:Str)(b:∃c∈x.cps.toList,c<97):n≠x:=λz=>by
 rw[E9A];have:=AF1 c BXE;rw[D4 0x620760470a3262465 h1 A4V]
/---/def tmW(x:Int)(n:Str):AA:=if x=1 then[n] else DL9
/---/def psW(ys:qJ):D3K:=ys.zipIdx.filter λq=>A0A
/---/def tmP(ns:AA)(q:B0S):AA:=if rJ DM then[DA9] else tmW CS (ns.getD DM bk)
/---/def a0c(ns:AA)(ys:qJ):ES:=GN psW ys (tmP ns)
/---/def D0(ts:ES):AA:=BDS oP B0A
/---/def a5a(ns:AA)(ys:qJ):AA:=BKB BWZ (ARR E4Y)
/---/def Bds(xs:qJ):Prop:=uN (-topN<=x/\x<=topN)
def Bds.neg{xs:qJ}(h:xF):Bds iU:=λy d=>by
 rw[LN x c d];rw[A4Z a (h x c)];rw[BK5]
def c7U(x:Int)(n:Str):FW B4C:=by
 unfold tmW;split<;>intro z<;>cases z
/---/def Tm(ns ws:AA)(j:Nat)(x:Int):Prop:=(∃n,DO9/\ws=B4C)∨(j=ns.length/\ws=[sZ])
def Tm.ne{a:AA}(h:Tm ns a j x):AYI:=by
 rcases h with⟨n,_,rfl⟩|⟨_,rfl⟩
 .exact c7U x n
 .exact BR List.cons_ne_nil
def c7u{y:Str}(b:D8N D0D):DAH:=λz=>by
 rw[E9A];exact h1 (U8 x.toNat c (by show D2D;rw[KP z a]))
def c7t(b:OP)(x:Int):sZ∉ns:=λz=>by
 rw[C08 (b.nm _ z)];cases e:BKV with
 |nil=>exact a4C _ e
 |cons c r =>
  rw[FQ a D2D e List.mem_cons_self]
  have:=h2 c a;rw[KA DI2]
def Tm.out{d:AA}(e:OP)(h:Tm ns d j x){y:Str}(b:D8N (c<97/\D0D)):y∉d:=by
 have a:DAH:=c7u (EBA _ h2);rw[C4F h f]
 .have hn:y≠n:=λz=>(e.nm n (List.mem_of_getElem? f)).ne y (EBA h2 _) z.symm;rw[wD tmW]
  rw[CVS hn]
  .rw[List.mem_cons,List.mem_singleton];rintro(z|z)
   .exact a z
   .exact hn z
 rw[CVS a]
def b6N(b:AIA){q:B0S}(h:q∈psW ys):0<CS/\CS∈ys/\Tm ns (tmP ns q) DM CS:=by
 rw[OK (List.mem_filter.mp h)];rw[AD a (List.mem_zipIdx_iff_getElem?.mp h1) hi (List.getElem?_eq_some_iff.mp a).1];rw[DN (of_decide_eq_true h2) (List.mem_of_getElem? a) ?_];unfold tmP;rw[BP c DM ns.length]
 .rw[BO nZ .inr (ZA c)]
 .rw[CF c];rw[AFP e (show DM<ns.length by exact lq 0x7f6248cec7f0c78ec0f02a0ed7 b hi c)];exact .inl (EM e (AZL e))
def a7m{ns:AA}{ys:qJ}(a:AIA){t:AA}(h:t∈AI0):∃j x,iE/\x∈ys/\C3Q t:=by
 rw[LN q b h];exact EM _ (b6N a b)
def c0w(b:OP)(d:AIA)(h:FW AI0):prt (D0 AI0)=AI0/\BWZ≠oP:=by
 have a:=λt=>@a7m ns ys d t;rw[EA D0 AXN];generalize AI0=f at h a;rw[EV (GQ (b6P h) t m) A5I]
 .obtain⟨j,x,_,_,q⟩:=a t m;exact q.out b (C1X 43)
 .match f,h with
  |[t],_ =>
   obtain⟨j,x,g,_,q⟩:=DG6;have z:t=oP:=z;rw[C4F q c]
   .rw[APV tmW z z]
    .rw[C0F]
     exact(b.nm n (List.mem_of_getElem? c)).ne _ (C1X 48) z
    rw[II (fZ List.length z) AJ]
   .rw[C0F]
    exact a6S x.toNat AG (vC (show E9 x.toNat=CUF from z))
  |yM,_ =>
   have e:0<t.length:=by
    obtain⟨_,_,_,_,q⟩:=DG6;exact List.length_pos_iff.mpr q.ne
   have z:=congrArg List.length (show vZ=oP from z);rw[List.length_append,List.length_cons]at z;simp at z;rw[D4 0x99530036f36af526dc5e e z]
def a9e{y:Str}(a:y≠wd "+"):∀{ts:ES},ACK (y∉t)->y∉B0A
 |[],_=>A09
 |[t],h=>AUC
 |yM,h=>λz=>by
  rw[DTV (y∈vZ) z]
  .exact h t List.mem_cons_self z
  .rw[CM uO]
   .exact a z
   .exact a9e a (λx b=>h x CVR) z
def a9O(a:OP)(b:AIA):wd "="∉BWZ:=by
 rw[wD D0]
 .rw[XL List.mem_singleton]
 .refine GQ (BMO a9e) t m;obtain⟨j,x,_,_,q⟩:=a7m b m;exact q.out a (C1X 61)
/---/def a1T(t:qJ)(q:B0S):qJ:=t.set DM (t.getD DM 0+CS)
/---/def a6f(x:Int):Int:=if AYM then x else 0
def b0h:∀(xs pre:qJ),(eW xs.zipIdx pre.length λq=>A0A).foldl a1T (pre++AC7)=pre++A8M a6f
 |[],pre=>rfl
 |wV,pre=>by
  have a:=b0h r (pre++[a6f x]);rw[List.length_append,List.append_assoc,List.append_assoc]at a;rw[DLD List.length_cons List.replicate_succ];refine Eq.trans ?_ a;unfold a6f;rw[nO AYM]
  .rw[AIG,IG,List.foldl_cons];congr 1;rw[AEN a1T];rw[BMH BW,List.getD_eq_getElem?_getD,BQ8,Nat.sub_self];simp
  .rw[AIV,FZ];rfl
def c9z(a:AIA):tI psW ys a1T AGJ=ys.map a6f:=by
 rw[gY a b0h ys []]
def c1f(ps:D3K):∀t:qJ,MK ps.foldl a1T t=t.length:=by
 induction ps with
 |nil=>intro t;rfl
 |cons p r a=>intro t;rw[KK List.foldl_cons a List.length_set ..]
def b3x:∀ys:qJ,List.zipWith (λa b:Int=>a-b) (ys.map a6f) (FC E4Y a6f)=ys
 |[]=>rfl
 |wV=>by
  have:a6f x-a6f (-x)=x:=by
   unfold a6f;split<;>split<;>omega
  rw[List.map_cons,List.map_cons,List.map_cons,List.zipWith_cons_cons,b3x r,this]
def c7o(h:ns.Nodup){n:Str}(c:DO9):∀i,i<j->JP (CXG).any ((· == n)):=gK (by
 rw[A4Z a CJH];rw[AF (List.getElem?_eq_getElem (Nat.lt_trans hi a)) (beq_eq_false_iff_ne.mpr λz=>List.pairwise_iff_getElem.mp h i j (Nat.lt_trans hi a) a hi (z.trans b.symm))])
section
variable {P:qH}{w:World}{K:qF}{mg:BA}{base:Heap}
/---/def c4p(K:qF):Sp:=BQ _ (nP p ws AA (vs=VY/\DGP/\BU7/\∀g gs H',KW g (aJ gs.map V.ref)->Lsts H' gs (prt ws)->BN->A0W g))
def sc_parted:bQ ["words","groups","word"] "words" a4U:={}
def c1V(a:AA):∀s:B44,QK (a.foldl N5 s).1+QK (a.foldl N5 s).2<=DY0+a.length:=by
 induction a with
 |nil=>intro s;rw[CY4]
 |cons w r b =>
  intro s;have:=b (N5 s w);have h1:QK (N5 s w).1+QK (N5 s w).2<=DY0+1:=by
   unfold N5;split<;>simp<;>exact lq 0x6670fb787dd6
  rw[List.foldl_cons,List.length_cons];rw[D4 0x233e7d439f09329df202a111a1e43a0d9b this h1]
def b4r(F:UM "parted" a4U "words")(T:AW):E6Y:=by
 rw[BM sc_parted R M W]
 rw[QR p ws]
 .obtain⟨p,ws,rfl,hp,hl,k⟩:=h;rw[RP J]
  rw[BU (lV 1 sc_parted.nd D6 D5N
 (A1 (BTD 2 sc_parted.nd
 (A3 (C0 (DP K3 2 B2)
 (pE HY D5N)
 (pE BZX IZ))))
 (AP4 1)))]
  rw[EV FF (λr u=>iO (B2B J) g v)];rw[EF];have m:g≠r:=λz=>by subst z;rw[AU A0 v v]
  have D:DK g:=by rw[A5 m]at v;exact v
  have s1:JJ (HU (VJ r []) g [zJ r]):=bH iG u v;refine dP p BP0;refine UX O2 p BE6 (OB σ (∃o ds r,σ=[WA,DE g,o]/\PrtI H H' g (B2E N5 xP).1 (B2E N5 xP).2 ds r)) (EO none [] r ⟨A0,FN (λi a e=>(by rw[CG])),DQ6 m.symm,(A09),(A09),m,D,u,s1⟩) (kP σ U (CRW I U (BGG I.sm))) ?_ ?_
  .rintro i x σ H1 hx ⟨o,ds,cu1,rfl,I⟩;rw[AS7 hx];rw[BUM d hw];have hi:=LM hw;have G:tI ws.take AT N5 xP=N5 (B2E N5 xP) d:=by
    rw[D9B hw]
   have c:=c1V (ws.take i) xP;rw[G];generalize B2E N5 xP=st at I c⊢;have c:QK w9+QK w6<=i:=by
    have:=List.length_take_le i ws;simp only[List.length_nil]at c;rw[PR 0x6d3ede688338beff4802b198 c]
   have C:=I.hd.1;rw[CW (TQ lD)]
   .injection dD with e
    refine⟨_,rfl,QJ I.hg,FF,BB n q⟩;rw[DXE L g I.hg]
    rw[DXE O cu1 I.hc]
    have nd:n∉ds:=λz=>by
     obtain⟨j,S⟩:=CVP;obtain⟨l,_,e2⟩:=I.hd.2 j n S;rw[AU e2 q q]
    rw[GV (B3R g _ (ID L.symm I.hg) (by simp;exact lq 0x1a4d00fe3177fc4a6cebfce656c1033063bcf5a699d1f70b82a hl J hi c C)) (EO _ DN5 n ?_)];rw[EIT (kT (w9++[w6])) IG]
    rw[y];have N:DK n:=I.sm.free q;refine⟨BZ0,?_,DQ6 L,?_,?_,L.symm,I.fg,N,?_⟩
    .rw[LF Lsts.put (Lsts.put (I.hd.snoc I.hc) ?_)]
     rw[B72 nd O]
     rw[B72 I.ng I.gc]
    rw[B72 nd O]
    rw[B72 I.ng I.gc]
    .intro b o' t;rw[DW (C0W g I.fg) (C0W n N) D66]
   .have e:¬d=wd "+":=λz=>C2Z;have B:atI (DQS cu1) (-1)=CA V.ref cu1:=by
     exact BR a1n
    rw[GV ⟨_,rfl,_,rfl,g,_,_,_,rfl,rfl,EE I.hg,B,QJ I.hc,_,rfl,cu1,_,_,rfl,rfl,I.hc,by simp;exact lq 0x13360ca9beacf17fd4d949fb18fd4eb9a699d1f70b829 hl J hi c,?_⟩ (EO _ ds cu1 ?_)];rw[EIT (w9,w6++[d]) FZ]
    rw[y];refine⟨ID I.gc I.hg,I.hd.put I.nd,BZ0,I.nd,I.ng,I.gc,I.fg,I.fc,?_⟩;intro b o' t;rw[AF (C0W cu1 I.fc) D66]
  .rintro σ H1 ⟨o,ds,cu1,rfl,I⟩;rw[D8P I];rw[AC1];refine k g DN5 H1 ?_ (I.hd.snoc I.hc) I.sm;rw[BOK I.hg]
def b0c(ys:AE):B14 ys CSH=ys.dropLast:=by
 unfold V2;have e:HT.sIx ys.length ys.length CSH=ys.length-1:=by
  rw[AEN HT.sIx];rw[PM AR0]
 rw[e,HT.sIx_none,List.drop_zero,Nat.sub_zero,List.dropLast_eq_take]
def a8k(x:Str)(xs:AA):inV (V.str x) (zN xs.map)=decide jF:=by
 unfold inV;rw[List.any_map,Bool.eq_iff_iff,List.any_eq_true,decide_eq_true_iff];constructor
 .rw[A2O y hy];rw[E0F y]
  rw[KP this hy]
 .intro h;rw[AV x h CXQ]
def Z8(xs:AA):EG (xs.map V.str).all J6:=by
 rw[A7T]
/---/def c8l:Sp:=BQ _ (∃(nt p:qE) (ns ws:AA) (j:Nat) (x:Int),WH A3X EZ/\A4L/\DGP/\C3Q ws/\OP/\ns.length<=100/\iE/\aD/\ATG a (rO a (A9K j x)) BSM)
def sc_read_term:CND ["names","words","place","figures","number"] a0L:={}
def c7p{K:qF}{l:Str}:KC j Nat z V (MA (DB2) z) (EqV K H 0 z (V.str l) ((ns[j]?).any (· == l))):=λj z a=>by
 rw[List.getElem?_map]at a;obtain⟨y,b,rfl⟩:=Option.map_eq_some_iff.mp a;rw[AF b (EqV.flat rfl rfl)]
def a7P{D:Tok}(F:C1I "read_term" a0L)(T:AW)(c:COC D)(a:B7D):E73:=by
 rw[BM sc_read_term y o t]
 rw[XG nt p ns ws j x]
 .obtain⟨nt,p,ns,ws,j,x,rfl,hn,hp,hT,hN,hnl,hx0,hx1,k⟩:=h;rw[A2N C t.u60 u]
  rw[BU (D1A CYQ
 (lV 3 sc_read_term.nd jv 1
 (A1 (AJR DGJ (b1M K BZX DR CH)
 (D1A (b4L K C DR (CZ BZX))
 (BNY 3 sc_read_term.nd (a2R DGJ (APF G6 DV0) (D6 ZB))))
 B4)
 (A1 (A6T a6J CYR
 LS
 B4)
 (BX 4 sc_read_term.nd (A1Y (KS t.mono a3l) (wK D0Z (B1T c)))
 (A1 (B6N 4 (fT K3 4)
 LS
 B4)
 (ZC Q5 (lU wO))))))))]
  rw[SH (iV nt _ BHV ?_)];rw[BV8];rw[pM (λσ H'=>∃fp,σ=[BNF,WA,DL j,DE fp,none]/\oF fp [BXL]/\BN)]
  case fin =>
   rintro σ H1 ⟨fp,rfl,r,s1⟩;rw[wA (C6J fp (WK r) (C4 (AUW fp 0 (EE r) B3Y x rfl (BMU hx0) hx1 (BB H2 s2)))) AGO];rw[DRW AGO (BVA (by rw[SD AXW 0xb7c3bd0422bcae36 hx0])) (OX rfl _ rfl (A8I 2 b1k u) (λq B=>AO k A0 (bH s1.trans s2 B)))]
  have l:=List.length_pos_iff.mpr hT.ne;refine E1N;rw[iN (show NW<BJ (A5T ws.map) by rw[BO List.length_map b8m l])];rcases hT with⟨n,g,hw⟩|⟨g,rfl⟩
  rotate_left
  .rw[EPP (a1n [] _) (decide_eq_false (c7t hN x))];exact DS (C4 (ON ⟨p,bG g List.length_map,hp,kJ⟩))
  have m:ws=[n]/\x=1∨ws=DL9:=by
   rw[hw,tmW];split
   rw[IH (FN (‹_›))]
   rw[HM rfl]
  have b:atI (ws.map V.str) (-1)=CA V.str n:=by
   rcases m with⟨e,_⟩|e<;>rw[e]
   .exact a1n [] _
   .exact a1n [_] _
  rw[EPP b (BMC List.mem_of_getElem? g)];rw[WW (E8 ⟨_,rfl,(NV nt _ hn),_,rfl,_,rfl,p,_,_,_,rfl,rfl,A2X,b,nt,_,_,0,VZ ((BCR).any (· == n)),j,rfl,rfl,hn,AK,c7p,nN List.length_map (LM g),JY g,c7o hN.nd g,?_⟩)];clear b hw;rw[CW E1N];rcases m with⟨rfl,rfl⟩|rfl
  .rw[cQ (iO (B2B u) p1 d)];rw[EC5]
  .rw[AG5];dsimp only[K5];refine EGG p A2X (AB2 d);rw[b0c];rw[EC5]
def c3S{ms:AA}:EO6 (BMA):=by
 rw[EN5]
 .rintro⟨h1,h2⟩;rw[AYS i];rw[lQ hi ns.length]
  .exact h1 i (kM b9M h2)
  .rw[D88,BLO (kM b1o h2)]
 rw[DQB]
def EqV.strs{k:Bool}{a:qE}{ms:AA}(c:E4N a ns.map)(d:E4N b ms.map):DYF:=by
 have step:∀j x y,AT4 (DB2)->MA (BGQ ms.map) y->AP9 0 x CFU:=λj x y e f=>by
  rw[List.getElem?_map]at e f;rw[UP g rfl CTP];rw[BH4 v h f];rw[DW g h (EK3 (.str u) (.str v))]
 rw[<-c3S];cases k
 rw[B60 EqV.lst (BMA)]
 rw[B60 EqV.tup (BMA)]
/---/def pr(q:B0S):qJ:=[BMJ,CS]
def c2K{ys:AE}{rss:LLI}(h:BQ7):JP ys.any c3A/\HK ys E1Y:=by
 have key:HK ys CPH:=λv b=>by
  obtain⟨i,hi⟩:=List.getElem?_of_mem b;obtain⟨r,_,a,e1,e2⟩:=EJ i v hi;rw[CK a _ e1 e2]
 rw[EV (GQ List.any_eq_false.mpr v b) (λv b=>.inr (key v b))];obtain⟨a,_,rfl,_⟩:=key v b;exact Bool.false_ne_true
/---/def c4n:Sp:=EN7 (GX p (AMW D0 B18)) (BQL aD) (EI D0 B18<=10000) (ATG a (KW a (LW (GN xs.map a6f))) BSM)
def sc_read_terms:E15 "totals" "terms" "place" "number" a0h:={}
abbrev c9h(nt p t p6:qE)(xs:qJ)(m:Nat)(H6:Hp)(i:Nat)(σ:L2.St)(H':Hp):Prop:=∃o4 o5,σ=[BNF,WA,BND,DE p6,o4,o5]/\KW t (LW (BVH a1T (qU (m+1))).map)/\Off [t] H6 H'
def a6j(F:C1I "read_terms" a0h)(T:AW)(d:E73)(j:E6Y):E74:=by
 rw[BM sc_read_terms b2 b0 hr]
 rw[mH nt p ns xs]
 .rw[EP7 hxt];rw[BXR R]
  rw[BU (BX 2 sc_read_terms.nd (BI9 RJ (B08 CYQ))
 (A1 (C0 (c7c K hu HY (D6 ZB))
 B2C
 B4)
 (A1 (cJ 3 sc_read_terms.nd (N:=["group","names"]) (src:=[none,aS]) (A5F (A6E j a7U HX))
 (YR "group" "names") XU (HS (A6E d b1j AGM)))
 (A1 (C0 (c7b K hu J5 WO CH)
 LS
 B4)
 (A1 (B4X B2R 4 sc_read_terms.nd 5 sc_read_terms.nd
 (A3 (b1N K MX AB3 mC)))
 B2C)))))]
  rw[GF (B2B R) p1 a4];rw[EM4 a4];rw[SH ⟨_,rfl,nt,_,rfl,UA CWI,_,_,rfl,rfl,p1,_,_,rfl,rfl,e1,uV,uV,by rw[OI List.length_map];rw[D4 0x3e1f870cf62251555bd8366 hnl R],BB t ht⟩];have I:YW ((MF (BJ (A5T ns.map)+1))) A0R=AM1 fE V.int:=by
   rw[gW (BBK (MF (A40+1)) fE)];generalize fE=m;induction m with
   |zero=>rfl
   |succ m ih=>rw[BXK ih]
  rw[I];have a7:DK t:=s1.free ht;rw[B2Q AU8 ht];rw[B5P t AU8 t AU8 t AU8];refine GO _ (B2B R) (AF6 C);rw[AD J (A53 s2.upd ARE C) X (Y8 (o:=CC ARE) e2 C)];have G:C1O (WX p3 ARE) EZ p3 (GM (D0 B18=oP)):=EqV.strs (k:=false) (ZY J hp) (SqL.of A0);generalize WX p3 ARE=H3 at J X G;refine⟨1,_,AK,G,AJK,_,rfl,?_⟩;have u:=c9z hl;by_cases c:a0c ns xs=[]
  .rw[iN (show D0 B18=oP by rw[EA D0 nZ])];rw[List.map_eq_nil_iff.mp c]at u;exact E8 (DS (AO k (QE u X) J))
  obtain⟨a6,a3⟩:=c0w hN hl c;rw[MY (iM a3) C4 ⟨_,rfl,p,_,rfl,BGG J,hwl,EX g gs H4 hg Y s4⟩];rw[a6]at Y;rw[AD L (J.trans s4) e4 (AWT X)];have a5:EI psW xs<=8:=bP ZJ (by rw[KK List.length_zipIdx hl Nat.succ_le_succ hnl]);have B:gs.length=DFD:=by rw[BO Y.1 List.length_map ..]
  rw[B3B g hg];refine UX S2 g (gs.map V.ref) (AGL 0x5cde6d50a8531aa99b5a1547eae0edf R a5 B) (DZU (Its H' ys (GN ARI i pr))) ⟨fC,.nil⟩ (λi ys H' hi h=>⟨ZY CD hg,BBL SE YX⟩) ?_ ?_
  .rintro i x ys H5 hx ⟨s5,hT⟩;rw[AS7 hx];rw[BUM a u];obtain⟨l,n,a0⟩:=Y.2 i a u;unfold a0c at n;rw[EIQ];obtain⟨q1,q2,S⟩:=RU b6N hl D;refine⟨Sub.one,_,rfl,_,rfl,nt,a,ns,_,DM,CS,rfl,A2P (AWV L),A2P a0,S,hN,~~~b1n hnl,q1,hxt _ q2,λb H6 O v=>GD (s5.trans v)⟩;rw[List.take_add_one,D,List.map_append];exact BYN hT.same v b O
  .rintro ys H5 ⟨s5,hT⟩ p6 hp6;rw[List.length_map,B,List.take_length]at hT;rw[GA v s5.upd C9W hp6];rw[JH M H5 p6 ys p6 ys];have r:=vJ hT.same (VC H5) ys hp6;have t6:p6≠t:=u4 BUC hp6;generalize HU H5 p6 ys=H6 at v M r;rw[ZV b1 (L.trans v) y v e4];obtain⟨a8,a9⟩:=c2K r;rw[CW (ZM p6 ys rfl rfl (EE M) a9 _ rfl ?_)];rw[MY a8 C4 (dP p6 M)];refine UX O2 p6 ys (c9h nt p t p6 xs ns.length H6) (AHL y A2V) (kP σ zz (CRW o zz (UI o t6 M))) ?_ ?_
   .rintro i x σ H7 hx ⟨o4,o5,rfl,e7,off7⟩;obtain⟨_,n,a,rfl,u⟩:=r.2 i x hx;rw[EIQ];have S:=(List.getElem?_eq_some_iff.mp (List.mem_zipIdx_iff_getElem?.mp (BMB List.mem_of_getElem? D).1)).1;have W:a≠t:=QO u y;have Z:=UI off7 W u;rw[SH (u7 a _ Z _ _ _ _)];rw[EA c9h (show tI ARI AT a1T AGJ=a1T (BVH a1T AGJ) q by rw[D9B D])];have e:=c1f (ARI i) AGJ;generalize BVH a1T AGJ=U at e7 e;rw[List.length_replicate]at e;have hj:DM<U.length:= ZU 0x3e97b66ece48dfeea24b0ed8 hl S e
    rw[E9U a1 U.map BMJ U[DM] ADG];refine⟨_,rfl,_,rfl,t,_,_,_,rfl,rfl,EE e7,a1,_,rfl,_,_,rfl,rfl,t,_,_,DM,rfl,rfl,e7,?_⟩;have a2:AHT (A1F U.map) BMJ DM:=by
     rw[C5M (KS if_pos (lq 0xbfb09efef05a1a507aca4b0ed8 hl S e))]
    refine⟨a2,_,_,rfl,?_,PK off7.set⟩;rw[A0];unfold a1T;rw[List.map_set,List.getD_eq_getElem?_getD,ADG];rfl
   .rintro σ H7 ⟨o4,o5,rfl,e7,off7⟩;rw[show ys.length=DFD by rw[BDP r.1],List.take_length,u]at e7;rw[WW (AI k e7 λb o O=>AO off7 ?_ (AI b1 O))];simpa using A6 O a7
def a5U(x:Str):∀a:AA,((a.map V.str).countP λz=>eqV z (V.str x))=a.count x
 |[]=>rfl
 |w::r=>by
  rw[List.map_cons,List.countP_cons,List.count_cons,a5U x r];rfl
def cut_hi(a:AA)(m:Nat)(h:CZD):B14 CXZ CSG=GN a.take m V.str:=by
 rw[E68 List.drop_zero Nat.sub_zero List.length_map CV7]
def cut_lo(a:AA)(m:Nat)(h:CZD):V2 CXZ CSG none=GN a.drop m V.str:=by
 rw[E67 CV7 List.map_drop (BMN (by rw[KK List.length_drop List.length_map lq 0x9ee3af564d1eaf859b956]))]
/---/def c8m:Sp:=EN7 (CKJ (a5a ns xs).tail.map) xF (A2I (MK a5a ns xs)) (∀a H',BQ2 a->A5J->BN->BSM)
def sc_read_sum:E15 "middle" "left" "right" "rest" a2b:={}
def a9k{tT:Tok}(F:C1I "read_sum" a2b)(T:AW)(b:DJC)(a:E74):E75:=by
 rw[BM sc_read_sum a1 Z X]
 rw[mH nt p ns xs]
 .rw[EP7 g];rw[A2N hu X.u60 d]
  rw[BU (A1 (A6T a6J (DHB c0h)
 LS
 B4)
 (BX 2 sc_read_sum.nd (DHB b4M)
 (BX 3 sc_read_sum.nd (A1Y (KS X.mono a5w) (AG1 (APF G6 (G5 (jv 2)))))
 (BX 4 sc_read_sum.nd (A1Y (KS X.mono a5w) (AG1 (APF (BTK 2) G6)))
 (A1 (B6N 3 (BBO 4)
 LS
 B4)
 (A1 (DGU 5 sc_read_sum.nd "a" "b" (BS4 wO)
 AJP XU (HS D6H))
 (FK (a2R (c8W (QV c3m T.b_max (kB (BU6 (BCE 5)
 BT8) (c7h rfl T.b_abs NB))) (B1T b)) mC J5))))))))]
  rw[hJ n (BV iU) fE List.length_map hl]
  rw[AD Y (a9O hN hl) o2 (a9O hN n)];rw[a5a,List.length_cons,List.length_append,List.length_cons]at hwl;rw[a5a,List.tail_cons]at hp;have t1:uN aD:=DB3 g;have t2:EQ (A8M (λx => -x)) aD:=DB3 g.neg;generalize hA:ARR xs=A at hp Y hwl;generalize hB:ARR iU=B at hp o2 hwl;have J:A.length<BV yL:=by rw[KK List.length_append List.length_cons lq 32118533801286]
  have l:(yL)[A.length]?=CA wd "=":=by rw[BQ8,Nat.sub_self];rfl
  have c1:A0E yL A.length=A:=List.take_left' rfl;have c2:(yL).drop CSM=B:=by rw[List.drop_append,KS List.drop_eq_nil_of_le b8C,Nat.add_sub_cancel_left];rfl
  have hc:(yL).count (wd "=")=1:=by
   rw[List.count_append,List.count_cons_self,List.count_eq_zero.mpr Y,List.count_eq_zero.mpr o2]
  have m:∀j z,j<A.length->MA ((yL)) z->z≠wd "=":=λj z R e y=>by
   rw[List.getElem?_append_left R]at e;exact Y (by rw[DLR y])
  generalize yL=G at hp J l c1 c2 hc m;refine⟨_,rfl,D00,p,_,_,rfl,rfl,hp,rfl,Z8 G,rfl,_,rfl,?_⟩;rw[a5U,show C98 G.count "="=1 from hc];rw[cQ ⟨_,rfl,D00,p,_,_,A.length,rfl,rfl,hp,rfl,Z8 G,IF J,AF5 d,BS j z R d,?_⟩]
  .rw[nE l d d];exact beq_self_eq_true (wd "=")
  .rw[List.getElem?_map]at d;rw[BH4 y hy d];exact beq_eq_false_iff_ne.mpr (m j y R hy)
  rw[CW (AJ3 ?_)]
  delta K5
  refine AMP p A2X (AB2 S);rw[cut_hi G _ (~~~a3P J),c1];rw[ZP (JQ A.map) S];refine⟨nt,p1,ns,xs,rfl,CWI,BMT hA,hN,hl,hnl,t1,A6H hA 0x2a4c3d18d3ea0dfb0977f2762571d6 hwl,BS a2 H2 e2 s2⟩;rw[B3V];rw[CW ⟨_,rfl,_,rfl,_,rfl,_,_,rfl,rfl,_,rfl,p,_,rfl,AFE hp,AF6 U⟩];rw[COE A.length CSM,cut_lo G _ (~~~a8b J),c2];rw[LY s3 H2 (JQ B.map) U];refine⟨nt,p3,ns,iU,rfl,AAX (WE hn),BMT hB,hN,n,hnl,t2,A6H hB 0x1fe983d5ed9379c1049bd6122571d6 hwl,BS a4 H4 O L⟩;rw[AD u (s3.trans L) e2 (AI u e2)];have L:=s2.trans u;rw[CW (AGP (AGP (AMF false false a2 a4 (rK e2) (rK O))))];rw[DO (a2u (caps:=[]) D7L (k1:=false) (k2:=false) BN8 (EE O) (by simp;rw[D4 0x48ca7d46caeb4f29e16d252d6 hl hnl]) (A9S (AN9 e2) (AN9 O)) rfl (CI3 Q1)) H5 t s5 r];rw[a8B (rC (x-y)) V.int,b3x];have f5:DK t:=(L.trans s5).free r;have C:=DMX (o:=QI) r;rw[NF I H5 t QI t QI];rw[mB H5 t QI H6 C I];rw[CW (dP t I)];rw[DO (vU (C1Z YQ xs (λi=>CIU)) (IF (lq 0xa3b26e4bdca7fdb8855b7e426eca52d7 hl hnl d)) (A69 I) (oV H7 Q7 hv c s7)) H7 p7 s7 W]
  .rw[nE c hv hv];exact AAF _ x SG
  .rw[GV (OD false p7 (A8M (λi=>BFN)) (SqL.of (by rw[C13])) (IF (lq 0x107789e8c0bdaed6 hl)) (DV M hM a0)) AVW];rw[LN x c hM];rw[iN (show MM (x<0) (-x) x<=1000000000000 by have g:=g x c;unfold topN at g;split<;>omega)];rw[GA D s7.upd (CC (xs.map λi=>CIU)) W];exact E8 (DS (AO k (AD4 D) f5 (C.trans D)))
#where
#where
section
variable {C:qE}
structure Dr where
 names:AA
 rows:LLI
 sides:qJ
 caps:WQ
 prices:WQ
/---/def a0B(c:WQ):KM:=c.map λq=>(Sum.inr CS,CI DM)
/---/def lk(c:WQ)(n:Str):FX:=rA c.find? (GM (CS=n)) (·.2)
def a2M(n:Str):∀c:WQ,R0 (a0B c) AQ8=(lk c n).map V.int
 |[]=>rfl
 |q::r=>by
  have a:=a2M n r;unfold a0B lk at *;rw[KB CS n]
  .rw[List.map_cons,a2x (by rw[e]),List.find?_cons,A5G];rfl
  .rw[List.map_cons,a2y (BA0 Sum.inr.inj),List.find?_cons,AX4];exact a
def a8e{c:WQ}{n:Str}:(lk c n).isSome=decide (n∈c.map (·.1)):=by
 unfold lk;rw[Option.isSome_map,Bool.eq_iff_iff,List.find?_isSome,decide_eq_true_iff,List.mem_map];constructor
 rw[EDX dD]
 rw[EDX A5G]
def c3d{c:WQ}{n:Str}{x:Int}(h:BXS):putK (a0B c) AQ8 (V.int x)=a0B DB1:=by
 rw[a9d]
 .rw[EA a0B List.map_append];rfl
 .rw[a2M];rw[EE0];cases e:DFG with
  |none=>rfl
  |some y=>rw[C1K]
section
variable {P:qH}{w:World}{K:qF}{mg:BA}{base:Heap}
def a6r{x:Str}{r:AA}:C3P (FC wV) 0 x:=B3Y
def c9y{x y:Str}{r:AA}:C3P (FC wW) 1 y:=CC8 1
/---/def c8k:Sp:=BQ _ (∃(nt p kp:qE) (ns:AA) (n:Str) (x:Int) (c:WQ),vs=[A3X,EZ,AL kp]/\A4L/\GX p CCA/\BO8 kp c/\n∈ns/\BXS/\TB/\aD/\JR c.length/\∀H',BQ3 kp DB1->D7D->AJJ)
def sc_take_number:UE ["names","words","kept","number"] "names" "words" "kept" W5:={}
def a5k{m:Tok}(F:BS7 "take_number" W5 "words" "kept")(T:AW)(b:mg "TOP"=AC (.int 1000000000000 m))(a:B7D):EIG:=by
 rw[BM sc_take_number j d e]
 rw[B66 nt p kp ns n x c]
 .obtain⟨nt,p,kp,ns,n,x,c,rfl,hn,hp,hk,hin,hno,h0,h1,hcl,k⟩:=h;rw[A2N g e.u60 l]
  rw[BU (A1 (A0L (a1c (a6J cD A4) (a1c (b4I K nJ DR CH) (a0u (c7d g nJ MX CH))))
 LS
 B4)
 (BX 3 sc_take_number.nd (A1Y (KS e.mono a3l) (wK nJ (B1T b)))
 (A1 (DQP
 LS
 B4)
 (A1 (a1A g MX nJ WO)
 nU))))]
  refine C6J p CK7 (C4 (EM8 nt BHV rfl (Z8 ns)));rw[F1,a8k,iN hin];rw[WW (C4 (EM8 kp (DGet.k (k:=AQ8) hk) _ rfl))];rw[a2M,Option.isSome_map,a8e,iM hno];rw[cQ (AUW p _ A2X c9y x rfl h0 h1 AJD)];rw[CW (AGP ⟨_,rfl,_,rfl,_,rfl,p,_,_,_,rfl,rfl,EE BP0,a6r,kp,_,rfl,DPut.k (k:=AQ8) (HZ hk) (by unfold a0B;rw[AF List.length_map (lq 0x16bf9609ac6decabf4f54ec80e6 hcl l)]),?_⟩)];refine k _ ?_ (PK s1.off.set);rw[AF A0 (fZ some (congrArg HO.dK (c3d hno)))]
#where
/---/def dfl(tn ar as ac ap:qE):OO:=[mM "names" tn,D3F ar,mM "sides" as,D3G ac,mM "prices" ap]
section
variable (tn ar as ac ap tn':qE)
def a5T:AI2 "names" tn:=CH
def c0K:AI2 "rows" ar:=CH
def c5l:AI2 "sides" as:=CH
def c5n:AI2 "caps" ac:=CH
def c5m:AI2 "prices" ap:=CH
def c0J:B1K "take":=CH
def c7x:B1K "take_names":=CH
def c7w:B1K "take_sum":=CH
def c7v:B1K "whole":=CH
def c3K:C6 "prices" (AL ap) E76=A9F:=CH
def c0L:C6 "names" (AL tn') A9F=AL7 dfl tn':=CH
#where
def Its.putI{H:Hp}{vs:AE}{rss:LLI}{c dx:qE}{fs:OO}{o:HO}(h:SO)(b:AC2 gE):BZ6:=DA4
structure DrTx(K:qF)(C:qE):Prop where
 cl:UR
 n1:bT "names"
 n2:D1O
 n3:bT "sides"
 n4:D1P
 n5:bT "prices"
structure DrAt(C:qE)(H:Hp)(p ar as ac ap:qE)(d:Dr):Prop where
 ob:∃dx tn,AQR A9F/\GX tn (B87 d.names.map)
 hr:∃us,bB ar us/\OY us d.rows
 hs:GX as (LW d.sides.map)
 hc:BO8 ac d.caps
 hp:BO8 ap d.prices
 rs:ar≠as
 cp:ac≠ap
def DrAt.same{C:qE}{H H':Hp}{p ar as ac ap:qE}{d:Dr}(h:yP)(s:BN):AME DrAt ar as ac ap d:=by
 rw[BZN e f j g i b c a h];exact⟨⟨dx,tn,JU e,JU f⟩,A2M (JU g) (i.same s),JU hs,JU b,JU c,rs,a⟩
section
variable {P:qH}{w:World}{K:qF}{mg:BA}{base:Heap}
/---/def dr0:Dr:=⟨[],[],[],[],[]⟩
/---/def b2O(C:qE):Sp:=AT5 p dx qE (vs=VY/\BWF/\∀(ar as ac ap:qE) (H':Hp),DK ar->DK as->DK ac->DK ap->APR dr0->DEM->A9H)
def a2B:B3G N4:={}
def b7C(FM:AH1 "__init__" "Draft.__init__" N4)(U:aB):AAL "__init__" b2O:=by
 rw[IQ FM.fnJ a2B a0 I hr]
 rw[QR p dx]
 .rw[WC p dx rfl hp k];rw[BU (A1 (BDI Q5)
 (B3F
 (B3F
 (AB5 b3o
 (AY4 b3o)))))]
  have step:∀{H1:Hp}{x:qE}{o:HO}{fs:OO}{fl:Str}{v:V},H1 p=AC gE->AD5 x->C5Y p=AC CGV/\p≠x/\PJ H1 x o p gE/\JN (C5Y) o/\B56 (pY (C5Y)):=by
   intro H1 x o fs fl v h1 h2;have m:p≠x:=AQZ A6;refine⟨A0,m,ID m h1,C18 m.symm,BS b u hb F⟩;rw[DW (A5 F) (fH hb h2) hb]
  rw[dI tn G];obtain⟨L,q,a3,M,N⟩:=B69 (o:=NS []) "names" tn hp G;refine gR a3 U.n1 AK;rw[AEQ (upd (PQ H tn []) p (CNU tn)) L M N];rw[dI ar l];obtain⟨O,r,b3,y,z⟩:=B69 (o:=CC []) "rows" ar L l;rw[B2M b3 U.n2 1];rw[AER (ACR (HU H1 ar []) p dx BKL) O y z];rw[dI as c];obtain⟨R,B,c3,S,c5⟩:=B69 (o:=CC []) "sides" as O c;rw[B2M c3 U.n3 2];generalize upd (WX as []) p (AON "sides" as BKL)=J at R S c5;rw[wC (BB ac j) T W d3 D d (B69 (o:=AAI) "caps" ac R j)];rw[B2M d3 U.n4 3];generalize ACR (VA J ac .dK []) p dx E76=H4 at T D d;rw[wC (BB ap a) f1 f2 f3 f4 i (step (o:=AAI) (fl:="prices") (v:=AL ap) T a)];rw[B2M f3 U.n5 4];have g1:vY H1:=N;have X:vY H2:=B5H z g1;have Y:vY J:=B5H c5 X;have Z:vY H4:=B5H d Y;have fr:∀{t:Hp}{x:qE},(vY t)->ET t x->p≠x->DK x:=by
   intro t x g hx m;cases e:H x with
   |none=>rfl
   |some o=>rw[AU (g x o e m.symm) hx hx]
  refine k ar as ac ap _ (fr g1 l r) (fr X c B) (fr Y j W) (fr Z a f2) ⟨⟨dx,tn,IC A0 c3K,?_⟩,C3F,?_,?_,?_,?_,?_⟩ (B5H i Z)
  .exact AO i (AO d (AO c5 (AO z M q.symm) q.symm) q.symm) q.symm
  .exact AO i (AO d (AO c5 y r.symm) r.symm) r.symm
  .exact AO i (AO d S B.symm) B.symm
  .exact AO i D W.symm
  .exact f4
  .exact A6 y c
  .exact A6 D a
/---/def c4g(C:qE):Sp:=BQ _ (∃(p ar as ac ap l:qE) (ws:AA) (d:Dr),vs=B2L/\yP/\D9P/\Nms ws/\1<=ws.length/\ws.length<=7/\B3K (D4U ws) (ADH p) AJJ)
def a1K:DF9 L3:={}
def a6g(W:WI "take_names" "Draft.take_names" L3 gL)(U:aB)(T:AW)(c:DX0):E6P:=by
 rw[IQ W.fnJ a1K X F R]
 .obtain⟨p,ar,as,ac,ap,l,ws,d,rfl,_⟩:=h;rfl
 .rw[EOL rfl D hl hN h1 h7];rw[A2N hu R.u60 hz]
  have y:QS 9<scanBound:=by decide
  rw[BU (A1 (A0L (a1c (M7 (c3h A4 cD A4)) (a1c (a9E (c3p P w rfl T.b_len (CZ (c3k K P w rfl T.b_set HX))) cD) (AV0 a0u (AEA (A2F "word" D2V
 D2Y) (GZ c R.mono NB)))))
 LS
 B4)
 (AB5 (aZ HX)
 nU))]
  rw[BRN (CR3 l B05) (DVO ws.length)];rw[cI AVW];rw[MY (iN (ABT (CSX<=7) a8c h7)) C4 ⟨_,rfl,l,ws,rfl,ALV,AX 0x25d403fee93a5366 h7 y,EX a e n hD hm r⟩];rw[ZP AUO n];rw[NF M H a AUO a AUO];rw[AE2 (tM AUO) M];rw[BRN ⟨a,_,rfl,M,AX 0xd7e6e9f73e278a0bc88ecdb7d74a99c08ee1ffa0766 h7 r,_,rfl,l,_,rfl,WK BP1,_,_,rfl,rfl,_,rfl,?_⟩ (iM (show ¬(BJ e.length<CSX) by rw[A2Q (Tab.nodup_le ws e hN.nd λx m=>iQ hm x m) b8G]))];rw[cQ (dP l BP1)];rw[DO (vU (C1Z BE6 ws (FE BEG)) (CN9 h7) (A69 BP1) (oV H2 Q2 S m s2)) H2 p2 s2 u]
  .rw[nE m S S];exact OX rfl x rfl (RU hN.nm x m) q
  .have s3:=DT1 CN2 u;rw[APP p2 ?_]
   .rw[A7T]
   rw[show EG (cU (ws.map λ_=>BEG)) trV by rw[A7T]];generalize WX p2 CN2=I at s3;rw[WW (C4 (AGE l (ZY s3 hl) tn B))];rw[GA G s3.upd ATO B];rw[NF L I tn ATO tn ATO];rw[mB I tn ATO J G L];obtain⟨⟨dx,a0,g,o2⟩,⟨us,r1,r2⟩,hs,Z,hp,rs,Y⟩:=D.same G;refine gR g U.n1 (BA3 5);rw[c0L];have j:AEB HO (GL J) ((∀fs,o≠gE)) (PJ J p (aT A9F) b o):=λ{b o} O t=>by
    rw[AF (A5 λz=>by subst z;rw[O]at g;injection g with g;exact t _ g) O]
   exact k _ ⟨⟨dx,tn,A0,j L AJW⟩,⟨us,j r1 AJW,Its.putI r2 g⟩,j hs AJW,j Z AJW,j hp AJW,rs,Y⟩ CX2
/---/def c8j(C:qE):Sp:=BQ _ (∃(p ar as ac ap l:qE) (d:Dr) (xs:qJ) (sd:Int),vs=B2L/\yP/\BEY CQ0/\BY8/\D4N/\A6B/\Bds AQJ/\A2I (MK a5a d.names AQJ)/\d.rows.length<=5/\C05/\B3K (C46 xs sd) (jU [ar,as]) AJJ)
def sc_Draft_take_sum:IP (lK "words" "rest") gL N3:={}
def a9h(Y:WI "take_sum" "Draft.take_sum" N3 gL)(U:aB)(T:AW)(c:E75):E6Q:=by
 rw[IQ Y.fnJ sc_Draft_take_sum Z O hr]
 rw[EIJ d xs sd]
 .obtain⟨p,ar,as,ac,ap,l,d,xs,sd,rfl,D,hl,hN,hxl,h7,h3,hwl,h5,hsl,k⟩:=h;rw[RP X]
  rw[BU (BX 2 sc_Draft_take_sum.nd (A6E c b7R BVV)
 (A1 (B6N 2 (K3 AZ8 A4)
 LS
 B4)
 (B17 KY (CZ (aZ (CZ (a2P K MX G6 DV0))))
 (B17 KY (jaC (a2Q (CHC MX)) jaN)
 nU))))]
  obtain⟨⟨dx,tn,m,u⟩,⟨a0,R,_⟩,_⟩:=tZ;rw[SH ⟨_,rfl,p,C,dx,_,_,rfl,m,U.cl,U.n1,AC8,_,rfl,tn,l,d.names,AQJ,rfl,u,hl,hN,BR1 hxl,h7,h3,hwl,DY a H1 x I s1⟩];rw[BZN m u F r v G L cp BSH];refine AGP (BLA m U.n2 BQF ar _ rfl (WK r) rfl);rw[BVA (by rw[OA AXW v.1];rw[PR 0x111ffe2f6501d4fe5 h5])];rw[cQ (B7G m U.n2 BQF r)];dsimp only[K5];refine EGG a (EE x) (BMX M);rw[b0c,<-List.map_dropLast,List.dropLast_concat];rw[B3J QI M];rw[B5P p2 QI p2 QI p2 QI];rw[gF p2 BN8 q N];rw[A5O j RT N];rw[NF W H2 q RT q RT];rw[mB H2 q RT t j W];rw[ZV S (s1.trans j) x j x];rw[ZV m (AWS m) u j u];rw[ZV r (AWS r) hs j hs];rw[ZV G (AWS G) L j L];rw[AD v (v.same j) J v.1];clear s1 s2 j;refine B3R ar F r (ZU 0x5cde6d6301f873465c7fb81d5bcd7e7 h5 X J);have y:AEB HO (GL t) CVW (xB t ar C1L b o):=λe g=>ID g e
  have kd:E0T CVW:=λ{b o} e g z=>by
   rw[DQW r]
   exact g _ e.symm
  have n:=y hs rs.symm;rw[GV (B7G (y m (kd m λ_ z=>yZ)) U.n3 CYG n) ⟨_,rfl,_,rfl,a,_,_,_,rfl,rfl,SqL.of (y x (u4 R I)),AH List.map_append (BR a1n),_,rfl,as,_,_,rfl,rfl,n,AGL 0x5d8498f7cc2b21570a82e50ef15dbe7 h5 hsl X,?_⟩];have B:E0T (xB (HU t ar C1L) as (DN6 (CI (- -sd))) b o):=λ{b o} e g=>by
   rw[AF (A5 λz=>by rw[DQW hs];exact g _ e.symm) (y e (kd e g))]
  refine k _ ⟨⟨dx,tn,B m KD,B u KD⟩,A4Y C1L (C18 rs),?_,B G KD,B L KD,rs,cp⟩ (DFN S.off.set)
  .exact Its.put (Its.put (v.snoc (CU q W)) r) n
  .rw[A0,List.map_append];exact congrArg (λz=>CA HO.lst (DN6 (CI z))) (Int.neg_neg sd)
def a1H(x:V)(xs:AE):V2 EL (AC PV) none=xs:=by
 rw[cH V2 EBL HT.sIx_none HT.sIx_nat];simp
/---/def L5(p ar as ac ap:qE):EK:=[p,ar,as,ac,ap]
inductive Stp:DW0 AA
 |of {d:Dr}{ns:AA}(h0:d.names=[]) (hN:OP) (h1:A5X) (h7:ZQ):AHB A8K (D4U ns)
 |sum {d:Dr}{xs:qJ}{s:Int}(hN:BY8) (h1:AYE) (h7:A6B) (hl:D4N) (hb:Bds BRJ) (h5:d.rows.length<=5) (hs:C05):AHB (a5a d.names BRJ) (C46 xs s)
 |cap {d:Dr}{n:Str}{x:Int}(hn:BX6) (hc:BF0 d.caps.map) (hl:JR d.caps.length) (h1:TB) (h2:aD):AHB [A1D,n,sZ] (AAR caps (d.caps++[BI0]))
 |price {d:Dr}{n:Str}{x:Int}(hn:BX6) (hc:BF0 d.prices.map) (hl:JR d.prices.length) (h1:TB) (h2:aD):AHB [ABZ,n,sZ] (BUA (d.prices++[BI0]))
/---/def c8i(C:qE):Sp:=EOX ws AA (vs=B2L/\AHB ws d'/\BU7/\yP/\D9P/\B3K d' BP5 AJJ)
def a6c:DF9 a0o:={}
def DrAt.putK{H H':Hp}{p ar as ac ap kp:qE}{d d':Dr}{c:KM}(D:yP)(l:VB kp .dK c)(off:D7D)(m:d'.names=d.names)(n:d'.rows=d.rows)(hs:d'.sides=d.sides)(h1:BQ3 ac d'.caps)(h2:BQ3 ap d'.prices):APR d':=by
 obtain⟨⟨dx,tn,s,t⟩,⟨w,u,j⟩,h,x,y,rs,k⟩:=D;have kd:AEB HO A0U ((∀c,o≠.dK c)) (GL H'):=λ{b o} f g=>off b o (by rw[List.mem_singleton];intro z;rw[z,l]at f;injection f with f;exact g _ f.symm) f;refine⟨⟨dx,tn,kd s KD,AH m (kd t KD)⟩,A4Y w (kd u KD),AH hs (kd h KD),h1,h2,rs,k⟩;rw[n];rw[AZ j.1 (λi v e=>CBD (j.2 i v e) (kd q KD))]
def b7p(R:WI "take" "Draft.take" a0o gL)(U:aB)(T:AW)(i:UR)(a:EIG)(e:E6P)(g:E6Q):E6O:=by
 rw[IQ R.fnJ a6c W N v]
 rw[EIJ ws d d']
 .rw[EOL d' rfl S hwl D hl];rw[BU (A1 (A6T K3 AZ8
 (FK (a6L (a0C nJ B2) (a3T (a1h e i (NR v.mono) DR CTH))))
 B4)
 (A1 (E53
 (ZC (a1h g i (BP8 v.mono) DR) CTH)
 B4)
 (A1 (E53
 (FK DVP)
 B4)
 (FK (a6L (a0C nJ B2) (a3T DVP))))))]
  obtain⟨⟨dx,tn,t,M⟩,_,_,G,I,_,O⟩:=tZ;refine BLA t U.n1 AC8 tn _ rfl (UA M) rfl;have L:AYE->vM (A2A (QS (A5T d.names.map))):=λh=>BVA (by rw[ATB AXW];rw[PR 0xb7c3bd02eb9bfe6d h])
  have pos:∀{n:Str},BX6->AYE:=λh=>List.length_pos_of_mem h;cases S with
  |@of ns X F h1 B =>
   rw[MY X E8 CAA];rw[B27 (EGK c7x)]
   delta K5
   refine BL9;rw[List.map_cons,a1H];rw[ZP (JQ ns.map) j];exact⟨p,ar,as,ac,ap,p1,_,d,rfl,BSH,A0,F,h1,B,BLD y y (AF2 CJW)⟩
  |@sum xs sd F h1 B J m Y hs =>
   rw[AQW (L h1)];rw[B27 (EGK c7w)]
   delta K5
   refine BL9;rw[a5a,List.map_cons,a1H];rw[ZP (JQ CQ0) j];exact⟨p,ar,as,ac,ap,p1,d,_,_,rfl,BSH,A0,F,J,B,m,hwl,Y,hs,BLD y y (by rw[lC m];unfold L5;simp only[List.mem_cons];rcases m with rfl|rfl<;>simp)⟩
  |@cap n x u r q h1 h2 =>
   rw[EAF];rw[B27 EB5]
   delta K5
   rw[EPW U.n4 CYH ac BP2 BP2 e2 (UI c O.symm AYF)]
  |@price n x u r q h1 h2 =>
   rw[EAF];rw[AQW COA];rw[B27 EB5]
   delta K5
   rw[EPW U.n5 CYI ap AYF AYF (UI c O BP2) e2]
#where
#where
section
variable {L:ES}
structure SysAt(H:Hp)(v:V)(ns:AA)(rows:LLI)(sides:qJ)(caps:BY)(prices:qJ):Prop where
 ex:C71 a p (v=BF/\EKS/\BTO/\BZ3/\DFI/\GX s (NT sides.map)/\AC2 AE5/\GX p (NT prices.map))
/---/def Dr.capsL(d:Dr):BY:=d.names.map (lk d.caps)
/---/def Dr.pricesL(d:Dr):qJ:=B81 (CQ6 d.prices)
section
variable {P:qH}{w:World}{K:qF}{mg:BA}{base:Heap}{C:qE}
/---/def c8h(C:qE):Sp:=BQ _ (∃(p ar as ac ap:qE) (d:Dr),vs=VY/\yP/\A6B/\EMW)
def sc_Draft_whole:IP (lK "caps" "prices") zU X5:={}
def b7n(FM:AH1 "whole" "Draft.whole" X5)(U:aB)(T:AW):DSO:=by
 rw[IQ FM.fnJ sc_Draft_whole a1 a0 hr]
 rw[XG p ar as ac ap d]
 .obtain⟨p,ar,as,ac,ap,d,rfl,D,hnl,k⟩:=h;rw[BXR hz]
  rw[BU (BX 1 sc_Draft_whole.nd (cL (E0I
 DBS) (c3w hu B0X (jv 0)))
 (BX 2 sc_Draft_whole.nd (cL (E0I
 DBS) (c3v hu B0X DR A4))
 (ZC Q5 (FU KY (VU BQH BQH CYO)))))]
  rw[BZN g t j r1 r2 hc hp cp tZ];refine EGL g t;rw[DO (EIO C8Y t (oV H1 Q1 r Z s1)) H1 p1 s1 S]
  .rw[EL6 (HZ g) U.n4 CYH ac CWJ CWJ];cases e:lk d.caps x with
   |none=>rw[TD e];rw[MZ]
   |some y=>rw[TD e];rw[MZ]
  rw[B2Q (CC mS) S];rw[JH e2 H1 p1 mS p1 mS];rw[A52 H1 p1 mS H2 s2 e2];rw[gF p1 BN8 l O];rw[A5O c (NS mS) O];rw[pH e3 H2 l mS l mS];rw[AWI H2 l mS H3 c e3];rw[CW (EGL (A59 c) (A3Z c))];rw[DO (EIO C8X (A3Z c) (oV J Q4 r Z B)) J I B W]
  .rw[EL6 (AI B (A59 c)) U.n5 CYI ap DER DER];cases e:lk d.prices x with
   |none=>rw[TD e];rw[MZ]
   |some y=>rw[TD e];rw[MZ]
  rw[GA s5 B.upd (CC mR) W];rw[JH e5 J I mR I mR];rw[A52 J I mR H5 s5 e5];rw[gF I CTT m R];rw[GA s6 s5.upd (NS mR) R];rw[pH e6 H5 m mR m mR];rw[AWI H5 m mR L s6 e6];rw[EF];rw[iF a c.trans s6 ⟨_,rfl,p,C,dx,_,_,rfl,A59 a,U.cl,U.n1,AC8,_,rfl,p,C,dx,_,_,rfl,A59 a,U.cl,U.n2,BQF,ar,j,rfl,kF (ZY a r1) u X⟩];rw[x6 s7 L j X];rw[pH e7 L u j u j];rw[AWI L u j M s7 e7];rw[iF F a.trans s7 (AVZ (A59 F) U.n3 CYG as _ rfl (kF (ZY F hs) z Y))];rw[LY s8 M ASW Y];rw[NF e8 M z ASW z ASW];rw[mB M z ASW H8 s8 e8];refine OX rfl _ rfl DRM (BB q hq);rw[AD s9 (C0I H8 [AL tn,AL u,AL z,FP,AL m] hq) G (s8.trans s9)];have b:=s7.trans G;refine AO k ⟨q,tn,u,z,l,m,j,rfl,A0,AI b (A3Z a),A3Y e7,(r2.same (a.trans b)),AI s9 e8,AI b (AI s6 (D4R e3 Dr.capsL)),AI b (D4R e6 Dr.pricesL)⟩ (a.trans b)
inductive Stps:DW0 ES
 |nil {d:Dr}:Stps d [] d
 |cons {d e d':Dr}{ws:AA}{L:ES}(h:Stp d ws e) (r:B54 L):A4H (ws::L) d'
def Stps.inv{d d':Dr}{a:AA}(h:A4H (a::L) d'):∃e,Stp d a e/\B54 L:=by
 cases h with|cons h r=>exact EM h r
def Stps.app{d e d':Dr}{M:ES}(h:Stps d L e)(g:B54 M):A4H (L++M) d':=by
 induction h with
 |nil=>exact g
 |cons h _ a=>exact .cons h (a g)
structure Wl(ws:AA):Prop where
 ne:FW ws
 wl:BU7
 no:EQ ws (DEK/\10∉x.cps.toList)
 le:A2I (vV ws)
def Wl.split{b:AA}(h:Wl b):C0Q (JD b) b:=a1W h.ne λa c=>(h.no a c).1
/---/def lnW(L:ES):AA:=AV1 L.map
/---/def ptW(L:ES):Str:=tS lf lnW L
def b4f(h0:nX)(h:VN L (Wl b)):PySem.Txt.split (ptW L) lf=lnW L:=by
 refine GQ (a1W (λz=>h0 (List.map_eq_nil_iff.mp z))) a c;rw[LN b hw c];exact BMO a9t λy d=>((h b hw).no y d).2
def b2T(h:∀a∈L,Wl a)(b:BX2):EI ptW L<=10000000:=by
 have:=CBA 10 10000 (lnW L) λy d=>by
  rw[LN a hw d];exact(h a hw).le
 rw[TD (BQJ (EI lnW L) L.length)];rw[xY (bP (show _<=900*10001 from Nat.mul_le_mul b BW) AK)]
/---/def c4f(C:qE):Sp:=EOX L ES (vs=B2L/\yP/\GX l CNN/\l∉CFK/\C2M/\A4H L d'/\B3K d' BP5 A9H)
def sc_take_all:IP ["draft","lines","number","line"] ["draft","lines"] a1Z:={}
abbrev c9M(p l:qE)(L:ES)(d':Dr)(C ar as ac ap:qE)(H:Hp)(i:Nat)(σ:L2.St)(H':Hp):Prop:=∃o2 o3 e,σ=[WA,AX8,o2,o3]/\B54 (L.drop i)/\APR e/\BP5
def a9i(F:WG "take_all" a1Z "draft" "lines")(T:AW)(c:UR)(b:E6O):EI5:=by
 rw[BM sc_take_all I z J]
 .obtain⟨p,ar,as,ac,ap,l,L,d,d',rfl,_⟩:=h;rfl
 .obtain⟨p,ar,as,ac,ap,l,L,d,d',rfl,D,hL,hl5,hW,S,k⟩:=h;rw[OR M]
  refine EM ((A3 (B4X (QV c0i T.b_enumerate HX) 2 sc_take_all.nd 3 sc_take_all.nd
 (A3 (pI (a1h b c (KS J.mono b1h) DR (CZ (DMM WO)))
 LS
 B4))))) ?_
  refine iV false l (rK hL) ?_;refine BG b4S K K k false (a:=l) (xs:=(lnW L).map V.str) (c9M p l L d' C ar as ac ap H) (OD _ _ d S D A2V) (kP σ R (by obtain⟨_,_,_,_,_,_,o⟩:=R;rw[ASE (AO o hl5 hL)])) ?_ ?_
  .rintro i x σ H1 q hx ⟨o2,o3,e,rfl,g,D1,off1⟩ hq;rw[AD s2 (C0I H1 AUI hq) u (D1.same s2)];have j:=off1.trans s2.off;rw[pH n H1 q AUI q AUI];rw[AER (PQ H1 q AUI) u j n];rw[SH (u7 q _ n _ RW x [])];rw[lnW,List.map_map,List.getElem?_map]at hx;rw[BUM m r];have hw:=RU hW m r;rw[QU v CX7];rw[List.drop_eq_getElem_cons v]at g;generalize L[i]=m at g hw;obtain⟨e',st,g⟩:=g.inv;obtain⟨⟨dx,tn,N,_⟩,_⟩:=id u;refine⟨_,rfl,p,dx,_,rfl,N,VQ c0J,_,rfl,rfl,_,bk,rfl,rfl,AK,by show vV m+2<=_;rw[SD hw.le 0x6ef1cb4911f4afb0f65f78e9f17d6e M],BB O y⟩;rw[show C0Q ((V.str ∘ Str.join bk) m |> CO (JD m)) m from hw.split];rw[LY B H2 (JQ m.map) y];exact⟨p,ar,as,ac,ap,O,m,e,e',rfl,st,hw.wl,u.same B,A0,λU G t=>DS (C4 (OD _ _ e' g G (GI j.trans B.off t)))⟩
  .rintro σ H1 ⟨o2,o3,e,rfl,g,D1,off1⟩;rw[YK (BQJ (A5T (GN lnW L)) L.length) List.drop_length g g];exact k _ D1 off1
/---/def c4o:Sp:=BQ _ (∃(L:ES) (d:Dr),vs=[DPO]/\nX/\C2M/\BX2/\BZ2 L/\A6B/\EMW)
def sc_read_system:bQ ["text","draft"] "text" W8:={}
def a5n(F:UM "read_system" W8 "text")(T:AW)(U:aB)(g:UR)(l:EAO "Draft" zU b2O)(c:EI5)(a:DSO):ECQ:=by
 rw[BM sc_read_system Z M G]
 rw[QR L d]
 .obtain⟨L,d,rfl,h0,hW,hll,S,hn7,k⟩:=h;rw[DNR]
  rw[BU (BX 1 sc_read_system.nd (c3r l (rD G.mono 4974806956) rfl)
 (A1 (E3 (AGX c b7T (AZ5 (a5F K DR ZB))))
 (FK (a4y a g (KS G.mono b7S) HY))))]
  refine DY x dx I y z;rw[EAC J z.symm I]
  have n:JJ C45:=bH iG y J;refine RO x dx A0 (λar as ac ap H1 t u q r N kp=>nW);have s1:IV:=CNL n (A37 I);rw[EF];have D:=b2T hW hll;refine⟨_,rfl,_,rfl,rfl,_,lf,rfl,rfl,AK,AX 0xc72a5e709e217cace833656b1f6da5c6a2e4e hz D,BB R j⟩;rw[b4f h0 hW];rw[LY W H1 CNN j];have B:R∉AL7 L5 x:=by
   obtain⟨⟨a0,a1,o1,o2⟩,⟨us,r1,r2⟩,hs,hc,hp,rs,cp⟩:=N;unfold L5;rw[AVS];rw[EB (AHW o1) (AHW r1) (AHW hs) (AHW hc) (AHW hp)]
  refine⟨x,ar,as,ac,ap,R,L,dr0,d,rfl,N.same W,A0,B,hW,S,DV X O m⟩;obtain⟨⟨p,a2,o4,_⟩,_⟩:=id O;have s4:JJ X:=GR o (m b o (by
   unfold L5;rw[AVS];rw[EB (A37 I) (B6B t) (B6B u) (B6B q) (B6B r)]) (vH (HZ e)))
  exact⟨_,rfl,x,p,_,rfl,o4,VQ c7v,x,ar,as,ac,ap,d,rfl,O,hn7,λv Y hv s5=>k v Y hv (s4.trans s5)⟩
#where
#where
section
variable {ns:AA}{xs:qJ}
/---/def a5Y(a:Int):ES:=A1N BPI [[C9 a]]
/---/def M3(ns:AA)(xs:qJ)(a:Int):ES:=ANS (λq=>ANM)++a5Y a
/---/def a7H(ns:AA)(xs:qJ)(s:Int):AA:=BKB (D0 (M3 ns xs (-s))) (D0 (M3 ns iU s))
def b5Q:∀(pre ns:AA) (xs:qJ),jG->DZ6 pre.length ns=ANS λq=>ANM
 |pre,[],[],_=>rfl
 |pre,oY,EL,h=>by
  have a:=b5Q (pre++[n]) ns xs AFM;rw[List.append_assoc,List.length_append]at a;have a:DZ6 (pre.length+1) oY=_:=a;rw[DLD List.zip_cons_cons List.filter_cons];rw[nO AYM]
  .rw[AIG,AIG,List.map_cons,List.map_cons,a];congr 1;rw[EA tmP (A0I (by rw[CRR List.length_cons];show ¬pre.length=_;exact lq 0x4490056c45546))];dsimp only;rw[List.getD_eq_getElem?_getD,BQ8,Nat.sub_self];rfl
  .rw[AIV,AIV,a]
def b0u(h:jG)(a:Int):YN=B9J (A03 a):=by
 unfold M3 a0c psW;rw[List.zipIdx_append,List.filter_append,List.map_append,<-b5Q [] ns xs h];congr 1;rw[cH a5Y List.zipIdx_cons List.zipIdx_nil List.filter_cons];rw[nO BPI]
 .rw[IG,AIG];show _=[tmP ns (a,0+xs.length)];rw[tmP,if_pos (by rw[BO h Nat.zero_add _])]
 .rw[FZ,AIV];rfl
def c5J(h:jG)(s:Int):a7H ns xs s=a5a ns BRJ:=by
 unfold a7H a5a;rw[b0u h,MW b0u List.length_map h,List.map_append,List.map_cons,Int.neg_neg];rfl
/---/def O6(ns:AA)(cs:BY):WQ:=(ns.zip cs).filterMap λq=>(DM).map λx=>(CS,x)
/---/def a0p(w:Str)(ns:AA)(cs:BY):ES:=CN3 (O6 ns cs).map w
def a3j(n:Str)(ns:AA)(c:FX)(cs:BY):O6 oY AIB=(match c with|bN=>(n,x)::B1O|none=>B1O):=by
 unfold O6;rw[List.zip_cons_cons,List.filterMap_cons];cases c<;>rfl
def I0:EB8 (((O6 ns cs).map (·.1)).Sublist ns)
 |[],_=>CXR
 |oY,[]=>CXR
 |oY,AIB=>by
  rw[a3j];cases c with
  |none=>exact B1Q cons n
  |some x=>exact B1Q cons_cons n
def a6F{cs:BY}(h:BF9 cs):∀q∈B1O,0<=DM/\DM<=topN:=λq c=>by
 rw[D2 a b e List.mem_filterMap.mp c];rw[AAB d rfl CTP];exact h x (by rw[<-d];exact(List.of_mem_zip b).2)
def b3i(n m:Str)(x:Int)(c:WQ):lk ((n,x)::c) m=if n=m then bN else lk c m:=by
 rw[EA lk List.find?_cons];rw[KB n m]
 .rw[IG,A5G];rfl
 .rw[FZ,AX4]
def c2Y{c:WQ}{n:Str}(h:BXS):lk c n=none:=by
 rw[EE0];cases e:DFG with
 |none=>rfl
 |some y=>rw[C1K]
def a7T:∀(ns:AA) (cs:BY),ns.Nodup->rJ cs.length->ns.map (lk B1O)=cs
 |[],[],_,_=>rfl
 |oY,AIB,h,d=>by
  rw[B29];have b:=a7T ns cs h2 BNO;have a:n∉(O6 ns cs).map (·.1):=λz=>h1 (B1Q mem z);rw[BG4 a3j];cases c with
  |none=>rw[AF (BG6 (lk _ n) (c2Y a)) (jS b)]
  |some x =>
   dsimp only;rw[b3i,F1];refine jS (Eq.trans (CYM m e) b);rw[b3i,AYL (MW h1 z e)]
def a8O:EMD ((d.caps.map (·.1)++qs.map (·.1))) d.caps.length A1D (AAR caps (d.caps++qs))
 |[],d,_,_,_=>D8Z
 |AE0,d,h,b,a=>by
  rw[ENZ a8O (AAR caps (DVB d.caps)) .cap]
def a4K:EMD ((d.prices.map (·.1)++qs.map (·.1))) d.prices.length ABZ (BUA (d.prices++qs))
 |[],d,_,_,_=>D8Z
 |AE0,d,h,b,a=>by
  rw[ENZ a4K (BUA (DVB d.prices)) .price]
structure SysOk(ns:AA)(rows:LLI)(sides:qJ)(caps:BY)(prices:qJ):Prop where
 nm:OP
 n1:A5X
 n7:ZQ
 rl:rows.length<=6
 rw:qW rows (BYM ns.length Bds)
 sl:DKX
 sb:D8H
 cl:rJ caps.length
 cb:BF9 caps
 pl:rJ prices.length
 pb:EQ prices YZ
/---/def prO(p:Int):FX:=BLX (p > 0) p none
/---/def a3X(ns:AA)(rows:LLI)(sides:qJ)(caps:BY)(prices:qJ):ES :=
 (A8K)::(BZU++(AN4 A1D caps++CQK))
def a8N:∀(rows:LLI) (sides:qJ) (d:Dr),BY8->AYE->A6B->DKX->BRK (BYM d.names.length Bds)->D8H->C05->d.rows.length+rows.length<=6->A4H (CGX (a7H d.names)) (CH6 (d.rows++rows) (d.sides++sides))
 |[],[],d,_,_,_,_,_,_,_,_=>CYU List.append_nil .nil
 |r::rows,s::sides,d,f,h1,c,i,g,e,hs,a=>by
  obtain⟨h,k⟩:=CUZ g;obtain⟨l,m⟩:=e s List.mem_cons_self;rw[CJY];rw[AEZ (a8N rows sides (C46 r s) f h1 c (CJ i) (DGW g) (λq b=>e q (HV b)) (DST hs) (by rw[BG3];show BEF<=_;rw[DQ 0x64d2d73de4bbb3e5d6 a])) List.append_assoc List.append_assoc];rw[List.zipWith_cons_cons,c5J h];refine .cons (.sum f h1 c h (A25 j) (nR 0x46579479a250627e5d6) hs) this;rw[CM (List.mem_append.mp j)]
  rw[IJ k x]
  .rw[WB];rw[BK5]
def c5z{rows:LLI}{sides:qJ}{caps:BY}{prices:qJ}(h:B1U):∃d,BZ2 BIR/\d.names=ns/\d.rows=rows/\d.sides=sides/\d.capsL=caps/\d.pricesL=prices:=by
 refine OD (COT BUK AVT) ?_ rfl rfl (DG3 caps h.cl) ?_
 .rw[LF .cons (.of rfl h.nm h.n1 h.n7)];refine(a8N rows sides {dr0 with names:=ns} h.nm h.n1 h.n7 h.sl h.rw h.sb rfl (by show 0+_<=6;rw[KA h.rl])).app ?_;have b:∀a:BY,JR (0+BYV a):=λa=>by
   rw[DVI a]
  have g:∀a:BY,C4S a->∀q∈O6 ns a,COY (CS∈ns):=λa f q i=>⟨EBU a i,a6F f q i⟩;have c:BXZ:=λx j=>by
   rw[C6Y c j]
   .rw[CG];exact h.pb _ c
   .rw[CG]
  refine(ENH a8O BUK [] (g caps h.cb) caps).app ?_;exact ENH a4K AVT BUK (g _ c) _
 .unfold Dr.pricesL;have:=DG3 BFD (IF h.pl);show ns.map (λn=>DJU)=prices;rw[show(ns.map λn=>DJU)=zK ns.map lk AVT (λo=>o.getD 0) by rw[BCL],this,List.map_map];refine Eq.trans (CYM p c) (List.map_id _);show(prO p).getD 0=p;unfold prO;obtain⟨h1,_⟩:=h.pb p c;split
  .rfl
  .show NW=p;omega
def b2o{α β:Type}{K:qF}{src:LQ}{σ caps:L2.St}{Q:VK}{k1 k2:Bool}{a b:qE}(ca:xR)(g:β->V){xs:DC}{ys:A57}{H:Hp}{w:TT}{te:TE}(t:AAT α β)(f:B49 V)(A:NL)
  (c:ELF g)
  (n:AK2) (r:∀x y H1 (m:UQ),jF->B0T->IV->m (t x y) H1->w (C39 g) H1 m) (o:B5E m (jF->B0T->AY (t x y)->IV->A3N (DCK m)->vQ (C39 g) m))
  (hd:BEL (DZQ xs.zip ys)) :
  G3 src CCO w te σ Q mJ H:=by
 rw[SF B]
 rw[AVY AP3 (ys.map g) uV (zs=DZQ DQ3 i) (by rw[CPI])]
 .rw[B71 k Z7 d l Z7];rw[AW2 DAG DAG ARC [g d] (g d) n (BFK x' g d)];have u:DQ3 AT=(xs.zip ys).take i++[(x',d)]:=by
   rw[List.take_add_one];congr 1;rw[iQ List.getElem?_zip_eq_some (z:=(x',d)) ⟨k,l⟩];rfl
  rw[A4F]
  .match j,e with
   |0,e=>rw[CG]
   |1,e=>rw[CG]
   |j+2,e=>exact e
  .refine C3O r BQD AYD s' ?_;rw[u,List.filter_append,List.map_append];cases e:t x' d with
   |true =>
    refine BJZ (C3O o BQD AYD e s') AZ4;rw[List.filter_cons,IG];rfl
   |false =>
    rw[RQ s'];rw[List.filter_cons,A0I (by rw[XL e])];simp
 .rw[lP zs];rw[BLV List.length_map (BMN (by rw[BCZ List.length_zip]))];exact hd H' p s hp
def V9(x:Str):Str.empty++x=x:=Str.ext' (by rw[E1V #[] x.cps x.cps])
/---/def Wg(x:Str):Prop:=D6W/\A2K x.cps.toList DW2
def b5L{a:AA}(h0:AYI)(d:u8 400)(h:EQ a AM5):Wl a where
 ne:=h0
 wl:=AG
 no:=λx b=>⟨E38,E38⟩
 le:=by
  have:=AJV a λy e=>AD8 h e;rw[xY (D9J d)]
def isNm.wg{n:Str}(h:BOU):Wg n:=⟨tF SE,λc a=>by have:=AF1 c a;omega⟩
def a5O{x:Int}(h1:aD):BE7 Wg:=⟨by
 have:CKN 13:=BKH (by unfold topN at h1;omega);show DH0;omega,λc a=>tF DI2⟩
def wg_lit:A6J "of"/\A6J "sum"/\A6J "cap"/\A6J "price"/\A6J "+"/\A6J "="/\BAK Wg:=by
 rw[EJQ D6W DW2 AM5 (BM3 (λc a=>CRD (List.all_eq_true.mp h2 c a)))];refine⟨?_,?_,?_,?_,?_,?_,?_⟩<;>exact E2P
def Tm.wg{ns t:AA}{j:Nat}{x:Int}(c:OP)(h:C3Q t)(h1:aD):AEF:=by
 rw[C4F h b]
 .have hw:=(c.nm _ CUQ).wg;rw[wD tmW]
  .rw[AZ (λy a=>AH A2W hw) (AZM 2)]
  .rw[EV BTN BW];rw[mO AMK]
   .exact a5O h1
   rw[A5R hw]
 .rw[AZ (λy a=>IU A2W a5O h1) (AZM 2)]
def b2y{a:Int}(f:OP)(b:jG)(e:xF)(d:B1B):hY YN ((AEF)/\FW t):=λt c=>by
 rw[b0u b]at c;obtain⟨j,x,_,g,q⟩:=a7m (BR1 b) c;rw[EV (q.wg f ?_) q.ne];rw[BFI]
 .exact AC3 e z
 rw[A5R d]
def b2V:∀{ts:ES},ACK AEF->ANJ B0A/\EI N0 ts<=3*ts.length
 |[],_=>⟨λx a=>ABU a,BW⟩
 |[t],h=>⟨gB h List.mem_cons_self,by have:=(h t List.mem_cons_self).2;rw[YJ (t.length<=3*1)]⟩
 |yM,h=>by
  rw[A4Z c (DYA b2V)];rw[OM d AUC];rw[RQ (A25 a)]
  .rw[DTV (x∈vZ) a]
   rw[IJ d x]
   .rw[CM uO]
    .rw[AF z (W1 wg_lit.2.2)]
    rw[IJ c x]
  .show BV vZ<=_;rw[BVT List.length_append];rw[List.length_cons]at b;rw[BXD 0x69c04f958f4d32f233766dc8cb6267 b e]
def b3t{ts:ES}(h:hY ts AEF):ANJ (D0 ts)/\EI D0 ts<=3*ts.length+1/\(BVM->FW (D0 ts)):=by
 unfold D0;rw[KB ts []]
 .rw[IG];rw[AV (λx b=>AH (List.mem_singleton.mp b) (ABW wg_lit).2.2) AJ uS]
 .rw[FZ];rw[OK (b2V h)];rw[AV h1 (nS 0x3c103f9b597c28666) (λa=>a9f e a)]
def a8L(ns:AA)(xs:qJ)(a:Int):BV YN<=BME:=by
 unfold M3 a5Y;rw[BDP List.length_append];have h1:=EHE;rw[EKP]
 split
 .rw[AF List.length_singleton (lq 88495846044719319 h1 h2)]
 .rw[AF List.length_nil (lq 0x3c2c967ac6ccad8d7 h1 h2)]
section
variable {P:qH}{w:World}{K:qF}{mg:BA}{base:Heap}
/---/def c4i:Sp:=BQ _ (∃(x:Int) (n:Str),vs=eX x (.str n)/\iE/\aD/\D6V/\A35 (JD B4C))
def a7x:lN "many" "name" "many" "name" a0K:={}
def a7O(F:WG "show_term" a0K "many" "name")(T:AW):ECF:=by
 rw[BM a7x i b m]
 rw[QR x n]
 .rw[RZ x n rfl h0 h1 hn k];rw[RP a]
  rw[E4E (ABD K3) c3s E11]
  .have e:x=1:=CZN V.int.inj;rw[tmW,IG]at k;exact DS k
  .have e:¬x=1:=λz=>C2Z;rw[tmW,FZ]at k;have j:=(a5O h1).1;have l:x=ER x.toNat:=by omega
   rw[WW (DZ ⟨x.toNat,BLT l,C4V x.toNat h1,?_⟩)];rw[V9];have c:DH0:=j;refine BHD (~~~b8W a c);have d:BV (AQU++bk)<=21:=by rw[KK C1 y9 b8E c]
   rw[FQ g (BV CNC<=41) C1 (b9e hn d)]
   refine NV (DTT AQU d) _ (EU ⟨n,rfl,iC b1s hn,E0D,E0D,?_⟩);exact k
/---/def b6d(K:qF):Sp:=BQ _ (∃(nt np:qE) (k:Bool) (ns:AA) (xs:qJ) (a:Int),A5Y A3X CSO a/\A4L/\(aQ (CF6 k np))/\OP/\ZQ/\jG/\xF/\B1B/\oJ D84)
def sc_show_terms:UE ["names","numbers","alone","terms"] "names" "numbers" "alone" a0g:={}
def b4K{t:AA}(h:EQ t AM5)(a:t.length<=2):vV t<=42:=by
 have:=AJV t λy b=>AD8 h b;rw[xY (AVK a)]
abbrev c9L(nt:qE)(np:qE)(a:Int)(p:qE)(ns:AA)(xs:qJ)(H:Hp)(σ:L2.St)(H':Hp):Prop:=σ=[BNF,DE np,DL a,WA]/\D30 CIW/\BN
def a6i(F:BS7 "show_terms" a0g "numbers" "alone")(T:AW)(d:ECF):EDS:=by
 rw[BM sc_show_terms W I Z]
 rw[XG nt np k ns xs a]
 .obtain⟨nt,np,k,ns,xs,a,rfl,hn,m,hnm,hn7,hl,l,ha,kk⟩:=h;rw[RP R]
  rw[BU (A1 (cJ 3 sc_show_terms.nd (N:=["many","name"]) (src:=[none,none]) (A8Z AGM)
 (bU CLB CLB) BXT (HS (DFE fP)))
 (A1 (D6K 2
 (pE WO (CZ (AE8 IZ)))
 B4)
 (FK (a2R (U5 CYR A4) (A4N gZ) B2))))]
  rw[EK9 (b2y hnm hl l ha) J g g];refine ANP k np nt (DX (C4H m)) hn;rw[DO (b2o (caps:=[]) V.int V.str (xs:=xs) (ys:=ns) (λx _=>GM AYM) (λx n=>A8L B4C) (~~~b9j hn7 hl) (A9S (m H' s) D0F) rfl (EI4 U (CA8 q)) (λx y H1 U C G g s1 q=>ZM _ rfl x y rfl (of_decide_eq_true g) (AC3 l C) ((hnm.nm y G).wg).1 SG)) H1 p s1 O];rw[EF];have X:(ANS λq=>A8L ANM)=A86 CAX V.str:=by rw[AS9 List.map_map]
  rw[X];rw[B2Q AU2 O];have e2:PJ H1 p AU2 p AU2:=A0;have f2:RH:=s1.free O;generalize upd H1 p AU2=H2 at s2 e2;rw[pM (c9L nt np a p ns xs H)]
  case fin =>
   rintro σ H3 ⟨rfl,L,S⟩;rw[EK6 p (WK L)]
   .have e:=dD;have j:FW YN:=λz=>by rw[z]at e;rw[A60 e]
    have u:NY D9Z (ANU 42):=λy D=>by rw[LN t g D];exact b4K (gB J g) (J t g).2
    have M:mV wplus D9Z D84:=by
     rw[a6K λt g=>(tm t g).2,D0,CF j]
    have v:DNP:=by
     obtain⟨w1,w2,_⟩:=b3t J;have:=AJV ABJ λy D=>AD8 w1 D;rw[xY (D9J (E5G hl w2))]
    refine⟨rfl,_,rfl,wplus,p,_,42,rfl,rfl,EE L,u,?_,AH M (b1C R v),?_⟩
    .rw[gW B4W];omega
    .rw[AF M DAP]
   .have j:YN=[]:=by
     cases Y:YN with
     |nil=>rfl
     |cons t r=>rw[Y]at e;exact absurd (decide_eq_true AJ) e
    have:=DAP;rw[j,D0,F1]at this;rw[MZ]
  refine A7B
  .have e:0<a:=dD;have m:a=ER a.toNat:=by omega
   refine⟨_,rfl,QJ e2,_,rfl,a.toNat,BLT m,C4V a.toNat ha,p,_,_,rfl,rfl,e2,?_,?_⟩
   .have:=EHE;rw[EKP]
    simp only[List.length_map];exact lq 0x2d1833c6c6e84b32d154dc2b03a8822f0ef168769 hn7 hl R this h2
   .refine ON (eU ?_ (DV b o l))
    .rw[E1T A0 M3 a5Y IG]
    .rw[AF (fH l f2) (WE l)]
  .rw[BVJ (0<a)];refine ON (eU ?_ s2);rw[e2,M3,a5Y,FZ,List.append_nil]
/---/def c4k(K:qF):Sp:=BQ _ (∃(nt np:qE) (ns:AA) (xs:qJ) (a:Int),vs=[A3X,CSO,BK a]/\A4L/\BO7 np/\OP/\ZQ/\jG/\xF /\ -topN<=a/\B1B/\oJ (JD (B7V a7H)))
def sc_show_row:UE ["names","row","side","left","right"] "names" "row" "side" a2a:={}
def a2S{a:Int}(d:OP)(hn7:ZQ)(b:jG)(i:xF)(h:B1B):DNP/\FW ABJ/\ANJ ABJ/\EI D0 YN<=30:=by
 rw[EK9 (b2y d b i h) k e e];rw[D2 f g l b3t k];have:=AJV ABJ λy j=>AD8 f j;rw[CK (Nat.le_trans this (Nat.le_trans (AVK (E5G b g)) AK)) (l λt e=>(tm t e).2) f (~~~lq 0xcef898c40917ceaa95bdbe4c3daf4c14d658182a8768 hn7 b tl g)]
def b6o{l r:AA}(a:BP9)(b:FW r):DZ2 (JD l) (JD r)=JD DY5:=by
 rw[APW (DY5=[wd "sum"]++(l++([wd "="]++r))),Z4 AJ AJ,Z4 a AJ,Z4 AJ b];rw[C2C e1 "sum " D5F]
 rw[C2C e2 " = " (bk++(D5G))]
 rw[e1,e2];show _=D5F++(JD l++bk++(D5G++JD r));rw[AWF]
def a9j(F:BS7 "show_row" a2a "row" "side")(T:AW)(b:EDS):EDT:=by
 rw[BM sc_show_row z k r]
 rw[mU nt np ns xs a]
 .obtain⟨nt,np,ns,xs,a,rfl,hn,hx,hnm,hn7,hl,hb,h1,h2,kk⟩:=h;rw[RP c]
  rw[BU (BX 3 sc_show_row.nd (uH r.mono (VG (AZ5 (a2Q (jv 2)))))
 (BX 4 sc_show_row.nd (uH r.mono (VG (FU (BU6 BEM
 BT8 XU (HS (a2Q (jv 0)))) IZ)))
 (ZC c3s (AE3 (DP R6 3 (AE3 (DP R6 4 a4x)))))))]
  have e:=hb.neg;have d : -a<=topN:=CRJ
  rw[wA ⟨_,rfl,_,rfl,_,rfl,_,rfl,nt,np,true,ns,xs,-a,rfl,hn,ZK hx,hnm,hn7,hl,hb,d,AJD⟩ (VX _ rfl _ np rfl (BPF hx) ?_)];rw[DO (vU (BG O1 vs YQ as xs (caps:=[]) (FE CBK)) uV (ZK (HZ hx)) (oV H2 L t j s2)) H2 p2 s2 g]
  .rw[nE j t t];exact AJ3 SG
  have l:=DT1 BIK g;have m:xB H2 p2 BIK p2 (BGW iU):=by rw[C13]
  generalize WX p2 BIK=I at l m;rw[SH ⟨_,rfl,nt,p2,false,ns,iU,a,rfl,AWV l,A69 m,hnm,hn7,CYN,e,h2,BB J G⟩];obtain⟨u,C,_⟩:=a2S (a := -a) hnm hn7 hl hb d;obtain⟨y,D,_⟩:=BG a2S xs iU a a hnm hn7 CYN e h2;have B:=b6o C D;rw[BYG g1 (RD "sum " ++ C2Q) 1004 (A51 (CVX "sum "=4)) 0x6df3158588d1027fceac80e5 u]
  rw[BYG n (BK1 "sum " C2Q " = ") 1007 (A51 (CVX " = "=3)) 0x6f08c721a9682a4cc26b80e5 g1]
  rw[FQ p (BV (DZ2 C2Q (tS bk D0 (M3 ns iU a)))<=2007) C1 (lq 0x153beef6ae3b53fa343b242163a1080e6 y n)]
  rw[AC1];rw[V9];refine NV (A98 (CB 4)) _ (EU ⟨_,rfl,~~~b1C c u,AX 0x14be6a7d0c3d34ee3803aae0ede c g1,_,rfl,AX 0x14be6b1bbadf91c11d43aae0ede c n,_,rfl,EU (OX rfl (~~~b1C c y) DU7 DU7 ?_)⟩);rw[AF B (kk _ (l.trans G))]
def a9l(w:Str):EB8 ((rA (eW ns.zip cs) (DM).isSome λq=>A8L [w,CS,BRE (DM).getD])=A86 DT3 V.str)
 |[],_=>DUT
 |oY,[]=>DUT
 |oY,AIB=>by
  have a:=a9l w ns cs;unfold a0p at a⊢;rw[List.zip_cons_cons,List.filter_cons,a3j];cases c with
  |none=>exact a
  |some x =>
   rw[cP (A51 (AY (n,bN).snd.isSome)),List.map_cons,a];rfl
/---/def c4l(K:qF):Sp:=BQ _ (∃(w:Str) (nt np:qE) (k:Bool) (ns:AA) (cs:BY),vs=[D14,A3X,AL np]/\A4L/\(aQ (rN k H' np cs.map ovI))/\w.length<=20/\ZQ/\BT n ns D6V/\C4S cs/\∀p H',D30 DT3->RH->BN->tL)
def a3Y:UE CO6 "word" "names" "numbers" S4:={}
def a4g(F:RA "show_numbers" S4 ["word","names","numbers"])(T:AW):E6Z:=by
 rw[BM a3Y D j J]
 rw[XG w nt np k ns cs]
 .obtain⟨w1,nt,np,k,ns,cs,rfl,hn,hx,hw,hn7,hnl,hb,kk⟩:=h;rw[RP a]
  rw[GS (C3N "name" "number" "word" aS CYO
 (bU COH COH) (ABX O9 (BIC 1)) (ABX c3s (DP R6 2 (AE3 E11))))]
  refine AMF true k nt np (KU hn) (DX (C4H hx));rw[DO (b2o (caps:=[ANY w1]) V.str ovI (xs:=ns) (ys:=cs) (FD o o.isSome) (λn o=>A8L [w1,n,BRE o.getD]) (BBF hn7) (A9S D0F (hx H' s)) rfl (EI4 C ?_) (λx y H1 C c d I s1 q=>?_)) H1 p s1 l]
  .refine TQ ?_;cases y with
   |none=>exact q
   |some z=>exact q
  .rw[QU z (Option.isSome_iff_exists.mp I)];obtain⟨L,B⟩:=hb z d;have g:z=ER z.toNat:=by omega
   rw[AD G (a5O B).1 b (hnl x c)];have v:=SG;have m:BV (w1++bk)<=21:=by rw[KK C1 y9 b8E hw]
   rw[FQ r (BV AOF<=41) C1 (b9e b m)]
   rw[BYG t D70 42 y9 0x3b3b384131476e8e5 r]
   have u:BV BKF<=62:=by rw[C1];rw[dR (_+EI C9 z) 0x3b1b9d93b0080a8bb898226 G t]
   rw[WW (EU (GO _ DGZ ?_))];rw[V9];rw[GV (BHD DGZ) (NV (DTT w1 m) _ (EU ⟨_,rfl,~~~b8W a b,APK AOF b1v r,_,rfl,show BV D70<=_ by rw[D4 0x6c602bfe710c15887aae0ede a t],_,rfl,DZ ⟨z.toNat,?_,C4V z.toNat B,E6C,E6C,?_⟩⟩))]
   .show V.int z=_;rw[<-g]
   .have e:mV bk [w1,x,BRE (BMD).getD] BKF:=by
     show w1++bk++(x++bk++C9 z)=_;rw[AS9 R9]
    rw[e]at v;exact v
  .rw[AF a9l (kk p _ A0 (s1.free l) (s1.upd l))]
/---/def c4j:Sp:=BQ _ (∃(v:V) (ns:AA) (rows:LLI) (sides:qJ) (caps:BY) (prices:qJ),vs=[v]/\SysAt H v ns rows sides caps prices/\B1U/\oJ (CMS ptW))
def sc_show_system:bQ ["system","names","lines"] "system" W7:={}
def a6x{rows:LLI}{sides:qJ}{caps:BY}{prices:qJ}(h:B1U):BT g BIR (Wl g)/\CVM<=30:=by
 have m:∀(b:BY),BYV b<=7:=λb=>by
  rw[DVI b]
 have c:∀(l:Str) (b:BY),Wg l->C4S b->∀g∈AN4 l b,Wl g:=λl b hw B g f=>by
  rw[LN q n f];refine b5L AJ (rB (3<=400)) λx d=>?_;rw[lC d];rcases d with rfl|rfl|rfl
  .exact hw
  .exact(h.nm.nm _ (EBU b n)).wg
  .exact a5O (a6F B q n).2
 have k:BXZ:=λx d=>by
  rw[C6Y k d]
  .rw[CG];exact h.pb _ k
  .rw[CG]
 rw[RQ (BB g f)]
 .rw[D3N]
  .rw[E1J AJ (by rw[List.length_cons];have:=h.n7;rw[NE 85331137448418149])]
   .exact wg_lit.1
   .exact(h.nm.nm x z).wg
  .rw[AJ0]
   .obtain⟨i,hi⟩:=CVP;rw[CRU hi];cases e1:rows[i]? with
    |none=>rw[AU e1 hi hi]
    |some r =>
     cases e2:sides[i]? with
     |none=>rw[ECU]
     |some sd =>
      rw[ECU];rw[A50 o s h.rw r e1];rw[A50 C v h.sb sd e2];have j:=s.neg;obtain⟨_,_,t,u⟩:=a2S (a := -sd) h.nm h.n7 o s CRJ;obtain⟨_,_,w,y⟩:=BG a2S xs (C8S r.map) a sd h.nm h.n7 (IF o) j v;rw[E1J (by unfold a7H;simp) (by rw[cH a7H List.length_cons List.length_append List.length_cons];rw[D4 0x22e45c8fd03ea84f4a6a31aaf4e6 u y])]
      .exact wg_lit.2.1
      .rw[AJ0]
       rw[IJ t x]
       .rw[mO uO]
        .exact BCP wg_lit
        rw[IJ w x]
   .rw[AJ0]
    .exact c _ _ (W1 wg_lit) h.cb g z
    .exact c _ _ (TV wg_lit) k g z
 .unfold a3X a0p;rw[List.length_cons,List.length_append,List.length_append,List.length_map,List.length_map,List.length_zipWith];rw[AD h1 (m caps) h2 (DM5 m)];have A:=h.rl;rw[E3R];exact lq 0x5f443b5fad4abdb744a15792240111db3a768 h1 h2 A
def c2I(h:CWQ):RD "of " ++ JD ns=JD A8K:=by
 rw[A0D (A8K=[wd "of"]++ns),Z4 AJ h];rw[C2C e1 "of " (ABK "of")]
 rw[e1];rfl
def a5m(F:UM "show_system" W7 "system")(T:AW)(g:EDT)(d:E6Z):E8E:=by
 rw[BM sc_show_system b0 a8 hr]
 rw[XG v ns rows sides caps prices]
 .obtain⟨v,ns,rows,sides,caps,prices,rfl,hS,hO,kk⟩:=h;rw[DNR]
  obtain⟨a,n,r,sd,c,pr,us,rfl,I,hn,O,hI,R,a0,L⟩:=hS.ex;have h0:CWQ:=λz=>by rw[OA hO.n1 z];rw[A60 this]
  have hn7:=hO.n7;have b3:vV ns<=147:=by
   have:=AJV ns λy l=>CH4;rw[xY (AVK hn7)]
  rw[BU (A5S 1 sc_show_system.nd uW
 (lV 2 sc_show_system.nd D6 (LX M9 B2 (c0g K B2 HX))
 (AU9 MX (kB (C3N "row" "side" "names" rX (wK uW uW)
 (bU COV COV)) (ADE g (lU fP)))
 (EAJ (AZ5 uW)
 (EAJ (YC (kB (A2F "price" (F5 K uW)
 (tX "price")) (a2R CEQ DR J5)))
 (FK (A4N IZ)))))))]
  rw[wA (ZM a _ 0 _ rfl rfl (FB I) rfl ?_) ⟨rfl,_,rfl,bk,n,ns,20,rfl,rfl,FB hn,C1P,TW y9,AG,_,_,rfl,rfl,BI5 (3+_),A6R,A41 hp⟩];rw[c2I h0];rw[EF];have fp:RH:=hp;rw[ZP (CC A0H) hp];rw[JH e1 H p A0H p A0H];rw[AE2 (VJ p A0H) e1];refine⟨_,rfl,QJ e1,_,rfl,a,_,1,_,rfl,rfl,AQ2 I,rfl,_,rfl,a,_,2,_,rfl,rfl,AQ2 I,rfl,true,true,r,sd,rfl,BPF O,(KU AYG),?_⟩;have a4:=hO.rl;rw[LF (ECW O3 r (b:=sd) (xs:=us) (zs:=TC sides.map) (by rw[PM vD]) (OB zs (aI H1 H'/\zs=A86 (GN (A0E BZU) i) V.str)) ⟨Same.refl H1,AJ⟩
   (DTU (HZ O) AYG (AS4 EJ List.length_map List.length_map YX))) ?_]
  .rw[BC6 zs H' q l s' hq];obtain⟨U,t,a7⟩:=hI.2 i x hx;rw[aR sv S Z7 l];have s2:aI H1 (PQ H' q [x,CI sv]):=s'.upd hq;rw[AOX W s2];rw[DU b Z a7];rw[A50 r1 r2 hO.rw U t];rw[A50 b1 b2 hO.sb sv S];refine⟨q,_,rfl,FB A0,rfl,_,_,rfl,_,[],rfl,rfl,C9N,?_⟩
   .match j,e with
    |0,e=>rw[CG]
    |1,e=>rw[CG]
    |j+2,e=>exact e
   .refine⟨_,rfl,_,rfl,_,rfl,n,b,ns,U,sv,rfl,vH hn,vH Z,hO.nm,hn7,r1,r2,b1,b2,λH3 u=>GD (s2.trans u)⟩;rw[E1T List.take_add_one List.getElem?_zipWith t S]
  rintro zs H' ⟨s',rfl⟩ q hq;rw[gW (BMN (by rw[List.length_zipWith,vD];omega))];generalize G:BZU=k;have m:k.length<=6:=by rw[<-G,List.length_zipWith];rw[E3R];rw[DQ 0x111f82cfedcce25a6 a4]
  rw[GA s2 s'.upd AU1 hq];rw[NF e2 H' q AU1 q AU1];have C:=BRF;have qp:q≠p:=A6 (gM e1) hq |>.symm;rw[AER (upd H' q AU1) s2 e2 C];have hk:∀(cs:BY),BYV cs<=7:=λcs=>by
   rw[ATB (B1Q length_le)];rw[PR 85026750973216614 hn7]
  refine⟨p,q,_,_,rfl,rfl,C,e2,by show 1+_<=_;rw[BI8];omega,?_⟩;have up:∀{Hx:Hp}{o:HO},JJ Hx->JJ (upd Hx p o):=λsx b o Z=>AH (fH Z fp) (AI sx Z)
  have u:JJ (kZ H2 B42):=up (s1.trans s2);rw[JH Y H2 p B42 p B42];generalize kZ H2 B42=H3 at u Y;refine⟨_,rfl,QJ Y,_,rfl,_,rfl,a,_,3,_,rfl,rfl,QA u I,rfl,A1D,n,c,true,ns,caps,rfl,AWV u,ZK (AI u a0),AK,hn7,C1P,hO.cb,DY p4 H4 e4 f4 s4⟩;have J:=hk caps;have b4:p≠p4:=A6 Y f4;refine⟨p,p4,_,_,rfl,rfl,AWT Y,e4,by rw[EGW];exact lq 0x4109f6d67e8d99c3f358b3e48d0dc6a2e4f hz m J,?_⟩;have X:JJ (kZ H4 AEG):=up (u.trans s4);rw[JH e5 H4 p AEG p AEG];generalize kZ H4 AEG=H5 at X e5;refine⟨_,rfl,QJ e5,_,rfl,_,rfl,a,_,4,_,rfl,rfl,QA X I,rfl,pr,rfl,KU DEQ,?_⟩;rw[DO (vU (BG O1 vs (TC prices.map) as prices (caps:=[]) (FE CA3)) (by rw[List.length_map];rw[KA hO.pl]) (ZK DEQ) (oV H6 Q6 hv a6 s6)) H6 p6 s6 M]
  .rw[nE a6 hv hv];have q0:=SG;refine A7B
   .rw[prO,BAJ of_decide_eq_true]at q0;exact DS q0
   .rw[prO,AYL (qY decide_eq_true)]at q0;exact q0
  have s7:=vJ X.trans s6.upd ARH M;have e7:xB H6 p6 ARH p6 (aJ (GN prices.map prO) ovI):=by rw[C13]
  have D:=AI ((s6.upd (o:=CC ARH) M)) e5;generalize HU H6 p6 ARH=H7 at s7 e7 D;have a3:BXZ:=λx hx=>by
   rw[C6Y hp hx]
   .rw[CG];exact hO.pb _ hp
   .rw[CG]
  refine⟨ABZ,n,p6,false,ns,BFD,rfl,AWV s7,A69 e7,AK,hn7,C1P,a3,DY p8 H8 e8 f8 s8⟩;have a1:=DM5 hk;refine⟨p,p8,_,_,rfl,rfl,AI s8 D,e8,by rw[EGW];exact lq 0x74c1d4e39ead8a829463bff5e493bf54d0dc6a2e50 hz m J a1,?_⟩;have s9:JJ (kZ H8 DL0):=up (s7.trans s8);rw[sU hw a5 a6x hO];have a9:=b2T hw (~~~b8x a5);have a2:DL0=zK lnW CHW prices V.str:=by
   unfold lnW a3X;rw[G];simp only[List.map_cons,List.map_append,List.append_assoc,List.singleton_append,List.cons_append,List.nil_append]
  rw[a2]at s9⊢;refine⟨rfl,_,rfl,lf,p,DIV,10000,rfl,rfl,KZ,A1O l,?_,by show EI ptW _<=_;omega,kk _ s9⟩
  .rw[LN ws hws l];exact(hw ws hws).le
  .rw[BQJ (BV DIV) CVM,A0D (lf.length=1)];omega
#where
#where
section
variable {j m:Nat}{x:Str}
def a0Q(c m:Nat):CFF X7 m=List.replicate m c:=by
 unfold X7;show XQ m [c] flatten.toArray.toList=_;rw[List.toList_toArray];induction m with
 |zero=>rfl
 |succ m a=>rw[BXK a]
def c5K{c:Nat}(h1:97<=c)(h2:c<=122)(d:AQA)(e:m<=8):isNm (X7 GH m):=by
 have a:MK X7 GH m=m:=by
  show(X7 GH m).cps.size=m;rw[BGC a0Q List.length_replicate]
 rw[DN (iC b9z d) (AX 0x465794ac2afdbb5dd26 e a) B1E];rw[a0Q]at b;rw[vS b];rw[AZ h1 h2]
def c1J{c d k:Nat}(h:X7 GH m=X7 (pW d) k)(a:AQA):c=d:=by
 have e:List.replicate m c=BH0 d:=by rw[<-a0Q,<-a0Q,h]
 have:c∈BH0 d:=by rw[vF e List.mem_replicate.mpr (ZA (YT b7X))]
 exact vS this
def c5L{c:Nat}{p q:Nat}(hp:p∈x.cps.toList)(a:q∈x.cps.toList)(h:p≠q):D60:=λz=>by
 rw[<-z,a0Q]at hp a;exact h (MQ (vS hp) (DBZ).symm)
/---/def six:AA:=[wd "sum",A1D,ABZ,wd "of",wd "least",wd "step"]
def c5G:BOA six:=by
 rw[EJQ (1<=x.length/\x.length<=8) C2R BDY ⟨h1.1,h1.2,λc b=>CRD (List.all_eq_true.mp h2 c b)⟩];rw[BJB six];rw[lC a];rcases a with rfl|rfl|rfl|rfl|rfl|rfl<;>exact E2P
def c1C(c m:Nat):CNF∉six:=by
 have key:∀x:Str,(∃p q,CT3 0 p/\CT3 1 q/\p≠q)->D60:=λx ⟨p,q,h1,h2,a⟩=>c5L (List.mem_of_getElem? h1) (List.mem_of_getElem? h2) a;unfold six;rw[AVS];refine⟨A7Q 115 117,A7Q 99 97,A7Q 112 114,A7Q 111 102,A7Q 108 101,A7Q 115 116⟩<;>with_unfolding_all rfl
def c5H:six.Nodup:=AK
structure NmI(L R:AA):Prop where
 nd:L.Nodup
 nm:BOA L
 ap:EQ L (x∉R)
 rd:R.Nodup
 rm:BOA R
def a2e{α:Type}{L:DC}{x y:α}(h:y∈DOV):y∈L∨y=x:=by
 rw[CM (List.mem_or_eq_of_mem_set h)]
 rw[IH z]
 rw[HM z]
def b4x{L:AA}(h:L.Nodup)(a:x∉L):(L.set j x).Nodup:=by
 induction L generalizing j with
 |nil=>exact h
 |cons y r b =>
  rw[B29];cases j with
  |zero=>exact List.nodup_cons.mpr ⟨λz=>a A4A,h2⟩
  |succ j =>
   rw[CSU ⟨A5I,b h2 λz=>a A4A⟩];rw[CM (a2e z)]
   .exact h1 z
   .exact a (AF2 z)
def b7E{R:AA}{k:Nat}(h:R.Nodup)(a:DQQ):x∉R.eraseIdx k:=by
 induction R generalizing k with
 |nil=>cases a
 |cons y r b =>
  rw[B29];cases k with
  |zero=>cases a;exact h1
  |succ k =>
   rw[List.eraseIdx_cons_succ];intro z;rw[CM uO]
   .rw[z]at a;exact h1 (List.mem_of_getElem? a)
   .exact b h2 a z
def NmI.step{L R:AA}{k:Nat}(h:C2J)(b:DQQ):NmI DOV (R.eraseIdx k):=by
 have c:x∈R:=CUQ;refine⟨b4x h.nd λz=>h.ap x z c,BTN,BTN,h.rd.sublist (List.eraseIdx_sublist ..),λy a=>h.rm y (DWE a)⟩
 .rw[CM (a2e a)]
  rw[IJ h.nm y]
  .rw[AF z (h.rm x c)]
 .rw[CM (a2e a)]
  .exact λq=>h.ap y z (DWE q)
  .rw[AF z (b7E h.rd b)]
def c0D{α β:Type}(f:DE4):AEK R DC j ((R.map f).eraseIdx j=(R.eraseIdx j).map f)
 |[],_=>rfl
 |F2,0=>rfl
 |wV,JC=>by rw[List.map_cons,List.eraseIdx_cons_succ,List.eraseIdx_cons_succ,List.map_cons,c0D f r j]
/---/def nmF(f s g:Int)(k:Nat):Str:=X7 (pW (97+BVC)) DX5
def b7F{f s g:Int}(p:0<=f/\f<26)(hs:s∈B2N)(q:0<=g/\g<8)(l:m<=7):NmI (AZU (nmF f s g)) six:=by
 have h:∀k:Nat,97<=97+BVC/\97+BVC<=122:=λk=>by
  have:=Int.emod_lt_of_pos BEO D4E;have:=Int.emod_nonneg BEO B3Z;omega
 have o:∀k:Nat,DX5<=8:=λk=>by
  have:=Int.emod_lt_of_pos (k*3+g) D4D;omega
 refine⟨?_,B1E,B1E,c5H,c5G⟩
 .rw[List.nodup_iff_pairwise_ne,List.pairwise_map];refine List.Pairwise.imp_of_mem (EH2 c (a:i<j)) (List.pairwise_lt_range (n:=m));rw[List.mem_range]at hi c;have:=c1J e AG;rw[AD h1 (Int.emod_nonneg BTH B3Z) h2 (Int.emod_nonneg BTI B3Z)];have key:∀s∈B2N,∀d∈List.range 7,d≠0->A15 (s*BJ d)≠0:=by decide
  have e2:A15 BTH=A15 BTI:=(Int.toNat_of_nonneg h1).symm.trans (AAY congrArg Int.ofNat (Nat.add_left_cancel this) (Int.toNat_of_nonneg h2));refine key s hs (j-i) (List.mem_range.mpr (AX 0x4707ffd6769f4df350ca7c767 l c)) (nR 0x111feb6a56eaf1696) ?_;rw[BO (show s*ER (j-i)=(BTI)-(BTH) by rw[KK (Int.ofNat_sub (Nat.le_of_lt a)) Int.mul_sub lq 0x30d0deb03b61ad8e]) Int.emod_eq_emod_iff_emod_sub_eq_zero.mp e2.symm]
 .rw[BST k];exact c5K (h k).1 (h k).2 AG (o k)
 .rw[BST k];exact BR c1C
def c6N:∀i:Nat,i<26->DJ lts.cps.toList (97+i):=by
 rw[DG8 [97,98,99,100,101,102,103,104,105,106,107,108,109,110,111,112,113,114,115,116,117,118,119,120,121,122]]
 rw[XL e]
def two_at(x y:Int)(c:Bool):∃m:Int,atI [CI x,BK y] (U3 c 1 0)=ADB/\(m=x∨m=y):=by
 cases c
 .rw[AV x rfl PX]
 .rw[AV y rfl BMP]
section
variable {P:qH}{w:World}{K:qF}{mg:BA}{base:Heap}
/---/def c4t:Sp:=EGJ (∀t ns H',DFQ->OP->A5X->ZQ->KF->GT->A0W t)
def sc__law_names:D19 ["_law_pot_here","_law_letters","_law_many","_law_first","_law_step","_law_longer","_law_names_here","_law_words","_law_k"] a0m:={}
abbrev c9K(a:qE)(m:Nat)(fi:Int)(st:Int)(gi:Int)(p9:qE)(p11:qE)(b:qE)(H:Hp)(σ:L2.St)(H':Hp):Prop:=∃o8 L R,σ=ENE/\DWP/\C2J/\DEC/\KF/\GT
abbrev c9J(a:qE)(m:Nat)(fi:Int)(st:Int)(gi:Int)(p9:qE)(p11:qE)(b:qE)(H:Hp)(i:Nat)(σ:L2.St)(H':Hp):Prop:=∃o8 L R,σ=ENE/\DWP/\BHB p11 R.map/\C2J/\DEC/\R.length+i=6/\KF/\GT
def b7v(F:D1J "_law_names" a0m)(T:AW)(c:yU)(u:A7U):ECR:=by
 rw[BM sc__law_names e4 d7 J]
 rw[QR a b]
 .rw[EG2]
  rw[BU (A5S 1 sc__law_names.nd B2
 (BX 2 sc__law_names.nd (K4 A4 (BS2 (E36 (FU A4 RJ) AI4)))
 (A1 (b1O (Q5 (VU AI4 (GZ u J.mono (C15 (BF7 RJ))) (CZ AI4))) (G7 K 3 (B3 (BZ5 3) (B84 (BZ5 4) (BZ5 5)))))
 (A1 (cJ 6 sc__law_names.nd (N:=CQI) (src:=[none,rX,AC 3,AC 4,AC 5]) CKO
 (pX CQI) XU (pO _ ((c0l (DP c5g 1 (BRZ (DP K4 2 (DP Z6 3 DR)))) (K4 A4 (a1S (QZ K4 (ABD Z6) 4) A4))))))
 (lV 7 sc__law_names.nd D6 (FU B2 (VU B2 B2 (VU B2 B2 ZB)))
 (A1 (A6T K3 AI4
 (A3 (iI (iL (CZ (c7f rfl T.b_min (lU (LX K4 A4 AI4))))) 8 sc__law_names.nd
 (A3 (b1O (a9J K CT5 (CZ (BS2 (AFB AOV)))) (DP c0j 6 (BS2 IZ))))))
 B4)
 (AQ5 AFH)))))))]
  refine GO _ (cM 2 b1k) (AB2 b1);have q1:NH p1:=E2 hP b1;rw[ZP (CC ARJ) b1];rw[JH e1 H p1 ARJ p1 ARJ];have P1:=hP.same s1;have o1:BOQ D6F:=s1.off;generalize D6F=H1 at s1 e1 P1 o1;refine mI 4 P1 (λr2 H2 _ _ P2 f2=>nW);rw[EBD b0 d3 4 7 r2 ⟨_,rfl,p1,_,_,_,rfl,rfl,AX6 f2 q1 e1,b0,a,b,mi,rfl,P2,AG,A9L (BGA (mi<=7)),C3M r3 c6 c7⟩];rw[SH (BIP ?_)];have o3:=GI o1.trans f2 f3;rw[rW m hm (∃m:Nat,1+r3=MV) (MF (1+r3)) AG];rw[A5A v (AQA/\m<=7)]
  rw[hm];clear f2 f3 P1 P2 s1 e1 c6 c7 hm b0 d3;rw[GV (mI 26 P3 (EX g H4 c0 c3 P4 f4)) (GO _ (cM 6 b7Y) (BB p5 a0))];have q5:NH p5:=E2 P4 a0;rw[mY s5 H4 AW1 a0];rw[JH e5 H4 p5 AW1 p5 AW1];rw[AD P5 (P4.same s5) o5 (GI o3.trans f4 s5.off)];generalize HU H4 p5 AW1=H5 at e5 P5 o5;refine⟨a,b,p5,_,rfl,P5,e5,q5,AK,AK,DY sv H6 b4 P6 f6⟩;obtain⟨st,b3,rfl⟩:∃st:Int,st∈B2N/\sv=V.int st:=by
   rw[D2 x hx e List.mem_map.mp (show sv∈TC (CCV:qJ).map from b4)];rw[AV x hx e.symm]
  refine mI 8 P6 (EX l H7 c4 c5 P7 f7);have o7:=GI o5.trans f6 f7;rw[GF (cM 3 b1m) p8 b2];rw[x6 s8 H7 AVQ b2];rw[pH e8 H7 p8 AVQ p8 AVQ];rw[EKZ];generalize PQ H7 p8 AVQ=H8 at e8 P8 o8;clear s8 b2 o7 f7 P7 o5 f6 P6 s5 a0 e5 P5 o3 f4 P4 P3 b4;rw[wA ⟨p8,_,rfl,FB e8,rfl,_,_,rfl,_,_,rfl,_,[],rfl,rfl,?_⟩ (AVO m)];have d5:0<=st/\st<=11:=(AK:∀s∈B2N,0<=s/\s<=11) st b3;rw[CRN];rw[DO (a5c (caps:=[CEO,DL g,DL st,BGY]) (λk=>EE7) (BBF v.2) rfl (BKR H9 Q9 s9)) H9 C s9 I]
  .rw[AD m1 (Int.emod_lt_of_pos AOM D4E) m0 (Int.emod_nonneg AOM B3Z)];rw[AD n1 (Int.emod_lt_of_pos DT4 D4D) n0 (Int.emod_nonneg DT4 (CCE 8))];have c9:atI lts.cps.toList D2L=AC (97+B25):=by
    rw[jE (J4 (c6N B25 AG)) (B26 B25 D2L)]
   rw[GV ⟨_,rfl,_,rfl,_,rfl,_,rfl,_,_,rfl,rfl,yH,_,_,rfl,rfl,_,_,rfl,rfl,B95 (NW<26),lts,_,_,rfl,rfl,w5 (CB 26) 0x69b830c3eade6e0edd hz,c9,?_⟩ ⟨_,rfl,_,_,rfl,rfl,yH,_,rfl,_,_,rfl,rfl,_,_,rfl,rfl,B95 (NW<8),_,_,rfl,rfl,pW (97+B25),DX6,rfl,?_,AZM 10,AG,q⟩];show V.int (1+(OE*3+l) % 8)=CI (ER DX6);congr 1;omega
  have hI:=b7F ⟨c0,c3⟩ b3 ⟨c4,c5⟩ v.2;have c8:(AZU λk=>EE7)=GN AZU C4Y V.str:=by rw[BCL]
  rw[c8];have Z:EI AZU C4Y=m:=by simp
  generalize (List.range m).map C4Y=L0 at hI Z;rw[EF];have P9:=P8.same s9;have q9:NH C:=E2 P9 I;have f9:DK C:=a0S (o8.trans s9.off) P9 I;rw[GA a3 s9.upd ASS I];rw[NF G H9 C ASS C ASS];rw[WR y P8.same a3 M o8.trans a3.off];generalize upd H9 C ASS=X at G y M;rw[GF (cM 6 b7Y) d r];have D:NH d:=E2 y r;have b9:DK d:=a0S M y r;rw[LY S X AST r];have W:C≠d:=A6 G r;have a8:PJ X d AST d AST:=A0;rw[AD z (AEV G) a4 (y.same S)];have a1:=M.trans S.off;rw[A51 ([oW "sum",oW "cap",oW "price",oW "of",oW "least",oW "step"]=six.map V.str)];rw[EF];generalize upd X d AST=e0 at a8 z a4 a1;clear S a3 y M s9 P9 I P8 o8 e8 G r;rw[pM (EMR c9K)]
  case fin =>
   rintro σ H' ⟨o8,L,R,rfl,e,hN,U,P',o'⟩;refine AGE C CTM t ht;exact k t L _ A0 ⟨hN.nd,hN.nm⟩ (~~~b9z v.1 U) (AX 0x4657949b54c2ca58766 v.2 U) (P'.same (AFQ ht)) (o'.trans (AFQ ht).off)
  refine mI 2 a4 (λe9 e2 _ _ a5 B=>NV rfl _ lD)
  .refine A7N 3 a5 (EX O e3 d8 d9 b6 Y);rw[AD d6 (GI a1.trans B Y) b7 (YF Y q9 B q9 z)];have b8:=YF Y D B D a8;obtain⟨n,hn,d4⟩:∃n:Nat,(EKI)=EY/\n<=3:=⟨MF EKI,by split<;>omega,by split<;>omega⟩;rw[AT8 ⟨_,_,rfl,rfl,_,_,rfl,n,W0 hn,AG,AG,?_⟩];rw[C2H (n:=n) (EMR c9J) ⟨_,L0,six,rfl,b7,b8,hI,Z,rfl,b6,d6⟩]
   .rw[EOI o8 L R hN U hR];rw[EF];rw[E4B hm R.length (BJ R.length) 0x33b819d9ca234831dc284996 hR ⟨_,rfl,QJ c2,_,rfl,_,rfl,d,_,rfl,WK c2,a,b,_,rfl,P',AGL 0x1e895693d5305e3343a70223b7067 d4 hi hR,IF hm,E9T e7 a2⟩];rw[List.length_map]at a2;rw[yK j j (r1=j) r1.toNat];have hj:j<R.length:= ~~~b1x a2
    have d2:=AO f1 D c2;have d0:seqIndex? QP (A5T R.map)=AC j:=by
     rw[AF List.length_map (seqIndex_of wE AG)]
    refine⟨d,_,_,j,V.str R[j],rfl,rfl,d2,AG,AG,d0,bG List.getElem?_map ADG,?_⟩;rw[AD d1 (AO f1 q9 c1) P2 (a1u (o:=ACU) P1 D)];have o2:=a3i (p:=d) (o:=ACU) (o'.trans f1) b9;rw[FQ a6 (PJ H1 d ACU C (JQ L.map)) (A5 W) d1]
    have a7:PJ H1 d ACU d (AMW R.eraseIdx j):=by rw[A0,c0D]
    generalize upd H1 d ACU=H2 at P2 o2 a6 a7;refine⟨_,rfl,_,rfl,_,rfl,a,b,m,rfl,P2,~~~a5C v.1,COO MV v.2,C3M r3 f0 b5⟩;rw[yK i2 j (r3=j) r3.toNat];have e6:i2<L.length:= ~~~b9D U b5
    have a9:AHT (A5T L.map) (BJ i2) i2:=by
     rw[C5M (cP (~~~b9A U b5))]
    rw[GV ⟨C,_,_,i2,rfl,rfl,AO f3 q9 a6,a9,?_⟩ ⟨_,L.set i2 R[j],R.eraseIdx j,rfl,DFS,ID W.symm (AO f3 D a7),CSB hN.step hj,CT2 U,by rw[List.length_eraseIdx,cP hj];rw[D4 0x111dcda07c2f3348150cd3e55e746204173e77f0bc997 hR a2],a1u P3 q9,a3i (o2.trans f3) f9⟩]
   .rintro σ H' ⟨o8,L,R,rfl,c1,c2,hN,U,hR,P',o'⟩;exact ON ⟨_,L,R,rfl,c1,hN,U,P',o'⟩
  .exact ON ⟨_,L0,six,rfl,AO B q9 z,hI,Z,a5,a1.trans B⟩
#where
def a7k{α:Type}{f:xR}{Pr:WJ α}:∀{ys:AE},A9E (∃x,y=f x/\Pr x)->∃zs:DC,ys=zs.map f/\AW7 zs.length/\iW zs (Pr z)
 |[],_=>(AFY [] (λz a=>ABU a))
 |FY,h=>by
  rw[DU x d (ANH y)];obtain⟨zs,rfl,e,a⟩:=a7k (ys:=ys) λu c=>kN u c;rw[CK (x::zs) rfl AJ (λz b=>by rw[TR A5M q];exact d;exact a z q)]
section
variable {P:qH}{w:World}{K:qF}{mg:BA}{base:Heap}
def a5S{src:LQ}{σ caps:L2.St}{Q:VK}{H:Hp}{a b t:qE}{xs:AE}{te:TE}(R:BRL)(m:NL)(d:UT)(k:LP)(l:fN t xs)
  (f:C7Q)
  (hd:DJZ):D4G Itt:=by
 rw[SF o]
 refine UX Z9 t xs (~~~O7 m o) C7C C6H (US ys ⟨FB (AO BTV (F6 k l) l),C23⟩) ?_ ?_
 .rw[EOU n]
  rw[IJ h2 y]
  rw[A5R n]
 rw[C81]
def c0H{src:LQ}{σ caps:L2.St}{Q:VK}{H:Hp}{a b t:qE}{xs:AE}{te:TE}(R:BRL)(l:NL)(d:UT)(k:LP)(n:ALD t)(m:NH t)
  (f:C7Q)
  (hd:DJZ):D4G Itl:=by
 rw[SF q]
 refine UX S2 t xs (BXF q) C7C C6H (US ys ⟨AX6 BTV m n,C23⟩) ?_ ?_
 .rw[EOU o]
  rw[IJ h2 y]
  rw[A5R o]
 rw[C81]
def a4A{ys:AE}{lo hi:Int}(h:NY ys (DTQ C4Q)):EDI BU8 C4Q:=a7k h
/---/def c4h:Sp:=EGJ (∀v ns rows sides caps prices H',SysAt H' v ns rows sides caps prices->B1U->BRK (EQ r C38)->KF->GT->kX)
def sc__law_small:D19 ["_law_pot_here","_law_names_here","_law_rows","_law_k","_law_sides","_law_caps","_law_prices"] a0l:={}
abbrev c9I(a:qE)(t:qE)(pr:qE)(ns:AA)(b:qE)(H:Hp)(i:Nat)(σ:L2.St)(H':Hp):Prop:=∃o3 us rows,σ=[MB,BND,DE pr,o3,none,none,none]/\oF pr us/\fV us rows/\rows.length=i/\BRK (B16 r.length r C38)/\DFQ/\KF/\GT
def b7s(F:D1J "_law_small" a0l)(T:AW)(c:yU)(l:A7U)(C:ECR):E8F:=by
 rw[BM sc__law_small i5 i2 B]
 rw[QR a b]
 .rw[EG2]
  rw[BU (BX 1 sc__law_small.nd (fL C B.mono a3l NB)
 (AI8 2 sc__law_small.nd
 (A1 (iI (iL (E36 (wK (GZ l B.mono (C15 RJ)) D3X) D3X)) 3 sc__law_small.nd
 (pE MX (CZ (aZ (BKE (C2N
 BW9) a5G B34)))))
 (BX 4 sc__law_small.nd (aZ (BKE (BCV "_law_row" (BCE 2)
 (BCS "_law_row")) a5G B34))
 (BX 5 sc__law_small.nd (DRK (C2N
 BW9) (VU J5 J5 (CZ B34)))
 (BX 6 sc__law_small.nd (DRK (C2N
 BW9) (VU A4 B34 (CZ (GZ c B.mono (YC (LX c0m A4 A4))))))
 (ZC Q5 (YC (FU (aZ IZ) (XH 4 (XH 5 AFH)))))))))))]
  rw[SH (iV a b hP (λt ns H1 ht g9 h1 h7 P1 o1=>?_))];rw[dI pr a7];have fr:DK pr:=a0S o1 P1 a7;have qr:NH pr:=E2 P1 a7;rw[B3J eY a7];rw[B4O e2 H1 pr pr];generalize HU H1 pr []=H2 at s2 e2⊢;rw[AD P2 (P1.same s2) o2 (o1.trans s2.off)];have b7:=WE ht;clear s2 a7 o1 P1 ht;rw[CW (GO _ (cM 4 b8d) (AF6 b5))];rw[mY s3 H2 (CH8 B98 2) b5];rw[AVR p3 (P2.same s3) (E2 P2 b5) 4 4 (DY r4 H4 b6 P4 f4)];obtain⟨x4,rfl,f1,f2⟩:∃x,BIA r4/\TB/\x<=2:=by
   rw[lC b6];rcases b6 with e|e|e|e<;>exact(UB e AK AK)
  rw[AD o4 (GI o2.trans s3.off f4) c8 (A5B f4 CKX)];have b8:=AO f4 (F6 (P2.same s3) D4X) D4X;clear s3 f4 b5 b6 P2 o2 b7 e2;refine mI 7 P4 (λr5 H5 f3 g0 P5 f5=>iO (cM 2 b1k) S L);have q6:NH S:=E2 P5 L;rw[mY s6 H5 AV6 L];rw[JH e6 H5 S AV6 S AV6];generalize HU H5 S AV6=H6 at s6 e6⊢;refine mI 8 (P5.same s6) (λr7 H7 _ _ P7 f7=>nW);rw[AD a5 (GI f5.trans s6.off f7) o7 (o4.trans a5)];rw[AD c9 (A5B a5 c8) d7 (LK a5 P4 b8 b8)];rw[EBD d3 g7 x4 r5 r7 (AUW S _ (AX6 f7 q6 e6) d3 mi rfl AG AG ?_)];rw[yK m g (mi=g) mi.toNat];rw[A5A b4 (m<=6)]
  rw[CRN];clear o4 f5 s6 f7 a5 P4 P5 c8 b8 e6 f3 g0 d3 g7 f1 f2;have d9:pr≠t:=QO c9 d7;rw[C2H (n:=m) (c9I a t pr ns b H) ⟨_,[],[],rfl,c9,.nil,rfl,λr B=>ABU B,d7,P7,o7⟩]
  .rw[EOI o3 us rows c3 c4 c5];rw[CW (EEW D01 t c5)];refine C41 (AVF C38) P' c5 (EFP 7 0x4a24c03b69da77236 0x2a3eaa4bfa9baf16) ELM;rw[EFI xs h9 h8 h9 QI];rw[ENW RT QI RT RT QI RT];rw[AD f8 (f6.trans s8.off) W (A5B f8 c1)];have O:=Its.pot c2 P' f8;rw[GV (B3R pr us W (OH O.1 c3 (lq 0xcf6601d9b0c9ef07146ae0edf hz b4 hi))) ⟨_,A8P us p8,rows++[xs],rfl,A0,(O.snoc (CU p8 e8)).put W,BR1 c3,AF4 B,ID d9.symm (LK f8 P' c5 c5),a1u (P6.same s8) qr,a3i (o'.trans f8) fr⟩];rw[CM (List.mem_append.mp B)]
   rw[IJ c4 r]
   .rw[WB];rw[AZ AG h8]
  .rintro σ H' ⟨o3,us,rows,rfl,c1,c2,c3,c4,c5,P',o'⟩;have d1:∀{xs:qJ}{lo hi:Int},-4<=lo->hi<=4->BQL C4Q->xF:=λh1 h2 h x hx=>BGJ D0E
   refine dP pr c1;refine c0H (caps:=ALJ) (λu=>AVF (-4<=x/\x<=4)) (A2T c2.1 0x293bb70cc9ff4043074531a6 b4 c3) rfl P' c1 qr (EFP 9 0x4a2697aa0e7a53236 0x2a5c218b172f7116) ELM;rw[EFI j h5 h4 h5 BGV];rw[ENW ASV BGV ASV ASV BGV ASV];rw[WR f8 f6.trans s8.off P8 P6.same s8];rw[AD o8 (o'.trans f8) W (A5B f8 c1)];rw[AD O (AES c2 P' f8) X (LK f8 P' c5 c5)];clear s7 s8 f8 f6 L a6 P6 c1 c2 c5 P' o' D;rw[CW (BRC t X)];refine C41 (∃o:FX,u=ovI o/\∀x,some x=o->YZ) P8 X (DY v H9 N P9 q) λH9 p9 ys g6 D P9 f9 d6=>?_
   .refine A7N 4 P9 (E78 EFD);rw[EMS c0 [V.non,V.non,CI x] a1.same a1 (λr U B a2 b3=>q r U ?_ a2 (D8X G.off b3))]
    rw[DVM]
    rw[DVM]
    .rw[AV bN e (λy z=>by cases z;rw[BCY])]
   rw[CL caps rfl g4 g3 a7k D];rw[BK4 g6 g4 e0 H9 BJO d6];rw[gF p9 KZ I p];rw[GA G e0.upd AE5 p];rw[NF a4 (upd H9 p9 BJO) I AE5 I AE5];generalize ASX H9 p9 BJO I AE5=i4 at G a4⊢;rw[WR R f9.trans G.off M P9.same G];rw[AD d8 (o8.trans R) g1 (A5B R W)];rw[AD g2 (Its.pot O P8 R) g5 (LK R P8 X X)];rw[AD g8 (LK R P8 e8 e8) h6 O.1];clear e0 G R f9 d6 p P9 W O X P8 o8 e8 D;rw[CW (BRC t g5)];refine C41 (AVF YZ) M g5 (DY v a0 N a3 q) λa0 b9 ys d2 D a3 d0 a9=>?_
   .refine A7N 6 a3 (E78 ⟨_,rfl,_,_,rfl,rfl,C49,a,b,_,rfl,a1,AK,PF,λy U y1 y2 a2 b3=>EFD⟩);have y2:y<1000000000000:=y2;rw[EMS U [A89,CI x,CI y] a2.same a2 (λr e5 B e7 f0=>q r e5 ?_ e7 (ASD (D8X b3) G.off f0))]
    rw[B5B]
    rw[DHG 0xf183a3edc63a3ee515b6e4931e94e16 x2]
    rw[DHG 0x1c83cf3463cd651ff7d57a09fd6a7931745a66437b32bda2a16 y2]
   rw[CL d rfl h3 h0 a4A D];rw[BK4 d2 h3 e3 a0 A31 a9];rw[gF b9 KZ Z b0];rw[GA a8 e3.upd iH b0];rw[NF c7 (upd a0 b9 A31) Z iH Z iH];generalize ASX a0 b9 A31 Z iH=b1 at a8 c7⊢;rw[WR J d0.trans a8.off e9 a3.same a8];rw[AD i1 (d8.trans J) j1 (A5B J g1)];rw[AD j2 (AES g2 M J) j5 (LK J M g5 g5)];rw[AD j8 (LK J M g8 g8) i0 (LK J M a4 a4)];clear e3 a8 J d0 a9 b0 a3 g1 g2 g5 g8 M d8 a4 D;rw[CW (VX _ rfl _ pr us rfl (kF (EE j1) Y d4))];rw[x6 e1 b1 us d4];rw[pH c6 b1 Y us Y us];generalize PQ b1 Y us=U at e1 c6⊢;refine VX _ rfl _ _ rfl DRM (BB i3 d5);rw[AD e4 (C0I U [bZ,AL Y,AL p8,BGF,AL Z] d5) ss (e1.trans e4)];refine k _ ns rows j caps d _ ⟨i3,t,Y,p8,I,Z,us,rfl,A0,AWU j5,AI e4 c6,j2.same ss,AWU j8,AWU i0,AWU c7⟩ ⟨g9,h1,h7,AX 0x4657948a7e87d9531a6 b4 c3,λr B=>⟨A1C c4 B,d1 AK AK E3N⟩,?_,d1 AK AK h4,AG,λx hx=>g3 _ hx x rfl,AG,h0⟩ (λr B=>E3N) (e9.same ss) (i1.trans ss.off);rw[D4 0x10e349568b2565d631a457 hl h6]
#where
#where
section
variable {m:Int}{n:Nat}{r rest:qJ}
def ans_iff{rss:LLI}{v:qJ}:AEW↔kW (dot r v=0):=by
 rw[DOM];rw[AZ (B5X a of_decide_eq_true a) (B5X a decide_eq_true a)]
def c9n(l:qJ)(h:B0N):CU1:=by
 induction l with
 |nil=>rw[AYY]
 |cons x l b =>
  have:=BZT;have:=AJU;rw[PM List.sum_cons]
def c9m(l:qJ)(h:B0N)(y:Int)(a:y∈l)(hp:0<y):CUW:=by
 induction l with
 |nil=>cases a
 |cons x l c =>
  rw[AD b (A3B (c9n l) y y) h1 AJU];rw[AEL];rw[TR AMK q]
  .exact lq 0xf41b82dfce84f57ce52 hp b
  .have:=c (λy a=>kN y a) q;rw[iB b8k h1]
def a5K{xs:qJ}{j:Nat}(h:WZ):gC∈xs:=by
 rw[DQA ASQ h]
/---/def b5N(a b:qJ):qJ:=List.zipWith (λa b=>a+b) a b
/---/def c9l(c:Int)(r:qJ):qJ:=r.map λz=>c*z
/---/def TgA:qJ->LLI->qJ->qJ
 |qR,oM,AIB=>TgA (b5N qR (c9l c r)) rss cs
 |qR,_,_=>qR
def c7S(a b:qJ)(h:DKV):MK b5N a b=b.length:=by rw[AEO b5N List.length_zipWith b9t h]
def c9k(a b:qJ)(h:DKV)(j:Nat):(b5N a b).getD j 0=CUC+b.getD j 0:=by
 unfold b5N;rw[List.getD_eq_getElem?_getD,List.getD_eq_getElem?_getD,List.getD_eq_getElem?_getD,List.getElem?_zipWith];by_cases c:j<a.length
 .rw[LZ c,LZ (~~~a5z h c)];rfl
 .rw[ARA c,BLO (~~~b1o h c)];rfl
def b5b{α:Type}{xs:DC}{i:Nat}{x:α}(h:YY):xs.drop i=x::xs.drop AT:=by
 rw[OK (List.getElem?_eq_some_iff.mp h)];rw[List.drop_eq_getElem_cons h1,h2]
def b1X(l:qJ):BGU DU2:=by
 rw[E7X]
/---/def Ofl:qJ->qJ->qJ
 |EL,FY=>if iE then(y / x)::gP else gP
 |_,_=>[]
/---/def b4C:qJ->Int
 |[]=>0
 |BGX=>l.foldl (λσ a=>if a<σ then a else σ) x
def a5t{l:qJ}(h:BP9):b4C l∈l/\∀a∈l,b4C l<=a:=by
 cases l with
 |nil=>rw[FO rfl h]
 |cons x l =>
  obtain⟨h1,h2,b⟩:=fold_min l x;rw[GF ?_ a c]
  .rw[SC h1]
   .show tJ List.foldl∈_;rw[B3E q]
   .exact HV q
  .rw[CYV q]
   .exact h2
   .exact b a q
def b7L{l:qJ}{M:Int}(h1:M∈l)(h2:∀a∈l,M<=a):M=b4C l:=by
 have b:BP9:=λz=>by rw[AU z h1 h1]
 obtain⟨c,d⟩:=a5t b;have:=h2 _ c;rw[KA (d _ h1)]
def b0i:∀(xs ys:qJ) (x y:Int),BU8->Ofl CK4 CKK=gP++(A1N iE [y / x])
 |[],[],x,y,_=>by
  show MM iE _ _=_;rfl
 |a::xs,b::ys,x,y,h=>by
  have c:=b0i xs ys x y AFM;show(if 0<a then(b / a)::E2I else E2I)=sV (0<a) ((b / a)::gP) gP++_;rw[c];split<;>rfl
def a4F:∀{xs ys:qJ}{m:Int},m∈gP->∃i,wP/\BGR/\0<AQB/\m=C3E
 |[],ys,m,h=>by cases ys<;>exact tG
 |EL,[],m,h=>tG
 |EL,FY,m,h=>by
  change m∈C5R at h;by_cases c:iE
  .rw[nZ]at h;rw[SC CV2]
   .rw[EB 0 AJ AJ c q]
   .rw[ENY (a4F q)]
  .rw[A5U]at h;rw[ENY (a4F h)]
def b2k:∀{xs ys:qJ}{i:Nat},wP->BGR->0<AQB->C3E∈gP
 |EL,FY,0,_,_,h=>by
  have h:iE:=h;show y / x∈C5R;rw[B3E BNX]
 |EL,FY,AT,h1,h2,b=>by
  have a:=b2k (xs:=xs) (ys:=ys) (i:=i) A2Z A30 b;show C3E∈C5R;split
  .exact AB7
  .exact a
/---/def oft(r rest:qJ):Int:=b4C (Ofl r rest)
/---/def a2K(rest r:qJ)(m:Int):qJ:=A95 a b (a-b) rest (r.map λz=>m*z)
/---/def L9:LLI->qJ->qJ×qJ
 |[],rest=>([],rest)
 |oM,rest=>(bM::BR3 xZ,mP rss xZ)
/---/def a3F(n:Nat)(r:qJ):Prop:=r.length=n/\BT x r (TB/\x<1073741824)/\CUY
/---/def a1N(n:Nat)(r:qJ):Prop:=r.length=n/\EQ r (TB/\A9U x)
def a5g(h:A13 r)(hs:CUY):∃i,CUA/\0<A61:=by
 by_cases q:∃y∈r,0<y
 .obtain⟨y,a,hp⟩:=q;rw[NA i hi rfl (List.mem_iff_getElem.mp a) i hi (OH List.getD_eq_getElem?_getD cC hp)]
 .have hall:NY r (y=0):=λy a=>by
   have:=h y a;have:¬0<y:=λz=>YM q y a z;omega
  rw[List.eq_replicate_iff.mpr (FN hall)]at hs;simp at hs
def b2l(hp:iJ)(b:rest.length=n):FW (Ofl r rest):=λz=>by
 obtain⟨i,hi,a⟩:=a5g (λx c=>A26 AF8 c) hp.2.2;rw[AF0 (b2k (ys:=rest) hi (ASA b gU hi) a) z]
def a7S(hp:iJ)(c:uY):0<=bM/\A9U bM/\∀j,cB->bM*RV<=A45:=by
 rw[OK (E32 F0)];have a:∀j,cB->y3 A45 A45:=λj b=>QF _ (MW a5K F0 b);obtain⟨i,p,k,l,g⟩:=a4F h1;have d:=a i (QE F0 k);have h:0<=bM:=by
  show 0<=b4C _;rw[AF g (Int.ediv_nonneg cT (BMU l))]
 rw[DN h ?_ (BB j b)]
 .show b4C _<_;rw[g];have:=Int.ediv_le_self A61 cT;omega
 .have hx:=C5Z AF8 r j D90;rw[BP f RV 0]
  .rw[f,Int.mul_zero];exact(a j b).1
  .have hpos:0<RV:= ~~~a7Z hx.1 f
   have e:bM<=DL7:=h2 _ (b2k D90 (ASJ F0) hpos);have m:=Int.mul_le_mul_of_nonneg_right e (show CU2 by exact a2j hpos);have o:DL7*RV<=A45:=Int.ediv_mul_le _ AG;omega
def a0Z(h:BYD):BV BTS=r.length:=by
 unfold a2K;rw[KK List.length_zipWith List.length_map b9t h]
def a8f(h:BYD)(j:Nat):(BTS).getD j 0=A45-m*RV:=by
 unfold a2K;rw[List.getD_eq_getElem?_getD,List.getD_eq_getElem?_getD,List.getD_eq_getElem?_getD,List.getElem?_zipWith,List.getElem?_map];rw[iX (j<rest.length)]
 .rw[AB4,LZ (iC a5z h)];rfl
 .rw[ARA a,BLO (iC b1o h)];show NW=0-m*0;rw[SJ 0x1be5d3a2a0f5436]
def Z0(hp:iJ)(b:uY):A94 xZ:=by
 rw[C6F WN]
 rw[GF (IC AFA gU) x c];rw[vB c];rw[AFA,gU]at hi;have e:=a8f (m:=bM) a i;rw[List.getD_eq_getElem?_getD,List.getElem?_eq_getElem (by rw[DW AFA gU hi])]at e;have e:(xZ)[i]=BPB-bM*A61:=e;rw[e];rw[AJB d (a7S hp b)];have:=h2 i hi;rw[AD f (C5Z b.2 rest i (AF3 WN)) c (C5Z AF8 r i (AF3 gU))];have:=Int.mul_nonneg d F0;omega
def a7g{n:Nat}:CPR rss (D35) (A94 (mP rss rest))
 |[],rest,_,h=>h
 |oM,rest,a,h=>a7g rss _ (DGW a) (Z0 (a r (List.mem_cons_self ..)) h)
def a5Z:∀(rss:LLI) (rest:qJ),QK (BR3 rest)=rss.length
 |[],_=>rfl
 |oM,rest=>by
  show BV (_::BR3 _)=_;rw[D71 a5Z]
section
variable {P:qH}{w:World}{K:qF}{mg:BA}{base:Heap}
/---/def b2J:Sp:=BQ _ (∃(x y:V) (r rest:qJ) (n:Nat),vs=AUE/\IT H x r/\ALX rest/\X3/\iJ/\uY/\xI bM)
def b6j:BFL "rest" "rest" a7C:={}
def b7u(F:BED "often" a7C "rest")(T:AW):E5L:=by
 rw[BM b6j B t G]
 rw[mU x y r rest n]
 .obtain⟨_,_,r,rest,n,rfl,⟨a,rfl,ha⟩,⟨b,rfl,hb⟩,hn,hp,hr',k⟩:=h;rw[jC D]
  have c:r.length=rest.length:=by rw[gU,hr'.1]
  rw[GS (QV c3l T.b_min (LX (APN "here" "there"
 (bU CMN CMN)) BXT (HS (BUD b1Q))))]
  refine ARW;refine BG O3 k1 true k2 true (xs:=CJC) (zs:=TC rest.map) (by rw[gW gU];rw[D4 0x6cb974c83285df0e7ddc80e6 hn D]) (OB zs (BN/\zs=FC E9Z V.int/\zs.length<=i)) (CU kJ BW) (DTU ha hb AF1) ?_ ?_
  .rintro i x z zs H' p hx hz' ⟨s',rfl,hzl⟩ hp';rw[aR x' d K8 hx];rw[aR g q K8 hz'];have C:CUA:=LM d;rw[AD m (RU AF8 x' d) s2 (s'.upd (o:=NS CL7) hp')];have u:Ofl (r.take AT) (rest.take AT)=E9Z++(A1N (0<x') [g / x']):=by
    rw[List.take_add_one,List.take_add_one,d,q];exact TJ b0i (DSS c)
   refine u7 p CL7 A0 BGN (kS g) (BK g) [];rw[A4F]
   .match j,e with
    |0,e=>rw[CG]
    |1,e=>rw[CG]
    |j+2,e=>exact e
   refine A7B
   .have e':0<x':=dD;refine⟨_,rfl,_,rfl,_,_,rfl,rfl,⟨e',m.2⟩,s2,?_,?_⟩
    .rw[u,D2O,List.map_append];rfl
    .rw[List.length_append];simpa using hzl
   .rw[BXP (0<x')];rw[AV s2 (D4Q u CW2) (BMV hzl)]
  .rintro zs H' ⟨s',rfl,hzl⟩ p hp';rw[List.length_map,List.length_map,c,Nat.min_self,List.take_length,<-c,List.take_length];have l:=b2l hp hr'.1;refine⟨p,_,rfl,KZ,List.length_pos_iff.mpr l,DV M h1 h2⟩;rw[AF (AQZ b7L) (GP (BLP hp'))]
/---/def c3c(H:Hp)(a:qE)(z:V)(us:AE)(rss:LLI)(xs:qJ)(n:Nat):Prop:=aE/\SN/\xS/\dF/\x8/\X3/\D35/\A94 xs
/---/def b0B:Sp:=BQ _ (∃(a:qE) (z:V) (us:AE) (rss:LLI) (xs:qJ) (n:Nat),vs=A4X z/\c3c H a z us rss xs n/\(mP rss xs).sum=0/\B2I (NT (rT rss).map))
def c1c{rs:qJ}(h:D1I):APX rs.map any trV=GM (0<rs.sum):=by
 rw[DIP decide_eq_true_eq]
 .rw[A2O v hv];rw[LN z c hv];have b:=EJ z c;have:z≠0:=λq=>by subst q;rw[CG]
  exact c9m rs E54 z c (~~~a7Z WN this)
 .intro hs;obtain⟨i,hi,d⟩:=a5g E54 hs;rw[DN (BK CWV) (List.mem_map.mpr (PN (a5K hi))) ?_];show HI (CWV != 0);exact bne_iff_ne.mpr (~~~a3n d)
def sc_laid:A5Q ["told","one","rest","counts","part","many"] "told" b0P:={}
abbrev c9H(a:qE)(z:V)(pc:qE)(H:Hp)(n:Nat)(rss:LLI)(xs:qJ)(i:Nat)(σ:L2.St)(H':Hp):Prop:=∃(v:V) (o4 o5:cZ) (rs cs:qJ),σ=[MB,BMD,JZ,DE pc,o4,o5]/\BN/\A9G rs/\D1I/\KW pc CDE/\cs.length=i/\cs++(E4Q).1=rT rss/\(E4Q).2=mP rss xs
def c2G(F:AFV "laid" b0P "told")(T:AW)(d:E5L)(c:DYI)(g:E6L):C5F:=by
 rw[BM sc_laid U O G]
 rw[XG a z us rss xs n]
 .obtain⟨a,z,us,rss,xs,n,rfl,⟨ha,hI,hx,hl,hn1,hn,hP,hR⟩,h0,k⟩:=h;rw[jC X]
  rw[BU (lV 2 sc_laid.nd jv 1
 (AI8 3 sc_laid.nd
 (A1 (iI AG6 4 sc_laid.nd
 (BX 5 sc_laid.nd (GZ d G.mono (XH 4 IZ))
 (BX 2 sc_laid.nd (GZ c G.mono (BSW (GZ g G.mono (XH 5 wO))))
 (pE WO AFG))))
 (A1 (DRA (QV c7g T.b_any IZ)
 LS
 B4)
 BW2))))]
  rw[BV8];rw[dI m p];rw[AD C p s1 (iG (o:=CC []) p)];rw[B4O e1 H m m];have t:=hx.same s1;rw[AEQ (VJ m []) s1 e1 t];rw[CW (rF a (BPF ha))];rw[EC (UX b3v a us (c9H a z m H n rss xs)
   ⟨z,none,none,xs,[],rfl,s1,t,hR,e1,rfl,rfl,rfl⟩) (US σ (by rw[DM1];exact SqT.of BSK)) ?_]
  .rintro i x σ H' hxi ⟨v,o4,o5,rs,cs,rfl,s',hv,hRs,hc,hcl,hL1,hL2⟩;have D:i<us.length:=LM hxi;rw[CL r I J y hI.mem hxi];have j:=hP r I;rw[b5b J]at hL1 hL2;have V:=a7S j hRs;rw[CW ⟨_,rfl,_,rfl,x,v,r,rs,n,rfl,y.same s',hv,hn,j,hRs,BB H4 R⟩];rw[CW ⟨_,rfl,_,rfl,_,rfl,BRA,x,r,rfl,(y.same s').same R,TW j.1,V.1,AG,BS Z H5 S L⟩];rw[SH ⟨v,Z,rs,_,rfl,DWK hv.same,L,TW hRs.1,BS v6 H6 Y M⟩];rw[ZV B (GI R.trans S Y) l B hc];rw[GV (C7O (QJ l) m l (IF (lq 0xc9b79e9da38410b6af279ac9654ee67ddc80e8 hl X hcl D))) ⟨v6,_,_,a2K rs r BRA,cs++[BRA],rfl,GR u (nN (AQG C) (t5 ((s'.trans B)))),IT.put M l,Z0 j hRs,BZ0,JY hcl,?_,hL2⟩];rw[AF List.append_assoc hL1]
  .rintro σ H' ⟨v,o4,o5,rs,cs,rfl,s',hv,hRs,hc,hcl,hL1,hL2⟩;rw[vD,List.drop_length]at hL1 hL2;change cs++[]=_ at hL1;rw[List.append_nil]at hL1;change rs=_ at hL2;rw[DU va N hv];refine⟨_,rfl,true,va,_,rfl,FB N,b1X _,?_⟩;rw[c1c hRs,hL2];rw[iM (BI 0x111fed06739f7c416 h0)];rw[GV (CU false AZE) (AGE m (EE hc) q W)];rw[AF hL1 (k q _ (s'.upd W) A0)]
#where
def c3b(h:BYD){s:qJ}:dot s BTS=dot s rest-m*dot s r:=by
 unfold a2K;induction s generalizing rest r with
 |nil=>simp[dot]
 |cons a s b =>
  cases rest with
  |nil =>
   cases r with
   |nil=>simp[dot]
   |cons _ _=>cases h
  |cons x rest =>
   cases r with
   |nil=>cases h
   |cons y r =>
    rw[List.map_cons,List.zipWith_cons_cons,a1m,a1m,a1m,DWF,Int.mul_sub,Int.mul_add];have:a*(m*y)=m*(a*y):=by rw[<-Int.mul_assoc,Int.mul_comm a m,Int.mul_assoc]
    rw[NE 0x37d34888af0947ae173bed2356b98c6]
def b1K(hp:iJ)(c:uY):DEL xZ:=by
 rw[C6F F0]
 rw[GF (AH AFA a.symm) j d];rw[a8f a];have b:CU2:=c4M (λx b=>A26 AF8 b) j;have:=Int.mul_nonneg (a7S hp c).1 b;rw[NE 0xe70198216a252]
def b9V(hp:iJ)(b:uY):¬Under r xZ:=by
 intro d;rw[C6F WN]
 obtain⟨h1,_⟩:=E32 WN;obtain⟨i,e,j,f,g⟩:=a4F h1;have h2:=d.2 i (A2S AFA);rw[a8f a,show oft r rest=rest.getD i 0 / A61 from g]at h2;rw[AD h (Int.emod_lt_of_pos BPB f) c (Int.mul_ediv_add_emod BPB A61)];rw[Int.mul_comm]at c;omega
def a9B{n:Nat}:E1H (DEL BZ8/\hY a (¬Under t BZ8))
 |[],rest,_,_=>⟨Under.refl _,KD⟩
 |r::a,rest,d,c=>by
  rw[BW0 b d];rw[OK (a9B a xZ E0G (Z0 b c))];rw[GF (h1.trans (b1K b c)) t g];rw[mO (List.mem_cons.mp g)]
  .exact λe=>b9V b c (Under.trans e h1)
  rw[IJ h2 t]
def b3j{n:Nat}{rss:LLI}:∀(a:LLI) (rest:qJ),BT r a (iJ/\AUS r)->uY->AUS rest->AUS BZ8
 |[],rest,_,_,h=>h
 |r::a,rest,d,e,h=>by
  obtain⟨b,c⟩:=CUZ d;refine b3j a _ E0G DFA ?_;rw[ans_iff]at h c⊢;intro s hs;rw[c3b (by rw[e.1,WN]),h s hs,c s hs];rw[SJ 0x1ba0299c54d9236]
def b9W{rss b:LLI}{cs:BY}{v:qJ}(h:vT b (BQR v))(hp:qW b (a3F cs.length r))(c:a1N cs.length v)(l:AEW)(hw:A4S):(mP b v).sum=0:=by
 rw[OK (a9B b v hp c)];rw[AD d (a7g b v hp c) i (b3j b v (λr z=>⟨hp r z,((h r).mp z).an.ans⟩) c l)];have j:=b0w _ λx g=>DSE;rw[AGA f];rw[gX a k (a0y (rss:=rss) (cs:=cs) (mP b v).sum.toNat AG ⟨cT,λx g=>DSE,i,~~~a7Z j f⟩ (a4q F0 hw h1))];exact h2 a (B09 a e) k
def b3H{n:Nat}:E1H (A2K (L9 a rest).1 (y3 c c))
 |[],_,_,_=>KD
 |r::a,rest,d,e=>λc f=>by
  rw[BW0 b d];rw[D3N]
  .have:=a7S b e;rw[AZ A4V BN0]
  .exact b3H a _ (CLM g g) DFA c z
section
variable {P:qH}{w:World}{K:qF}{mg:BA}{base:Heap}
def b4T(n:Nat):DZY:=by
 induction n with
 |zero=>rfl
 |succ n a=>rw[C5N]
#where
#where
section
section
variable {P:qH}{w:World}{K:qF}{mg:BA}{base:Heap}
def a7J{x:Int}{H:Hp}{Q:VK}(a:BX5)(q:Q BXL H):a9a (kS x) H Q:=by
 rw[yK n n (x=n) x.toNat];rw[CK n rfl (DQ7 n) q]
def c7V{i:Nat}{σ:L2.St}{H:Hp}{Q:VK}{a:qE}{xs:qJ}(hσ:D68)(e:CZW)(d:xE)(f:A6G)(k:DVS):nH (tBM K "str" BQ4 (tC (oW " "))) (J9 (a6w [none] (c3E K (J7 i)) A8Y Q0 (DIS 0)) K9):=by
 rw[jC h]
 rw[FQ c (EI xs.map V.int<=8) List.length_map f]
 refine rV rfl _ hσ a (DX (SqT.of e)) ?_;rw[DO (vU (BG O1 vs YQ as xs (caps:=[]) (FE (BE7 V.str))) (AX 0xb8e24a012d7972923ce h c) (ZK e) (oV H1 m g b s1)) H1 p s1 j]
 .rw[nE b g g];exact DS (a7J (RU d x b) SG)
 .have hB:NY AOA (ANU 60):=λy l=>DVJ l (d x b)
  have h2:=a3a d f;rw[BRN ⟨bk,p,AOA,60,rfl,rfl,E41,hB,?_,by show EI vt xs<=_;rw[D4 0x236351960173c0f2e923ce h h2],GP (s1.upd j)⟩ y9];omega
/---/def a0e:Sp:=DOA v (vs=[v]/\ALQ v/\xE/\A6G/\DVS)
def a4N:DTN W6:={}
def a5l(F:UM "show_vector" W6 "one")(T:AW):DVL:=by
 rw[AJ4 a4N]
 rw[QR v xs]
 .rw[EOY (BU6 AG6
 BT8)]
  rw[EJN]
/---/def wtx(q:BT2):Str:=DA9++BNL ++ vt DM
/---/def wds(l:oU):AA:=rA l.filter A0A wtx
/---/def b5E(l:oU):Str:=BLY (wds l=[]) "0" E59
def a8I{l:oU}{i:Nat}{q:BT2}(h:DJ l q):wds (l.take AT)=wds (l.take i)++A1N B89 [wtx q]:=by
 unfold wds;rw[List.take_add_one,h,List.filter_append,List.map_append];congr 1;rw[nO B89]
 .rw[IG];simp[e]
 .rw[OI FZ];omega
def a7j(l:oU):DPB l.length:=by
 unfold wds;rw[AF List.length_map ZJ]
def c1m{q:BT2}(h:y3 CS CS)(h2:D4J)(a:D02<=8):EI wtx q<=551:=by
 unfold wtx;have h1:ABH CS:=BR2 EJ;have:=U9 (x:=CS) ⟨CD,h1⟩;have:=a3a h2 a;rw[C1,C1,show C11=3 by decide];omega
/---/def c9d(l:oU):Prop:=l.length<=400/\∀q∈l,(y3 CS CS)/\D4J/\D02<=8
def a9I:∀{ys:AA},BI7 551->BI3 wplus<=ys.length*554
 |[],_=>FF
 |RW,h=>by
  have:=vR;rw[YJ (x.length<=1*554)]
 |wW,h=>by
  rw[AD h1 vR a (a9I (ys:=fM) λz b=>BJU)];rw[U6,C1,C1,B4W];rw[CS5 a];rw[D4 0x246c7ea48d1bec3f845cdc5902e49d7207c15867 h1 a]
def c3V{l:oU}(h:c9d l):BT y A5W D4L/\DPB 400/\D1N A5W<=400*554:=by
 have h1:NY A5W D4L:=λy c=>by
  rw[LN q b c];have:=EJ q D1L;exact c1m A4V BN0 BGK
 rw[AD h2 (a7j l) a CD];have:=a9I h1;rw[AV h1 (AX 0xb1b4832b3b59f7028d6 h2 a) AG]
#where
#where
universe K51
namespace L2
open PySem PySem.Spec PyProof.Rows
/---/def c5v(C:qE)(m:Str)(sp:Sp)(ta:TE)(t:TA):TX:=λD R σ H=>XN ta x (∃a dx fs,x=BF/\BYW/\BYK/\QM t vs (sp CK6 H2 (λv H3=>D.rt v H3) λc _ H'=>∃C',c=AL C'/\R σ C' H'))
def c3f{X:Cx}{C:qE}{m:Str}{k:Nat}{ps:AA}{sp:Sp}{o e:Expr}{es:BH}{ta:TE}{t:TA}{qO qN pos:Pos}{pl:A6P}(O:CQV MethOkE)(c:pJ)(hr:aC)(he:AYC)(Z:FT)(i:C4A:=by exact fW z z)
  (y:DB:=by rfl) (w:QQ:=by rfl)
  (ht:QT (A0N m)=(do
   let ov <-eval o X.env
   standAt qO.atName
   let (f,first) <-holding [ov] (getMethod ov m pl)
   callWith qN f first (backTo qN (starEach (e::es) X.env)) (backToKw qN (keywordEach [] X.env))):=by rfl) :
  JX X [CLW (AC (A0N m))] (c5v C m sp ta t):=by
 refine⟨λqL s σ H D R I h=>?_⟩;obtain⟨f,fd,G,hb,F⟩:=O.ex;rw[aM wpAny_execs_cons wpAny_Return_some];rw[C7T (B79 (XS he.h) (DV u s1 A) i) ht E rx N A];rw[C52 rx E N G];rw[EJK G.kp (B79 (AVH Z.h qN E q) (DV j s2 A) i) y w];obtain⟨vs,H2,b,r,J⟩:=A;rw[RQ b.kIn];have K:RE (V.ref a::vs) D8M:=DBW;rw[C31 hl (BV D8M) K.length J]
 rw[cG d (hb s2 D8L b.kIn D8Y) List.append_nil d];rw[AEY (A7O (F.run X.A X.stack s2 H2 (MD D8L) _ _ _ _ hr b.env0 d K J) g)];cases r with
 |error e =>
  obtain⟨p,C,H',B,a0,h1,h2,P,Q,S,T,U,W,C',Y,n⟩:=g;cases Y;exact⟨σ,H2,s2,p,C,H',B,a0,h1,b,h2,P,Q,S,T,U,W,n⟩
 |ok fl =>
  cases fl with
  |ret u =>
   obtain⟨v,L,M,rv,q3⟩:=b.after g;rw[NG v σ L M rv q3]
  |next=>rw[NI g]
  |brk=>rw[NI g]
  |cont=>rw[NI g]
section
variable {M:Model}{A:Around}{E:qI}
def a5R{nm q s K:Str}{C N D x:qE}{bs bm n b:AQ}{hdct i:Bool}{sn u:AA}{sub l:AQ}{ab m:Bool}{col j:tV}{dd o:IY}{k0 k1 k2 k3 k5 F G H I J:SZ}{qQ a:String}
  {h:Heap}{g:uM}{d:Drawn}{t:Nat}{os:OsState}{e:qE}{w:Obj}{Q:x9}
  (y:DRQ) (v:iA D (AN6 s K D x n b i u l m j o F G H I J a)) (z:iA e w) (k:w.cls=HJ)
  (c:A2D b.contains) (r:E9R) (B:Q false B5D):C4Z (AOZ excMatches e D) B5D:=by
 have p:A2D (AE4 (Value.ref D) b):=by rw[DL2 c]
 rw[DZ0]
 repeat (first | rw[DCT z k]|rw[DLW v] | rw[DCU v p] | rw[DCU y r]|wp_step)
 exact B
#where
structure ClsN(K:qF)(D C:qE):Prop where
 d:C0L D
 ex:EPS E9R
/---/def c7Y(D C:qE)(tx:TX)(ts tu:TS):TS:=DR6 (λσ1 c H'=>(c=D/\C68 ts c)∨(c=C/\C68 tu c))
def c3i{X:Cx}{K:qF}{body:KL}{tx:TX}{ts tu:TS}{G J:Str}{np y nq A pos:Pos}{b0 b1:Stmt}{g i:KL}{D C:qE}(hN:ClsN K D C)(hx:DWC)
  (hg:KQ Gl) (hm:A4D G D) (V:IB J) (W:A4D J C)
  (Z:B6S JB b0 g ts) (a1:B6S JB b1 i tu) (hK:AS:=by rfl) (t:BYC:=by rfl) (U:B4B:=by rfl) (hd:A8D G:=by decide) (S:A8D J:=by decide) :
  JS X (C6O [C5C (.Name G np) b0 g y,C5C (.Name J nq) b1 i A]) (c7Y D C tx ts tu):=by
 subst hK;refine⟨pL N h ?_⟩;rw[EHB hx.h N]
 .cases f with
  |next=>rw[AWM q]
  |brk=>exact q
  |cont=>exact q
  |ret v=>exact q
 .obtain⟨σ1,H1,s1,p,c,H',B,a0,rfl,I1,hos,hbare,hU,hok,hp,fl,cov,k⟩:=q;rw[AD P (W1 fl) w fl];rw[t]at w;rw[EDL t U w o a2];refine JL wpAny_landsW o h5 d j;rw[<-t]at d;have j:=a2.trans j;have l:eM σ1 H' (A1U h5):=DA6 P cov cT j;obtain⟨oe,r,n⟩:=d.there;obtain⟨b3,q',a6,a9,a8,T,b4,a5,a7,a3,b2,j0,j1,j2,j3,j5,M,F,x,_⟩:=hN.d.ex;obtain⟨nm,qq,NN,bs,bm,a4,sn,sub,ab,col,dd,k0,k1,k2,k3,k5,qQ,E,R,Y⟩:=hN.ex;rcases k with⟨rfl,k⟩|⟨rfl,k⟩
  .rw[EO9 hg hm hd DAT x Z];cases f with
   |next=>rw[A7K]
   |brk=>rw[A7K]
   |cont=>rw[A7K]
   |ret v=>rw[C7W b b.unheld]
  .rw[BLK l.held hg hm hd];rw[EC (a5R DAU DAT r n) x Y];rw[EO9 V W S DAU R a1];cases f with
   |next=>rw[A7K]
   |brk=>rw[A7K]
   |cont=>rw[A7K]
   |ret v=>rw[C7W b b.unheld]
universe L2
namespace K51
open PySem PySem.Spec PyProof.Rows L2
section
def atc{x:V}{xs:AE}:atI EL 0=AC x:=B3Y
section
variable {P:qH}{w:World}{K:qF}{mg:BA}{base:Heap}
/---/def b6c:Sp:=DOA x (vs=RW/\AHD/\xI xs.sum)
def c1G:DTN b0N:={}
def c2D(F:UM "size" b0N "one")(T:AW):E4T:=by
 rw[AJ4 c1G]
 rw[QR x xs]
 .obtain⟨_,xs,rfl,⟨a,rfl,ha⟩,k⟩:=h;rw[GS (B4E NB)];exact⟨_,rfl,true,a,xs,rfl,FB ha,C4H k⟩
/---/def b0D:Sp:=AT5 x y Str (vs=[SK,BOG]/\A35 (if x=wd "" then y else x))
def b3Z:lN "text" "empty" "text" "empty" a4X:={}
def b4u(F:WG "filled" a4X "text" "empty")(T:AW):C65:=by
 rw[BM b3Z b a c]
 rw[QR x y]
 .rw[bX x y rfl k];rw[E4E CLP jv 0]
  .rw[cP (CZN V.str.inj)]at k;exact DS k
  .rw[AYL C2Z]at k;exact DS k
/---/def c4e:Sp:=BQ _ (∃(m:Int) (v:V) (xs:qJ),vs=eX m v/\(y3 m m)/\ALQ v/\xE/\A6G/\BF2 wtx DMJ)
def sc_show_times:A5Q ["many","one","vector"] "many" a0f:={}
def a6h(F:AFV "show_times" a0f "many")(T:AW)(a:DVL):E7N:=by
 rw[BM sc_show_times l j n]
 rw[B65 m v xs]
 .obtain⟨m,v,xs,rfl,hm,hv,hx,hl,k⟩:=h;rw[OR b]
  rw[BU (BX 2 sc_show_times.nd (AUA n.mono HX)
 (ZC c3s (DP R6 0 (AE3 (DP R6 2 a4x)))))]
  rw[SH ⟨_,rfl,v,xs,rfl,hv,hx,hl,AJD⟩];have d:ABH m:=BR2 hm.2;have c:AMM m.toNat 60:=U9 (x:=m) ⟨hm.1,d⟩;have e:=a3a hx hl;have g:C11=3:=by decide
  rw[OA AGK (show wtx DMJ=Str.empty++E9 m.toNat++BNL ++ vt xs by rw[V9];rfl)];rw[WW (DZ ⟨m.toNat,W0 (B26 m.toNat m),DQ7 m.toNat,A2T V9 0x6c602133597d1d8311f17d6e b c,BNL,rfl,OH V9 C1 (lq 0x5f443b6ac08072e9d87ad23b4043f11f17d6f b c g),_,rfl,EU (OX rfl (nT 0x6c6029db6472804735f17d6e b) EET EET this)⟩)]
/---/def c9f(w:Str)(zs:qJ)(n:Nat):Prop:=(w=wd "way"/\zs.length=n)∨(w=wd "lay" /\ ∃m xs,zs=m::xs/\A66/\CZE)
/---/def c4w:Sp:=BQ _ (∃(x:Str) (l:qE) (zs:qJ) (n:Nat),vs=[SK,FP,BK EY]/\GX l A48/\c9f x zs n/\BUS)
def b0J:UE (BDT "numbers" "width") "word" "numbers" "width" a3g:={}
def b1c{d:Tok}(F:RA "is_line" a3g ["word","numbers","width"])(T:AW)(a:BEX "GREATEST_MOST" 2000 d):EJ6:=by
 rw[BM b0J c b e]
 rw[mH x l zs n]
 .obtain⟨x,l,zs,n,rfl,hl,hL,k⟩:=h;rw[BU (A1 (D0G
 (FK (QZ a0C cD 2))
 B4)
 (A1 (D0G
 (FK (a6L (a0C cD (fT K4 2)) (a3T (c0b nJ (AOO (BK 2000) a)))))
 B4)
 LS))]
  rw[C72 hL h1 h1 h2]
  .refine TQ (E8 ⟨_,rfl,l,_,rfl,B05,_,rfl,rfl,?_⟩);rw[AF (BMM (by rw[gW h1])) (GP fC)]
  .refine AGP (AZD ⟨_,rfl,l,_,rfl,B05,_,rfl,_,_,rfl,rfl,rfl,_,rfl,?_⟩);rw[BMM (by rw[List.length_map,List.length_cons,h1];rfl)];rw[cI ⟨_,rfl,l,_,_,BN2,rfl,rfl,ALV,atc,_,_,rfl,rfl,?_⟩];show Q (A0J CZE) _;rw[AF (decide_eq_true h2) (GP fC)]
#where
#where
section
structure DkAt(C:qE)(H:Hp)(p:qE)(ns:AA)(rows:LLI):Prop where
 ex:C71 dx q (AQR (dfl n r s c q)/\BTO/\BZ3/\DFI/\B1C)
def DkAt.same{C:qE}{H H':Hp}{p:qE}{ns:AA}{rows:LLI}(h:D85)(s:BN):DT8:=by
 rw[B7A n t e a b d h.ex];exact⟨dx,n,r,t,c,q,e,CVZ,BOF,JU a,b.same s,d⟩
/---/def c1g(ns:AA)(js:GW):Str:=BLY (js=[]) "-" (JD (ATH js.map))
def a8m{rss:LLI}{xs:qJ}:∀{a:GW}{now e:qJ},EHM->∀j∈a,WZ
 |[],_,_,_=>KD
 |i::a,_,_,⟨DX h,g⟩=>λj b=>by
  rw[mO A5M]
  .exact(ATD a5h h).1
  .exact a8m g j z
def c3j{x:Str}{r:AA}(h:1<=x.length):JD wV≠wd "":=λz=>by
 have:=congrArg Str.length z;cases r with
 |nil =>
  change x.length=0 at this;rw[PR 0x6902125f842ce6d h]
 |cons y r =>
  rw[U6,C1,C1]at this;change BEF=0 at this;rw[NE 0xd3d7d36bb2fab36]
def c0Z{ns:AA}{j:Nat}(h:AFT):C3P ns.map QP sT:=J4 (by rw[DS0 ASQ ASQ])
def b1T{rss:LLI}{xs:qJ}{a:GW}(b:vP)(h:E5C AC7):BJ a.length=xs.sum:=by
 rw[OA (a9P a _ (a6v xs b) h) a7I];rw[NE 0x119033b274c6dbf65d5b757]
section
variable {P:qH}{w:World}{K:qF}{mg:BA}{base:Heap}{C:qE}
inductive Out where
 |ok (t:Str)|na|tm
/---/def Fin(CN CT:qE)(H:Hp)(Q:VK)(E:XK):WJ Out
 |.ok t=>oJ t
 |.na=>DFM CN
 |.tm=>DFM CT
def Fin.same{a b:qE}{H H1:Hp}{Q:VK}{E:XK}{o:Out}(h:Fin a b H Q E o)(s:IV):Fin a b H1 Q E o:=by
 cases o<;>exact AG8 (h H' (s.trans s'))
/---/def Rs3(m:Nat)(rss:LLI):Prop:=kW (r.length=m/\iW r (-3<=z/\z<=3))
structure Vo(ns:AA)(rss:LLI)(xs:qJ):Prop where
 N:OP
 xl:jG
 n1:A5X
 n7:ZQ
 r3:DS2
 v:D49
def Vo.rs{ns:AA}{rss:LLI}{xs:qJ}(h:XF):BUV/\Sm xs:=by
 rw[GF (AF4 b) x a]
 .rw[OK (h.r3 r b)];rw[AZ (h1.trans h.xl.symm) (λx a=>tF (h2 x a))]
 .rw[E7H]
/---/def WyO(ns:AA)(rss:LLI)(xs:qJ)(o:Out):Prop:=XF/\EJG DKR (vI/\xs.sum<=300/\∃js,DXH/\o=.ok (c1g ns js))
/---/def b6e(C CN CT:qE):Sp:=BQ E (B6X p z V ns AA xs (WH EZ z/\B32/\xS/\XF/\C58 BZY))
def a4e:A5Q BH9 "self" T9:={}
def b0X{tT:Tok}{CN CT:qE}(FM:WI "say_way" "Desk.say_way" T9 BH9)(U:aB)(T:AW)(a:BEX "GREATEST_WAY" 300 tT)(b:A7J)(m:E4T)(D:EEX CN)(l:C65)(OT:DJX CT):EEN CN CT:=by
 rw[IQ FM.fnE a4e a7 a6 Y]
 rw[mU p z ns rss xs]
 .rw[EGH z xs hz hV];rw[EAL F d Z u];rw[B7A n s' us e3 e4 e5 hD.ex];rw[OR a5]
  rw[BU (A1 (AJR (F8 K (AM3 (CWP b7P) BVV)) (U5 (GZ m Y.mono HX) (AOO (BK 300) a))
 (BLJ OT)
 B4)
 (FK (GZ l Y.mono (FU (A4N (kB (ATW "j" "self" (b3p D (CWP a5w) rfl BVV)
 (BHT "j")) (AP6 B0X))) ZB))))]
  refine EP8 z hz CQH F;rw[AD a0 CWH a1 BP3];cases L:A0O with
  |false =>
   exact C4 (EPX a0 a1 BSG CKG (DZ ⟨L,AG8 (k .na ⟨hV,zL L rfl⟩ H' (s1.trans s'))⟩))
  |true =>
  by_cases I:DKR
  .rw[EI3];rw[BO (iN I) E8 ⟨AEH,k .tm ⟨hV,DO5 L I⟩ _ (s1.trans s2)⟩]
  rw[EI0 hS u G u G 0x8ae04074001645820ce6fed2 I];rw[EI3];rw[AFK];rw[xA];rw[C51 (EPX BRF D04 CYJ (hz.same s2) (EU ⟨L,~~~b1D d n1,APY d Z,hR,hS,EX v g H3 s3 hG u⟩))];rw[DU va W u];have k:oJ DFF:=k (.ok DFF) ⟨hV,yX .inr ⟨L,BI 0x8761d046dfd16afeb6 I,g,hG,rfl⟩⟩;rw[AD O (b1T hS hG) R (a8m hG)];have s3:=s2.trans s3;rw[E3D M g g.length]
  refine B0O va W;rw[DO (DT5 g g (caps:=[WA]) (~~~lq 0x4e7f0953fc5c8997327f6bde60d89016727f69b7f9 a5 I O M) M W (E5N u X J)) H4 p4 J a4]
  .unfold cst at u;rw[C3G X u u];have J:=s3.trans J;exact EOV (AOT J) U.n1 n _ _ rfl (QA J e2) (c0Z (by rw[gY d R x (A0P X)])) DMA
  .have hB:NY (g.map (VZ sT)) (1<=y.length/\y.length<=8):=λy G=>by
    rw[LN j hj G];have a2:AFT:=by rw[gY d R j hj]
    have:=hN.nm sT (CRL a2);rw[AZ A4V BN0]
   have a3:vV D9D<=_:=M8 (c:=32) (B:=8) λy G=>DZK;rw[List.length_map]at a3;refine⟨bk,p4,D9D,8,rfl,rfl,E41,λy G=>DZK,by rw[gW y9];rw[D4 0x10196d432761ddfb8e107a8dbb323ca29fcc14510daa234d4d530a9a3f9afeb7 I O],AG,_,_,rfl,?_⟩;have:=GP (vJ s3.trans J.upd (g.map λj=>CEV) a4);rw[tH c1g];cases g with
   |nil=>rw[MZ]
   |cons j g =>
    rw[TD KJ];have e:¬JD (ATH (FC (j::g)))=wd "":=c3j (hB _ List.mem_cons_self).1;rw[AF FZ this]
#where
#where
section
variable {F W a rss:LLI}{cs:BY}{k m:Nat}{ns:AA}{xs:qJ}
def Wk.inv1{L:LLI}(h:jI)(e:k=1):E9K B4Q (F=BVI) (W=L):=by
 induction h with
 |one ri nd h=>exact EO ri nd h rfl
 |more h _ _ _ _ _=>rw[KA BW8]
def Wk.inv2{L:LLI}{k':Nat}(h:YD F W L k'):∀k,k'=DA->1<=k->∃a c b,YD a c b k/\AXZ/\E9K (∃u∈b,C8Z a) (F=a++BVI) (W=c++L):=by
 cases h with
 |one ri nd h=>intro k e d;omega
 |more h ne ri nd f =>
  intro k e d;obtain rfl:_=k:=Nat.succ.inj e;exact⟨_,_,_,h,ne,ri,nd,f,rfl,rfl⟩
def Wk.det{rss:LLI}{cs:BY}:∀(k:Nat) {F W L b c a:LLI},jI->YD b c a k->F=b/\W=c/\L=a
 |0,_,_,_,_,_,_,h,_=>tF BW8
 |1,F,W,L,b,c,a,h,g=>by
  obtain⟨d,e,f,i,j⟩:=h.inv1 rfl;obtain⟨l,m,n,o,p⟩:=g.inv1 rfl;rw[EN1]
 |k+2,F,W,L,b,c,a,h,g=>by
  obtain⟨r,w,t,a0,_,d,e,f,i,j⟩:=DS3 h.inv2;obtain⟨s,x,u,q,_,l,m,n,o,p⟩:=DS3 g.inv2;rw[DU rfl rfl (Wk.det DA a0 q)];rw[EN1]
def Wk.back{L:LLI}(h:jI):∀st,1<=st->st<=k->∃a c b G R,YD a c b st/\W=c++R/\F=a++G/\BT v G (BJ st<v.sum)/\(st<k->AXZ):=by
 induction h with
 |@one L ri nd h =>
  intro st h1 h2;have:st=1:= ADS 0x11c517f498d7b6272468e6d
  rw[UG];rw[EM2 (.one ri nd h)]
 |@more F W L L' k h ne ri nd d i =>
  intro st h1 h2;rw[KB st DA]
  .rw[DG];rw[EM2 (.more h ne ri nd d)]
  .obtain⟨a,c,b,G,R,g1,g2,g3,g4,g5⟩:=i st h1 (~~~b1G h2 e);refine⟨a,c,b,G++CMG,R++L',g1,CY3 g2,CY3 g3,tU g,lL⟩
   .rw[BFI]
    rw[IJ g4 v]
    .rw[UP hu hx ((d v).mp BS8)];have:=lT b3b (h.lv.1 u hu) hx;rw[PM this]
   .rw[BP e2 st k]
    .subst e2;rw[BM5 f h g1];rw[KP f ne]
    .exact g5 AG
def Wk.stop{b d c:LLI}{st:Nat}(h:oO)(g:DWS d):st<=k:=by
 rw[AGA a];obtain⟨i,j,L2,G,R,g1,_,_,_,f⟩:=g.back k BW8 (nR 144439478486);rw[BM5 e h g1];exact f (nR 157932406998) e.symm
def c7O{b c:LLI}{st:Nat}(h:oO)(g:DWS a):u8 W.length:=by
 obtain⟨f,i,L2,G,R,g1,d,_,_,_⟩:=h.back st D7J (h.stop g);obtain⟨_,e,_⟩:=BVU g1;rw[d,e,List.length_append];exact a3p
def c5r{b:LLI}{st:Nat}(h:oO)(g:YD a b [] st):F=a/\W=b:=by
 have e:k=st:=Nat.le_antisymm (g.stop h) (h.stop g);rw[DG];obtain⟨e1,e2,_⟩:=BVU h;rw[AZ e1 e2]
def c4N{α:Type}[D5P]:EH4
 |[],b,_,_=>FF
 |A5P,b,e,h=>by
  rw[EP0 c4N]
def b4w{a:Int}(h:oO)(f:BJ W.length<=a):¬b5D rss cs a:=by
 rintro⟨u,A,y,st,g,r⟩;have b:=c7O h g;rcases r with q|⟨ne,d,nd,p,q⟩
 .exact lq 0x62c1df18c6ef38758 f b q
 .have hst:=h.stop g;have c:st<k:=by
   rw[CM (Nat.lt_or_ge st k)]
   .exact z
   .have e:st=k:=Nat.le_antisymm hst z;rw[DG];rw[BM5 e g h];rw[FO e ne]
  obtain⟨w,B,L2,G,R,g1,m,_,_,_⟩:=h.back (st+1) A3T c;obtain⟨t,i,x,a0,_,_,_,j,_,l⟩:=g1.inv2 st rfl D7J;rw[DU rfl rfl (BVU a0)];have n:d.length<=L2.length:=c4N d L2 nd λv s=>sJ j v (p v s);have o:W.length=i.length+L2.length+R.length:=by rw[m,l,List.length_append,List.length_append]
  exact lq 0x6c7b61b5f81e7a5af75e90333117e1ae375b f q n o
section
variable {P:qH}{w:World}{K:qF}{mg:BA}{base:Heap}{C:qE}
def c5s{l:oU}(h:FW A5W):E59≠wd "":=λz=>by
 have b:C11=3:=by decide
 have a:EQ A5W (3<=x.length):=λx a=>by
  rw[lR q A43];rw[cH wtx C1 C1 b];rw[SJ 0x11544469f313ccb8e]
 cases e:A5W with
 |nil=>exact h e
 |cons x r =>
  rw[cG h1 (a x (AOU List.mem_cons_self)) e z];have h2:D1N wV=0:=fZ Str.length z;cases r with
  |nil =>
   change x.length=0 at h2;rw[AIR 0x6902125f842d48d]
  |cons y r =>
   rw[U6,C1,C1]at h2;rw[AIR 0x23c284c4ac74bfe4b49448f]
def c1q(n:Nat)(xs:qJ):AY (Wi ADU xs):=by
 unfold Wi;induction n generalizing xs with
 |zero=>rfl
 |succ n a =>
  cases xs with
  |nil=>rfl
  |cons x xs=>rw[List.replicate_succ,List.zipWith_cons_cons,List.all_cons,a];rfl
def b3K(h:oO)(b:BG0 200):HK W (v.length=cs.length/\B28 v/\AXL):=λv c=>by
 obtain⟨j,d,l,m,n,o,e,p⟩:=h.lv;obtain⟨i,f,g,lv⟩:=d v c;rw[DN lv.len (λx a=>GD (lv.nn x a)) (AYN a5C f)];rw[OA (b3c lv.nn x a) lv.sum];exact lq 0x1b449ca03d1fcec9a24e8a0057d652f19 b e g this
/---/def Td(n:Nat)(rss tss:LLI)(m:Nat):Prop:=∃F W k,Wk rss ADU F W [] k/\BG0 m/\BVQ/\xU
def Td.ok{n:Nat}(h:B2J)(f:dL)(hR:B01):BT v a (v.length=n/\B28 v/\AXL)/\(vT a (Least rss ADU v))/\u8 200:=by
 rw[RZ F W k c e b i];have d:=b3K c (nT 0xaf3b755088bdda82f66 f);rw[DN (tU j) (λv=>b.mem_iff.trans (c.least (λr g=>ASH (hR r g)) v)) ?_]
 .have:=d v (W1 c.lv v (b.mem_iff.mp j)).1;rw[wF List.length_replicate]
 .rw[b.length_eq];rw[KA (A20 c.lv)]
def Td.part{n:Nat}(h:B2J)(c:dL)(hR:B01):HK a (a3F n v):=λv d=>by
 rw[NA h1 h2 b ((h.ok c hR).1 v d) h1 (ASR e h2 e) b]
def Td.one{n m':Nat}{e b:LLI}(h:E5P e)(h':Td n rss b m'):e=b:=by
 rw[RZ F W k g p c f];obtain⟨l,o,k',i,j,a,d⟩:=h';rw[QU rfl (c5r g i)];exact a2C f d (c.symm.nodup g.nd.2) (a.symm.nodup g.nd.2) λv=>c.mem_iff.trans a.mem_iff.symm
def Td.not{n:Nat}(h:B2J):¬DIZ:=by
 obtain⟨F,W,k,c,b,_⟩:=h;exact b4w c (~~~b8s b)
def Vo.rest(h:XF):a1N ns.length xs:=⟨h.xl,λx a=>by
 rw[E7H]⟩
def Td.zero(h:BVP)(d:dL)(c:XF)(e:vI):(mP a xs).sum=0:=by
 rw[C43 b c.r3 b];exact BG b9W rss rss cs BKM (A5E h.ok d hR) (λr b=>ASH (h.part d hR r b)) (ASH c.rest) e (c1q _ xs)
def Td.lw(h:BVP)(d:dL)(b:XF):BR9 c9d:=by
 rw[C43 i b.r3 i];rw[C08 (h.ok d hR)];rw[GF (A6H List.length_zip 0x119004fbac2fc74b8c82f66 h2) q g];obtain⟨j,k⟩:=List.of_mem_zip g;obtain⟨f,c,_⟩:=h1 DM k;rw[AV (b3H a xs (h.part d hR) b.rest CS j) (λx e=>AEP (A26 c e) (AC3 c e)) (by rw[f];rw[A2Q b.n7 b8z])]
/---/def LyO(ns:AA)(rss:LLI)(xs:qJ)(m:Nat)(o:Out):Prop:=XF/\dL/\EJG (CN0 BKM) (vI/\∃tss,Td ns.length rss tss m/\o=.ok (b5E (B9R tss tss)))
/---/def b6f(C CN CT:qE):Sp:=BQ E (∃(p:qE) (z:V) (ns:AA) (rss:LLI) (xs:qJ) (m:Nat),vs=[EZ,BK MV,z]/\B32/\xS/\XF/\dL/\C58 B6V)
def sc_Desk_say_lay:UE ["self","most","one","told","parts"] "self" "most" "one" U0:={}
def b0Y{CN CT:qE}(FM:WI "say_lay" "Desk.say_lay" U0 (lK "most" "one"))(U:aB)(T:AW)(d:A7J)(n:C33)(l:C6R CT)(u:C5F)(b:E7N)(g:C65)(OC:CQJ "NoAnswer" CN):EJ8 CN CT:=by
 rw[IQ FM.fnE sc_Desk_say_lay b5 b4 D]
 rw[XG p z ns rss xs m]
 .obtain⟨p,z,ns,rss,xs,m,rfl,hD,hz,hV,hm,k⟩:=h;rw[B7A n' s' us e3 e4 e5 hD.ex];rw[OR a3]
  rw[DU za I hz];rw[BG5 G a5];obtain⟨hN,B,n1,n7,_,_⟩:=BHY;rw[C43 D hV.r3 D];rw[BU (A1 (pI (AFO d D.mono 176430604 (FU KY IZ))
 DE2
 B4)
 (BX 3 sc_Desk_say_lay.nd (AL1 (b3p l (BP8 D.mono) rfl (VU KY (GZ n D.mono (AFB IZ)) HX)))
 (A1 (DGU 4 sc_Desk_say_lay.nd "many" "part" (A8Z (FU (GZ u D.mono (AB0 IZ)) gZ))
 (bU CLC CLC) BXT (HS (BTR D.mono)))
 (FK (GZ g D.mono (FU (A4N wO) ZB))))))]
  refine EP8 AWP (AY8 I) (λt ht=>AH (gB G ht) (a2h B n7)) a5;cases hA:A0O with
  |false=>exact E8 ⟨AEH,k .na ⟨hV,hm,zL hA rfl⟩ _ s1⟩
  |true =>
  rw[xA];refine EOV CWH U.n2 za rfl (UA AYF) _ wE (IF (lq 0x48ca82f199dc5046de9426456 B n7)) (B22 pc hc);rw[List.length_map,Int.toNat_natCast,B]at hc;rw[B3V];rw[B]at G;refine⟨_,rfl,r,pc,rss,BKM,m,_,rfl,rfl,EGY D04 CYJ AOD hc G,?_,λq t pp zs a ws F' W' k' H3 J hq ht hI Y a0 b8 b6 a6 W=>?_,DV H3 J ho⟩
  rw[EMM fE]
  rotate_left
  .exact k .tm ⟨hV,hm,DO5 hA ho⟩ _ (s2.trans J)
  have R:BVP:=⟨F',W',k',a6,W,Y,a0⟩;have k:oJ (BR9 b5E):=k (.ok _) ⟨hV,hm,yX .inr ⟨hA,a,R,rfl⟩⟩;obtain⟨b7,_,a2⟩:=R.ok hm hR;have S:QK (rT a)=a.length:=BR a5Z;have O:=R.lw hm hV;rw[SH ⟨q,_,_,bZ,rfl,rfl,FB hq,rfl,?_⟩];rw[AD J (s2.trans J) F vD];refine⟨_,rfl,_,rfl,t,AWP,zs,a,xs,ns.length,rfl,⟨ht,hI,AY8 (AD4 J),~~~b9v a2 F,n1,AUJ,R.part hm hR,hV.rest⟩,R.zero hm hV hA,λpl H4 L X=>⟨_,rfl,true,true,pl,t,rfl,KU X,KU DMG,?_⟩⟩;rw[AD a4 (hI.same L) b2 DMG];have L:=J.trans L;refine BG O3 k1 true k2 true (xs:=TC (rT a).map) (zs:=zs) (AGL 0x11c692ec7037e8162a88277aa11df17d6f a3 a2 S) (DZU (ys=zK wds (bE APD a) i V.str)) (ZA fC) (ANR ys h ⟨AQE X,AQE b2,BBL EJ (BSV a7j YX)⟩) ?_ ?_
  .rw[BC6 ys H5 p5 hz5 s5 hp5];rw[aR y b0 K8 hx];obtain⟨r1,b9,b1,M,rfl,b3⟩:=a4.mem hz5;rw[DR1 Z (DJ ((APD a)) (y,r1)) b0];have a1:=a8I Z;obtain⟨a7,a8,a9⟩:(y3 y y)/\Sz r1/\r1.length<=8:=nQ O.2 Z;rw[GA s6 s5.upd (NS CN8) hp5];refine u7 p5 CN8 A0 (BK y) (AAP M) BDV [];rw[A4F]
   .match j,e with
    |0,e=>rw[CG]
    |1,e=>rw[CG]
    |j+2,e=>exact e
   refine A7B
   .have e:0<y:=dD;refine⟨_,rfl,_,rfl,y,BDV,r1,rfl,a7,CU M (AI s6 b3),a8,a9,λH7 s7=>GD (s6.trans s7)⟩;rw[a1,IG,List.map_append];rfl
   .rw[BVJ (0<y)];rw[AZ s6 (D4Q a1 FZ)]
  .rintro ys H5 ⟨s5,rfl⟩ p5 hp5;rw[List.length_map,S,F,Nat.min_self,E4C]at *;rw[D2 f1 f2 f3 c3V O];rw[CW ⟨rfl,_,rfl,wplus,p5,_,551,rfl,rfl,KZ,f1,TW B4W,~~~b9d a3 f3,_,_,rfl,?_⟩];have:=GP (DMX (o:=JQ (zK wds APD a)) hp5);rw[tH b5E];rw[KB (BR9 wds) []]
   .rw[TD IG];rw[e]at this⊢;rw[MZ]
   .rw[TD FZ];rw[AF (CE1 c5s) this]
#where
#where
section
section
variable {P:qH}{w:World}{K:qF}{mg:BA}{base:Heap}{C:qE}
/---/def c2u:Out->Str
 |.ok t=>t
 |.na=>wd "no answer"
 |.tm=>wd "too many"
/---/def Ask(ns:AA)(rss:LLI)(x:Str)(zs:qJ)(o:Out):Prop:=E9Y (CHD zs) (zs=BYE/\B6V)
/---/def AskP(ns:AA)(rss:LLI)(x:Str)(zs:qJ):Prop:=E9Y (C8L zs) (zs=BYE/\XF/\dL)
def AskP.ln{ns:AA}{rss:LLI}{x:Str}{zs:qJ}(h:C67):c9f x zs ns.length/\zs.length<=8/\CRF 60/\DEK:=by
 rw[C72 h a a b]
 .have:=a.n7;rw[CK (AFL a.xl) (IU a.xl b8z this) AK AK]
 .have:=a.n7;have:=a.xl;rw[CK (DZ (iY MV xs rfl a.xl (wQ 0xe7fce5060a1d7c36f65))) BQX AK AK]
def c3C(zs:qJ):NU (inV .non (zs.map V.int)):=by
 rw[EA inV List.any_eq_false];intro v a;rw[lR z A43];intro h;cases h
/---/def c4m(C CN CT:qE):Sp:=BQ E (∃(p l:qE) (x:Str) (ns:AA) (rss:LLI) (zs:qJ),vs=[EZ,SK,FP]/\B32/\GX l CJ8/\C67/\C58 E77)
def a4R:UE ["self","word","numbers","found"] "self" "word" "numbers" X6:={}
def b4p{e g:qE}(u:WI "say_by" "Desk.say_by" X6 (lK "word" "numbers"))(U:aB)(T:AW)(d:UR)(b:EEN e g)(a:EJ8 e g):EJ9 e g:=by
 rw[IQ u.fnE a4R v j t]
 rw[XG p l x ns rss zs]
 .obtain⟨p,l,x,ns,rss,zs,rfl,hD,hl,hA,k⟩:=h;rw[OR B]
  rw[BU (A1 (E4O
 (ZC (b3n b d (NR t.mono) DR) IZ)
 B4)
 (A1 (E4O
 (ZC (b3n a d (KS t.mono b1h) DR) (wK ABF (a9L K MX APC G6)))
 B4)
 (AXJ
 (AXJ
 (AXJ
 (AXJ
 LS))))))]
  rw[C72 hA i i y]
  .rw[EMV n];exact AZD ⟨_,rfl,p,dx,_,rfl,e1,rfl,_,rfl,p,FP,ns,rss,zs,rfl,hD,CU l hl,i,λo h=>k o (.inl BOM)⟩
  .rw[EMV n'];refine TQ (C4 (AZD ⟨_,rfl,p,dx,_,rfl,e1,rfl,_,rfl,l,_,_,_,rfl,rfl,CTY,atc,_,rfl,1,rfl,l,_,rfl,CTY,RB h,BB q z⟩))
   .rw[List.length_map,List.length_cons,EBL,HT.sIx_nat]at h;rw[DQ 0x282f0390d846f7ea6d CD]
   rw[ZP RT z];rw[List.map_cons,a1H];exact⟨p,AL q,ns,rss,xs,m,rfl,hD.same s1,D3O,i,y,λo h=>(k o (DZ (EO rfl m xs h))).same s1⟩
/---/def b2I(C:qE):Sp:=BQ _ (B6X p x Str ns AA zs (WH EZ (.str (ln x zs))/\B32/\C67/\BT z zs (0<=z/\z<=topN)/\ATG o E77 (TH (zT c2u o))))
def sc_Desk_say:IP ["self","line","words","numbers"] AZA a2d:={}
def c6I{tT:Tok}{J L:qE}(FM:WI "say" "Desk.say" a2d AZA)(U:aB)(T:AW)(j:UR)(m:DJC)(b:B7D)(g:EJ6)(a:EJ9 J L)(hN:ClsN K J L)(d:A0Y "NoAnswer" J)(e:D25 L):kO "say" 10 AZA b2I:=by
 rw[IQ FM.fnJ sc_Desk_say a3 a2 R]
 rw[mU p x ns rss zs]
 .rw[EGH x zs hA hz];have hu:=R.u60;rw[OR G]
  obtain⟨hL,F,B,y⟩:=hA.ln;obtain⟨dx,n',r,s',c,q,us,e1,e2,_⟩:=hD.ex;have W:Sz zs:=λz hm=>AEP (hz z hm).1 (hz z hm).2;have X:=c6S B W F;rw[BU (A1 (pI (QV a6n T.b_isinstance (AZ5 (c7k (v:=.ty "str") rfl T.b_str c0W rfl)))
 LS
 B4)
 (BX 2 sc_Desk_say.nd (DMM HY)
 (A1 (cJ 3 sc_Desk_say.nd (N:=["word"]) (src:=[none]) (A5F (a2P K MX APC G6))
 D2Y XU (HS (AM3 (rD R.mono 177659916) (AG1 (B1T m)))))
 (A1 (E02 (b1M K J5 WO CH) (fL g R.mono b7S (FU D0Y (AB0 (AFB sW))))
 LS
 B4)
 (A3 (c3i hN (c3f a j (KS R.mono b7T) DR (wK D0Y (aZ gZ))) rfl d rfl e CVA CVA))))))]
  rw[GV ⟨_,rfl,_,_,_,true,rfl,WU,rfl,_,rfl,AZE⟩ ⟨_,rfl,rfl,_,bk,rfl,rfl,AK,AX 0x243a0e225d094b5517332df17d6e G X,AB2 Z⟩];rw[b9U y]at *;rw[ZP AVA Z];rw[NF f1 H p1 AVA p1 AVA];rw[AE2 (fG p1 AVA) f1];rw[CW ⟨_,rfl,1,rfl,p1,_,rfl,EE f1,λp2 a0=>GO p2 (DX KZ) ?_⟩];rw[BG4 a1H];rw[B3J AV7 a0];rw[NF f2 H1 p2 AV7 p2 AV7];rw[mB H1 p2 AV7 H2 s2 f2];rw[DO (C1Z ((zs.map C9).map V.str) zs (λz=>CI z) (by rw[BI8];rw[D4 0x2363502a39b59e39f17d6e G F]) (IC List.length_map List.length_map) (A69 f2) rfl (λi v z M Q3 hv D s3 k3=>?_)) M u s3 a1]
  .rw[C3G D hv hv];have I:=RU hz z D;exact OD _ rfl z I.1 I.2 k3
  rw[GA l s3.upd A48 a1];rw[NF O M u A48 u A48];show(A0X _) _ (upd M u A48);rw[mB M u A48 H4 l O];rw[ZV l (s2.trans l) g1 l f1];rw[AOX l l];rw[CW (ZM u _ rfl (WK O) rfl (a6R _) _ rfl ?_)];rw[BS5,c3C];rw[cQ ⟨_,rfl,p1,_,_,SK,rfl,rfl,EE g1,atc,_,rfl,_,rfl,p,C,dx,_,_,rfl,AOT l,U.cl,U.n1,rfl,n',_,rfl,UA (AI l e2),x,u,zs,ns.length,vC List.length_map,O,hL,λH5 s5=>DS AZE⟩];rw[iF s6 l.trans s5 ⟨_,rfl,p,dx,_,rfl,AOT s6,rfl,_,rfl,p1,_,_,SK,rfl,rfl,ZY s5 g1,atc,_,rfl,u,_,rfl,kF (ZY s5 O) q hq⟩];rw[GA S s6.upd CJ8 hq];refine⟨p,q,x,ns,rss,zs,rfl,hD.same S,A0,hA,BB o Y⟩;cases o with
  |ok t=>exact AG8 (k _ H' Y (S.trans s'))
  |na=>exact AG8 (CU J (AFL EJD))
  |tm=>exact AG8 (CU L (DZ (FN EJD)))
/---/def b2L(C:qE):Sp:=BQ _ (∃(p dx:qE) (L:ES) (d:Dr),WH EZ DPO/\BWF/\nX/\C2M/\BX2/\BZ2 L/\A6B/\d.rows.length<=6/\∀(H':Hp),DkAt C H' p d.names d.rows->(vY H')->A9H)
def sc_Desk___init__:IP (lK "text" "system") AZB O5:={}
def b7y(G:WI "__init__" "Desk.__init__" O5 AZB)(U:aB)(e:ECQ):kO "__init__" 11 AZB b2L:=by
 rw[IQ G.fnJ sc_Desk___init__ I B J]
 rw[mH p dx L d]
 .obtain⟨p,dx,L,d,rfl,hp,h0,hw,h9,m,h7,h2,k⟩:=h;rw[OR M]
  rw[BU (BX 2 sc_Desk___init__.nd (AFO e J.mono 178280060 HX)
 (B1N
 (B1N
 (B1N
 (B1N
 (AY4 ABF))))))]
  rw[SH (ZM L d rfl h0 hw h9 m h7 (BS v H1 m s1))];obtain⟨a,n,r,t,c,q,N,rfl,e1,e2,D,l,O,R,S⟩:=m.ex;have j:=BP0;have ne:∀{b:qE}{xs:AE},E33 b->kU:=λh z=>by rw[z,j]at h;cases h
  have st:∀{H2:Hp}{o:HO},(B56 (pY H2))->B56 (DVQ H2):=λh b u y g=>ID g (h b u y g)
  have k0:B56 CBS:=E4R;rw[iF na ne e1 (CCX BNG j U.n1 AK)];rw[B7B k1 (CNU n) k0 k1 U.n2 1];rw[B7B k2 (aT BB3) k1 k2 U.n3 2];rw[B7B k3 (AON "sides" t BB3) k2 k3 U.n4 3];rw[B7B F (aT CHK) k3 F U.n5 4];rw[GA k5 st (AON "prices" q CHK) F];refine GP ⟨dx,n,r,t,c,q,N,A0,AO k5 e2 (ne e2),AO k5 D (ne D),⟨l.1,λi v h=>let ⟨x,h1,b,h2,h3⟩:=l.2 i v h;⟨x,h1,b,h2,AO k5 h3 (ne h3)⟩⟩,AH l.1 h2⟩ (PU y g (AO k5 (HZ y) g))
#where
#where
section
section
variable {P:qH}{w:World}{K:qF}{mg:BA}{base:Heap}
def c0B{α:Type}(x:α)(b:Bool):YW ((MF BWX)) RW=A1N u9 RW:=by
 cases b<;>rfl
def a8M{i:Nat}{σ:L2.St}{H:Hp}{Q:VK}{l:qE}{ts:AA}{x:Str}(hσ:BBG AX8)(q:D9Q)(r:ts.length<=400)(k:B2I (BAG (BDS RW ts))):A2G tOp c5S uB (tOp c5P (b3Q (J9 C1A K9)) (tCB c5R (J9 (DV5 B1L uB) K9))):=by
 rw[OR h]
 refine UB hσ (A8I 1 b8r h) (λp1 e=>UB hσ FF (BMX a));rw[AD s1 (iG (o:=CC AMQ) e) s2 (s1.upd (o:=CC []) a)];have e1:upd CL6 p2 eY p1=CA .lst AMQ:=Y8 A0 a;have n:C1O DVC FP p2 CU8:=EEI EqV.strs (AFE q);rw[AER DVC s2 e1 n];have s:∀b:Bool,0<=(BWX)/\(BWX)<=1:=by decide
 rw[A3S w (AKH s rQ)];refine⟨1,_,AK,n,AJK,DZ ⟨CU8,rfl,p1,_,_,rfl,rfl,e1,AG,AG,DX4,BB d f⟩⟩;rw[c0B];rw[A5O j (CC AVM) f];rw[JH m H2 d AVM d AVM];generalize WX d AVM=u at j m;refine⟨l,d,_,_,rfl,rfl,AWS q,m,?_,λt g=>k t _ (j.upd g) ?_⟩
 .rw[List.length_map];split
  .rw[dR (_+1) 0xbe408d953abf00cdd7269b7a6 r h]
  .rw[dR (_+0) 0x2458fb49784e526976cd7269b7a6 r h]
 .rw[A0];rw[BP c ts []]
  .rw[nZ,if_pos (decide_eq_true c),c];rfl
  .rw[A5U,BBN c,List.append_nil]
/---/def c4u:Sp:=BQ _ (nP l ts AA (WH FP (A3P bk)/\D9Q/\ts.length<=300/\ACK D0B/\oJ (BLY rQ "-" CZP)))
def a4P:lN "_law_texts" "_law_between" "_law_texts" "_law_between" X2:={}
def b4t(F:WG "_law_listed" X2 "_law_texts" "_law_between")(T:AW):ECG:=by
 rw[BM a4P g d i]
 rw[QR l ts]
 .rw[RZ l ts rfl hl hn h8 k];have j:=i.u60;rw[OR m]
  rw[GS (V7 K HY (CZ (DP c5h 0 (DX7 (c0d K j DR B1V)))))];refine AFY _ ?_;rw[DO (a8M rfl hl (BI 0x2128661888d330a5 hn)) p H' s' e];have a:hY (E52) D0B:=by
   split
   rw[DLQ t ht ht]
   .exact h8
  have b:BV BZK<=300:=by
   split
   .show 1<=300;decide
   .exact hn
  have k:=k H' s';rw[show MM rQ (wd "-") CZP=JD BZK by split<;>rfl]at k;have:vV BZK<=_:=M8 (c:=32) (B:=8) a;exact⟨bk,p,E52,8,rfl,rfl,CTM,a,A6H y9 0x77500fef5c797e320881d0fe635bd833b0d0a499b30a5 b,AG,k⟩
def a4O:bQ ["_law_one"] "_law_one" X1:={}
def b4o(F:UM "_law_vector" X1 "_law_one")(T:AW):C34:=by
 rw[AJ4 a4O]
 rw[QR v xs]
 .rw[EOY (A2F "_law_number" AG6
 (tX "_law_number"))]
  rw[EJN]
/---/def FoT(n m:Nat)(rss:LLI)(H:Hp)(v:V):Prop:=(v=.non/\DIZ)∨∃t zs tss,v=bZ/\DBU/\AJH/\E5P tss
/---/def c5C:Sp:=BQ _ (∃(ra:qE) (us:AE) (rss:LLI) (n m:Nat),A5Y BMG (BK EY) MV/\fN ra us/\SN/\B1C/\Rs3 n rss/\x8/\n<=7/\dL/\BA4 BY5)
def sc__law_least:UE ["_law_rows","_law_width","_law_most","_law_found"] "_law_rows" "_law_width" "_law_most" a0n:={}
def c8M{a:qE}(C:RA "_law_least" a0n ["_law_rows","_law_width","_law_most"])(T:AW)(e:C33)(d:C6R a)(b:D25 a)(c:C0L a):C7E:=by
 rw[IQ C.okJ sc__law_least D v B]
 rw[mU ra us rss n m]
 .obtain⟨ra,us,rss,n,m,rfl,ha,l,hl,h3,n1,n7,hm,k⟩:=h;rw[BU (BX 3 sc__law_least.nd J5
 (A1 (c0e K (c0a K (i:=3) d (BP8 B.mono) rfl sc__law_least.nd rfl (Or.inl rfl) (VG (FU (GZ e B.mono HX) IZ))) rfl b c (CO ((BNY 3 sc__law_least.nd J5))))
 (AP4 3)))]
  have o:DFB:=λt j=>⟨gB h3 j,ASR O (h3 t j).2 O⟩;refine⟨_,rfl,_,rfl,_,rfl,wE,BI 0x4d5c44b53a3ccfb65 n7,B22 R z⟩;rw[Int.toNat_natCast]at z;refine⟨_,rfl,ra,R,rss,ADU,m,_,rfl,rfl,EGY (WE ha) (l.same s2) (~~~X8 hl) z o,?_,λq t S zs y U F W k' H' s' N j l r u M G I g=>?_,λH' s' J=>AFY a (A41 L)⟩
  rw[EMM FJ]
  .exact⟨q,_,0,bZ,rfl,rfl,FB N,rfl,_,rfl,AO k (s2.trans s') (DZ ⟨t,zs,y,rfl,j,l,F,W,k',I,g,r,u⟩)⟩
  .exact DS (AO k (bH s2.trans s' L) (AFL J))
/---/def c5E:Sp:=BQ _ (B6X a y V us AE ys (vs=A4X y/\aE/\SN/\eB/\dF/\B0Z/\A6W/\D5A))
def a4b:DRF "_law_rows" "_law_rows" T5:={}
def c8Q(F:WG "_law_answers" T5 "_law_rows" "_law_one")(T:AW):C66:=by
 rw[BM a4b l g b]
 rw[BZP]
 .rw[C7Y e hl];rw[GS (E3F (VS "_law_row" "_law_one" rX AG6
 (CZZ "_law_one")) (C20 (APN "_law_number" "_law_many"
 (bU CLV CLV)) D6I))]
  rw[EGI CE8 hl j b ?_ d]
  .rw[DU va hva m];rw[hH n c e.same s1];refine ANP true va n (KU hva) c;rw[DO (EG1 (hl2 r b) (BC2 hva c) e e) H2 p s d];rw[AJ5 (x*y)];rw[APP p rfl];rw[AF (show iP (A2A (List.zipWith (rC (x*y)) r ys).sum) BNI from decide_eq_decide.mpr ⟨λz=>AXW,λz=>fZ V.int z⟩) (q _ (s.upd d))]
  .rw[B36]
   .rw[A7T]
   .rw[OA (GP (A53 s.upd CK0 d)) (show BJ0=cU CK0 trV from ?_)]
    .exact this
    .rw[Bool.eq_iff_iff,ans_iff,List.all_map,List.all_eq_true];rw[AZ (B5X b decide_eq_true b) (B5X b of_decide_eq_true b)]
#where
#where
section
section
variable {P:qH}{w:World}{K:qF}{mg:BA}{base:Heap}
def OkE.no{P:qH}{w:World}{K:qF}{mg:BA}{base:Heap}{x:Str}{k:Nat}{ps:AA}{sp:Sp}(O:C62 k):HR x k ps (BQ _ (B5L (sp vs H Q))):=by
 rw[DVX d c];refine⟨f,fd,h1,h2,d,⟨λvs H Q E h=>TJ c.len h,λA a s H b m vs Q E j i g l hs=>(A7O (c.run A a s H b m vs Q AJO j i g l hs) h)⟩⟩;cases r with
 |error e =>
  obtain⟨_,_,_,_,_,_,_,_,_,_,_,_,_,z⟩:=h;exact z.elim
 |ok fl=>cases fl<;>exact h
structure SyT(H:Hp)(v:V)(ns:AA)(rss:LLI):Prop where
 ex:C71 a p (v=BF/\EKS/\BTO/\BZ3/\SN/\B1C)
def SyT.same{H H':Hp}{v:V}{ns:AA}{rss:LLI}(h:A7P)(s:BN):E7O:=by
 obtain⟨a,n,r,t,c,p,g,e,e1,e2,b,d,f⟩:=h.ex;exact⟨a,n,r,t,c,p,g,e,CVZ,BOF,JU b,d.same s,f⟩
/---/def c5B:Sp:=BQ _ (∃(v z:V) (ns:AA) (rss:LLI) (xs:qJ) (o:Out),WH v z/\A7P/\xS/\BZY/\DVT)
def a4a:DRF "_law_system" "_law_system" T3:={}
def c8K{CN:qE}(F:WG "_law_way_due" T3 "_law_system" "_law_one")(T:AW)(b:C66)(q:AKB base "way" 5 t7 (BQ _ (B5L (b6b CN vs H Q))))(d:ECG):EHJ:=by
 rw[BM a4a a2 a1 Z]
 rw[XG v z ns rss xs o]
 .obtain⟨v,z,ns,rss,xs,o,rfl,hS,hz,⟨hV,hO⟩,k⟩:=h;rw[EM6];rw[OR a0]
  rw[EAL G e n7 l];rw[DU C g hz];rw[BU (A1 (pI (uH Z.mono BVW)
 ADD
 B4)
 (A1 (A6T U5 (B4E HX)
 ADD
 B4)
 (FK (DFE (FU (ATW "_law_j" "_law_system" (fL q Z.mono a5w BVW)
 (YR "_law_j" "_law_system") XU (HS (AP6 BR4))) ZB)))))]
  refine C82 BNG HJ e3 e4 (CU C g) EA2 G BJ3;rcases hO with⟨R,rfl⟩|⟨R,u,rfl⟩|⟨R,u,m,U,rfl⟩<;>rw[R]
  .exact E8 AGK
  .rw[EP6];rw[BO (decide_eq_true u) E8 AGK]
  rw[EP6];rw[iM (AD9 0xa31813a2ad3dfc9216)];rw[EI0 D l hy l hy 0x4f5b928b6dc394e1bfb9232 u];rw[cQ (C82 D75 HJ BP3 BSG (CU C (HZ g)) EA2 G (EU ⟨R,~~~b1D e n1,APY e n7,hR,D,EX v a3 H3 S W l⟩))];rw[DU va M l];obtain rfl:=Goes.one U W;rw[AD J (b1T D U) L (a8m U)];rw[AOX S S];rw[E3D I m m.length]
  refine B0O va M;rw[DO (DT5 m m (caps:=[MB]) (~~~lq 0x2cdae0c247104e9f8a915ffa41ba5745a5569b7f9 a0 u J I) I M (E5N l O B)) H4 p4 B Y]
  .unfold cst at l;rw[C3G O l l];have B:=S.trans B;exact⟨_,rfl,a,_,0,_,rfl,rfl,QA B e1,rfl,_,rfl,n,_,_,_,rfl,rfl,QA B e2,c0Z (by rw[gY e L x (A0P O)]),DMA⟩
  .have hB:NY (m.map (VZ sT)) (y.length<=8):=λy hy=>by
    rw[LN j hj hy];have X:AFT:=by rw[gY e L j hj]
    exact A5E hN.nm sT (CRL X)
   refine⟨p4,ATH m.map,rfl,BMT List.map_map,IF (lq 0x7e46e097481ad1d3d3b4a69217 u J),hB,BB H5 s5⟩;have:=GP (sO (S.trans (B.upd Y)) s5);unfold c2u c1g at this;cases m with
   |nil=>rw[MZ]
   |cons j m=>rw[MZ]
/---/def c5D:Sp:=BQ _ (∃(v z:V) (ns:AA) (rss:LLI) (xs:qJ) (m:Nat) (o:Out),A5Y v z MV/\A7P/\xS/\B6V/\DVT)
def sc__law_lay_due:UE ["_law_system","_law_one","_law_most","_law_found","_law_texts","_law_other","_law_count"] "_law_system" "_law_one" "_law_most" T4:={}
abbrev c9G(a za t pt:qE)(m:Nat)(l:oU)(H:Hp)(i:Nat)(σ:L2.St)(H':Hp):Prop:=∃o5 o6,σ=[MB,BGP,CVB,BND,DE pt,o5,o6]/\BHB pt (zK wds l.take i)/\BN
def c8O(F:RA "_law_lay_due" T4 ["_law_system","_law_one","_law_most"])(T:AW)(g:C66)(l:C7E)(D:C5F)(j:C34):EIV:=by
 rw[BM sc__law_lay_due b8 b6 O]
 rw[B66 v z ns rss xs m o]
 .obtain⟨v,z,ns,rss,xs,m,o,rfl,hS,hz,⟨hV,hm,hO⟩,k⟩:=h;rw[EM6];have hu:=O.u60;rw[OR u]
  rw[BG5 hR a9];obtain⟨hN,a5,n1,n7,h3,hv⟩:=BHY;rw[DU X R hz];rw[BU (A1 (pI (DG9 g BVW)
 ADD
 B4)
 (BX 3 sc__law_lay_due.nd (fL l O.mono b1h (VU uW cD IZ))
 (A1 (DQP
 ADD
 B4)
 (AI8 4 sc__law_lay_due.nd
 (A1 (B4X (BS4 (CZ (AFO D O.mono 177044476 D4Z))) 5 sc__law_lay_due.nd 6 sc__law_lay_due.nd
 (A3 (D6K 6
 (pE AB3 (LX M9 (M9 (AE8 AFH) B2) (DG9 j AFG)))
 B4)))
 (FK (A4N (CZ (DP c5h 4 (DX7 (c0d K hu AB3 B1V)))))))))))]
  refine C82 BNG (AL X) e3 e4 (CU X R) (λt C=>AH (BCU C) (a2h a5 n7)) a9 BJ3;cases hA:A0O with
  |false =>
   rw[hA]at hO;rcases hO with⟨_,rfl⟩|⟨z,_⟩|⟨z,_⟩
   .exact E8 AGK
   .cases z
   .cases z
  |true =>
  rw[cQ ⟨_,rfl,a,_,1,_,rfl,rfl,D75,rfl,_,rfl,X,_,rfl,UA AYG,_,rfl,r,us,rss,ns.length,m,bG List.length_map a5,BP3,BSG,e5,h3,n1,n7,hm,B22 v hF⟩];rw[B3V];rw[EF];rcases hF with⟨rfl,ho⟩|⟨t2,zs,d,rfl,C,M,I⟩
  .obtain rfl:o=.tm:=by
    rcases hO with⟨z,_⟩|⟨_,_,z⟩|⟨_,d,I,_⟩
    .rw[tE hA]
    .exact z
    rw[II ho I.not]
   exact AZD (GP s2)
  obtain rfl:o=.ok DS4:=by
   rcases hO with⟨z,_⟩|⟨_,ho,_⟩|⟨_,b7,b0,z⟩
   .rw[tE hA]
   rw[II ho I.not]
   .rw[AF (I.one b0) z]
  have k:oJ DS4:=k;have Z:CE3:=λr O=>A1C h3 O;obtain⟨_,_,b3⟩:=I.ok hm Z;have hL:=I.lw hm hV;have a1:QK (rT d)=d.length:=BR a5Z;rw[AD Y M.1 b5 (I.zero hm hV hA)];have a8:=I.part hm Z;refine TQ (C4 (iO FF pt N));rw[A5O S eY N];have a7:DK pt:=s2.free N;rw[LY J H2 eY N];rw[B4O L H2 pt pt];generalize WX pt []=H3 at S J L;rw[AD C (iZ J) M (M.same J)];rw[CW ⟨_,rfl,_,rfl,_,rfl,t2,AL X,zs,d,xs,ns.length,rfl,⟨C,M,CU X (AEV R),~~~b9v b3 Y,n1,AUJ,a8,hV.rest⟩,b5,λpl H4 U G=>⟨true,true,t2,pl,rfl,KU (iZ U),KU G,?_⟩⟩];rw[AD C (iZ U) M (M.same U)];rw[AD L (AI U L) U (S.trans U)];generalize b9:(rT d)=B at a1 hL G k;refine BG (ECW c3H t2) b pl xs zs (zs:=TC B.map) (OB σ (c9G a X t2 pt m (B.zip d) H i σ H'/\zW CU4 CVV H')) ⟨AHL L U,E4R⟩ (ANR σ zz ⟨FB (AO AW9 C (I9 C L AEI)),FB (AO AW9 G (QO G L))⟩) ?_ ?_
  .rintro i x z σ H' p hx1 hz1 ⟨⟨o3,o4,rfl,c1,s'⟩,kp⟩ hp;obtain⟨r,c0,b1,W,rfl,q⟩:=M.mem hx1;rw[aR y b4 K8 hz1];rw[DR1 hq (DJ ((B.zip d)) (y,r)) b4];have a4:=a8I hq;obtain⟨⟨y0,y1⟩,a2,a3⟩:(y3 y y)/\Sz r/\r.length<=8:=nQ hL.2 hq;have b2:BV (wds (bE B.zip d i))<=400:=BSV a7j (bP (BR List.length_take_le') hL.1);rw[AD q (AO kp q (QO q L)) J (AFQ (o:=NS AE9) hp)];rw[ZV d1 (AI J c1) q J q];have s2:=s'.trans J;have kp:qV CU4 CVV (PJ H' p (NS AE9) b o):=PU h hb (AI J DUB);rw[pH dp H' p AE9 p AE9];generalize PQ H' p AE9=H2 at s2 d1 dp kp q;rw[wA (u7 p _ dp _ _ _ []) A7B]
   .have e:0<y:=dD;have a6:ABH y:=BR2 y1;rw[AD l1 (U9 (x:=y) ⟨y0,a6⟩) l2 (a3a a2 a3)];refine A82 (QJ d1) _ ?_;rw[AEN K9];rw[EC a7J (x:=y) ⟨y0,a6⟩];rw[GV ⟨_,_,rfl,rfl,by rw[dR (_+3) 0x243a18421e0169cbd52311f17d6e u l1],_,rfl,AL W,r,rfl,CU W q,a2,a3,BB H3 S⟩ ⟨_,_,rfl,rfl,by rw[C1];show _+3+_<=_;exact lq 0xc72e82bc5b5604a0abddb91addabf11f17d6f u l1 l2,pt,_,_,rfl,rfl,AEV d1,IF (lq 0x767ff48f8bd0662561f17d6e u b2),AHL ?_ (λb o a0=>AH (fH a0 a7) (AEV (WE a0))),PU h hb (ID hb (AEV DUB))⟩];rw[A0,a4,IG,List.map_append];rfl
   .rw[BVJ (0<y)];rw[AZ (AHL (AS4 a4 FZ List.append_nil d1) s2) kp]
  .rintro σ H' ⟨⟨o3,o4,rfl,c1,s'⟩,_⟩;rw[List.length_map,Y,a1,Nat.min_self,E4C]at c1;rw[D2 f1 f2 f3 c3V hL];rw[EV rfl (a8M rfl c1 f2 (BS p5 H5 s5 e5))];have k:=GP (s'.trans s5);rw[b5E,show MM BOX CUF (RG wplus ARK)=RG wplus (if BOX then oP else ARK) by split<;>rfl]at k;refine⟨wplus,p5,sV BOX oP ARK,551,rfl,rfl,CTT,?_,?_,?_,k⟩
   .split
    rw[DLQ y hy hy]
    .exact f1
   .rw[B4W];split
    .decide
    .omega
   .split
    .show 1<=_;exact b8r u
    .exact b9d u f3
#where
#where
section
section
variable {P:qH}{w:World}{K:qF}{mg:BA}{base:Heap}
def b3C{xs:AE}{k:Nat}(a:B1H):B14 xs A56=xs.take k:=by
 unfold V2;rw[HT.sIx_none,HT.sIx_nat,AX3,List.drop_zero,Nat.sub_zero]
def c5F{H:Hp}{Q:VK}{t:qE}{zs:AE}{k:Nat}(a:DBU)(q:B2I (CIX k)):c5N K bZ none A56 H Q:=by
 refine⟨t,zs,rfl,SqT.of a,RB h,DV h p b⟩
 .have h1:=EJ;rw[HT.sIx_nat]at h1;exact q t H fC (AH (CRC (AXG 0x79077543d1a5d6)) a)
 .rw[HT.sIx_none,HT.sIx_nat]at h;refine q p _ D6O ?_;rw[A0,NR b3C]
def a9W{src:LQ}{σ caps:L2.St}{Q:VK}{H:Hp}{a b:qE}{n:Nat}{lo:Int}{te:TE}(R:BRL)(l:X3)(d:UT)(k:LP)
  (f:C7Q)
  (hd:CQR BPY):A2B BW6:=by
 rw[SF o]
 refine a2q (BXF o) C7C C6H (AEE C23) ?_ ?_
 .rintro i ys H' _ ⟨h1,h2,P',o'⟩;rw[CQQ (AC _) (f _ H' _ P') m]
  rw[IJ h2 y]
  rw[A5R m]
 rw[C81]
/---/def Tl(n:Nat)(tss:LLI):Prop:=hY tss (t.length=n/\EQ t CXD)
/---/def c8q:Sp:=BQ _ (∃(a b sv:qE) (zs:AE) (tss:LLI) (n:Nat),vs=[BF,AL sv,BK EY]/\LP/\DBV/\AJH/\Tl n tss/\x8/\n<=7/\∀v xs H',A9G xs->A66->BQL YZ->KF->GT->kX)
def sc__law_drawn_one:D0L ["_law_pot_here","_law_some","_law_width","_law_one","_law_sort","_law_other","_law_many","_law_at"] "_law_some" "_law_width" N2:={}
abbrev c9F(a sv:qE)(n:Nat)(so:Int)(b:qE)(H:Hp)(i:Nat)(σ:L2.St)(H':Hp):Prop:=∃(po:qE) (o5 o6:cZ) (xs:qJ),σ=C73 po o5 o6 none/\BQ2 po/\NH po/\DK po/\A66/\AP2 xs (OE*1000000)/\KF/\GT
def c8P(F:D1K "_law_drawn_one" N2 "_law_some" "_law_width")(T:AW)(c:yU)(C:A7U):EFJ:=by
 rw[BM sc__law_drawn_one d3 d2 hr]
 rw[XG a b sv zs tss n]
 .obtain⟨a,b,sv,zs,tss,n,rfl,hP,hs,hI,hT,n1,n7,k⟩:=h;rw[RP hz]
  rw[BU (BX 3 sc__law_drawn_one.nd (BI9 RJ MX)
 (BX 4 sc__law_drawn_one.nd BTQ
 (A1 (B3W
 (DNN (DUC
 D7M))
 B4)
 (A1 (B3W
 (DNN (DUC
 D7M))
 B4)
 (A1 (iI (F5 K (c8Y K HY G6 APC)) 5 sc__law_drawn_one.nd
 (A5S 6 sc__law_drawn_one.nd (ADE C (C15 (CZ BTQ)))
 (A1 (B3W
 (A3 (AMJ B1 6 sc__law_drawn_one.nd (DP Z6 6 (K4 A4 BTQ))))
 B4)
 (A3 (cJ 3 sc__law_drawn_one.nd (N:=["_law_number","_law_more","_law_many"]) (src:=[none,none,AC 6]) (BS4 AFG)
 (bU COW COW) XU (HS (DP K4 0 (DP Z6 2 HY))))))))
 (A1 (B3W
 (BX 7 sc__law_drawn_one.nd (ALM hr.mono IZ)
 (A3 (b1O (B08 (J0 K WO (jv 7))) (DP c0j 3 CT5))))
 B4)
 BW2))))))]
  rw[GF (cM 1 a5x) p1 b6];rw[EM4 b6];rw[CE4 ⟨_,rfl,p1,_,_,rfl,rfl,e1,AG,AG,DX4,BB B R⟩ b4T];have fo:DK B:=s1.free R;have X:NH B:=E2 (hP.same s1) R;rw[B2Q AU7 R];rw[B5P B AU7 B AU7 B AU7];rw[CW (mI 6 (hP.same s2) (C3M so d4 d5))];rw[AD o3 (s2.off.trans f3) e3 (AO f3 X e2)];clear s1 s2 e1 e2 f3 b6 R;rw[EF];have tup:∀{r:Hp}{W:qE}{xs:qJ},ET r W->A66->AP2 xs 3000->AKN r->Off VD H3 r->∀p8,PP (upd r W QI p8)->LV p8 (ASX r W QI p8 RT):=λ{r W xs} J Z D p G p8 a3=>by
   rw[GA s8 (VC r (o:=QI) J).upd RT a3];rw[EHO xs Z D (o3.trans (G.trans s8.off))]
  have M:∀{ys:AE},BPY->A9E (DTQ BH8)->EDI A66 BH8:=λZ hy=>by
   rw[CL xs h1 h2 h3 a4A hy];rw[CK xs h1 (h2.trans Z) h3]
  rw[DSB]
  rw[EPL 4 0x4a2450dbda8e78c16]
  rw[DSB]
  rw[EPL 3001 0x2b75e9a5dfcd7f3782db16]
  clear tup M;rw[EG0 b7 o3 b0 o3];refine AJ3 (c5F (k:=12) b7 (BS q H4 s4 e4));rw[AD c3 ((b0.same s4).take 12) o4 (o3.trans s4.off)];rw[AD P4 (P3.same s4) e3 (AWT e3)];clear o3 P3 s4 b7 b0;have d0:EI zs.take 12<=12:=YX;refine B0O q e4;refine UX b3v q CFO (OB σ (c9F a sv n so b H i σ H'/\DOX/\E8J)) ⟨⟨B,_,_,xG,rfl,e3,X,fo,List.length_replicate,λx D=>AS3 (vS D),P4,o4⟩,e4,c3⟩ (kP σ zz (FB zz.2.1)) ?_ ?_
  .rintro i x σ H5 D ⟨⟨B,o5,o6,xs,rfl,e5,X,fo,l,d,P5,o5'⟩,eq5,hI5⟩;have hi:i<12:=by rw[SD (LM D) 94801257767203878 d0]
   rw[E1B a6 hI5.mem];obtain⟨c8,c9⟩:=hT t (List.mem_of_mem_take ht);rw[CW (A7N 4 P5 (λr6 r a8 I p G=>iO (cM 4 b8d) p7 a0))];rw[mY s7 r (CH8 A89 r6) a0];rw[AVR p7 (p.same s7) (E2 p a0) 4 4 (DY r8 H8 a5 P8 S)];obtain⟨m,rfl,b4,b5⟩:∃x,BIA r8/\TB/\x<=3:=by
    rw[lC a5];rcases a5 with e|e|e|e
    rw[B5B]
    rw[B5B]
    rw[B5B]
    .rw[CK _ e AG (BI 0x7e20132b8c16 I)]
   rw[AD S (GI G.trans s7.off S) e8 (AO S X e5)];rw[AD Y (LK S P5 eq5 eq5) b3 (Its.pot hI5 P5 S)];rw[AD L (LK S P5 a6 a6) o8 (o5'.trans S)];clear G s7 S a0 a5 P5 p e5 eq5 hI5 a6 o5' a8 I;rw[EF];rw[pM (λσ H'=>∃m:Int,σ=C73 B (DE xa) ADB none/\ASO/\m<=180/\BQ2 B/\DOX/\E8J/\KW xa (NT t.map)/\KF/\GT)]
   case fin =>
    rintro σ H9 ⟨m,rfl,m0,m1,e9,b8,c0,U,P9,o9⟩;refine ANP false B xa (rK e9) U;rw[DO (a2Z (caps:=[DL m]) (AQF BFT) (k1:=false) (k2:=true) (~~~b9j n7 l) (A9S (AN9 e9) (B86 U)) rfl (λx y H1 Q1 _ hy _ q=>EL7 _ rfl yH _ _ rfl q)) HA pA sA a4];rw[AJ5 BFT];rw[AD sB (sA.upd (o:=BGW CP4) a4) PA (P9.same sA)];have fA:DK pA:=a0S (o9.trans sA.off) PA a4;rw[EF];rw[DN ⟨pA,_,_,CP4,rfl,A0,E2 PA a4,fA,A2T List.length_zipWith 0x243ed404935269b1d5c1c554c6957 l c8,A25 D,P9.same sB,o9.trans sB.off⟩ (AI sB b8) (c0.same sB)];obtain⟨j,O⟩:=List.getElem?_of_mem D;rw[CRU O];cases h1:CZF with
    |none=>rw[AU h1 O O]
    |some u =>
     cases h2:t[j]? with
     |none=>rw[YK h1 h2 O O]
     |some v =>
      rw[YK h1 h2 O O];rw[A50 a1 a2 d u h1];rw[A50 b1 b2 c9 v h2];have c1:=Int.mul_nonneg m0 b1;have c2:m*v<=180*1000:=C0J m1 b2 b1;constructor
      .exact lq 0xe2d600013da8e513252 a1 c1
      .rw[Int.natCast_add,Int.add_mul];rw[D4 0x1f293d5f2b5427ae3df4d10efed93e98440f4e6d83a7820402ceeb64a670cc607349705cbb3 a2 c2]
   rw[DG2 ⟨m,rfl,b4,BI 0x18bbfbc35aa8f16 b5,e8,Y,b3,L,P8,o8⟩ (A7N 60 P8 (λr9 H9 a9 b9 P9 f9=>⟨_,_,rfl,rfl,_,_,rfl,rfl,yH,?_⟩))];rw[EF];have c1:DGM<=3*60:=C0J b5 (BI 0x18d53374493dc4cb24a16 b9) DMU;exact ON ⟨DGM,rfl,CS7 b4 DMU,AG,AO f9 X e8,LK f9 P8 Y Y,AES b3 P8 f9,LK f9 P8 L L,P9,o8.trans f9⟩
  .rintro σ H5 ⟨⟨B,o5,o6,xs,rfl,e5,X,fo,l,d,P5,o5'⟩,_,_⟩;have d:uN (eT 12000000):=λx D=>by
    rw[KA (d x D)]
   have fin:KC σ L2.St H' Hp ((∃(o:cZ) (ys:qJ),σ=C73 B o5 o6 o/\KW B (LW ys.map)/\BPY/\AP2 ys 12000001/\KF/\GT)) (DZH (tCB (b0S K) (v8 3))):=by
    rintro σ r ⟨o,ys,rfl,e6,c7,c5,p,d1⟩;refine AGE B (EE e6) p8 a3;rw[LY s8 r (NT ys.map) a3];rw[EHO ys c7 c5 (d1.trans s8.off)]
   rw[DG2 ⟨_,xs,rfl,e5,l,ASR D d D,P5,o5'⟩ (E64 EY P5 EY (EX r6 r a8 I p G))];rw[yK j g (r6=g) r6.toNat];have O:WZ:= ~~~b9D l I
   have e6:=AO G X e5;rw[EF];rw[E9U c4 xs.map QP BRI (LZ O)];refine⟨_,rfl,_,rfl,B,_,_,_,rfl,rfl,EE e6,c4,_,_,rfl,rfl,_,rfl,_,rfl,B,_,_,j,rfl,rfl,e6,?_⟩;have c6:AHT BID QP j:=by
    rw[C5M (cP (~~~b9A l I))]
   rw[EV c6 (ON ⟨_,xs.set j (BRI+1),rfl,DFS,AH List.length_set l,A25 D,a1u p X,a3i (o5'.trans G) fo⟩)];rcases List.mem_or_eq_of_mem_set D with z|rfl
   .rw[KA (d x z)]
   .rw[KA (d _ (List.getElem_mem O))]
#where
#where
section
def c3X{σ:L2.St}{H:Hp}{Q:VK}{v:V}{te:TE}{n:Nat}(c:X3)(a:∀(H':Hp) (N:VK),BN->DWB n->BFC σ)(k:ALE q (rO q (BAH v)) AQQ):A2G tOp b6A (b5T (J9 (tC v) K9)) te:=by
 rw[jC d]
 rw[EV A6R (λp b=>AO a D6O ⟨p,[v],n,rfl,rfl,A0,AJ,wE,?_,CQ3⟩)]
 .show PV*n<=_;omega
 .rw[a6Q,Int.toNat_natCast]at e;exact k q H' (C1B b) e
section
variable {P:qH}{w:World}{K:qF}{mg:BA}{base:Heap}
def c3M{xs:AE}{k:Nat}(a:B1H):V2 xs A56 none=xs.drop k:=by
 unfold V2;rw[HT.sIx_none,HT.sIx_nat,AX3,BPH]
/---/def Tq(n:Nat)(t:qJ):Prop:=t.length=n/\B28 t/\0<t.sum
def Tq.sum{n:Nat}{t:qJ}(h:BW4)(c:n<=7):t.sum<=7000:=by
 have key:∀(l:qJ),B28 l->l.sum<=1000*l.length:=λl=>by
  induction l with
  |nil=>intro _;rw[AYY]
  |cons x l b =>
   intro h;rw[DV6 vR BZT]
 rw[A33 key t SE CD];omega
/---/def Vs(n:Nat)(xss:LLI):Prop:=∀xs∈xss,xs.length=n/\EQ xs YZ
/---/def c8p:Sp:=BQ _ (∃(a b sv:qE) (v:V) (ns:AA) (rss:LLI) (zs:AE) (tss:LLI),vs=[BF,v,AL sv]/\LP/\A7P/\A9V CBV/\A5X/\ZQ/\DBV/\AJH/\zs.length<=200/\BT t tss (Tq ns.length t)/\∀l us xss H',oF l us->fV us xss->C0H xss->us.length<=20->KF->GT->A2Y->A0W l)
def sc__law_long:D0L ["_law_pot_here","_law_system","_law_some","_law_width","_law_at","_law_found","_law_full","_law_told","_law_j"] "_law_system" "_law_some" a0P:={}
abbrev c9E(a b sv va l p8 pD:qE)(n j:Nat)(y1:V)(xs1:qJ)(H:Hp)(i:Nat)(σ:L2.St)(H':Hp):Prop:=∃(o8:cZ) (us:AE) (xss:LLI) (u0:V),σ=[MB,DE va,CDD,DL EY,DL QP,AX8,DE p8,AC y1,o8]/\oF l D1W/\us[0]?=CA V.ref pD/\KW pD (NT xs1.map)/\fV D1W xss/\Vs n xss/\us.length<=AT/\KF/\GT
def c8N(F:D1K "_law_long" a0P "_law_system" "_law_some")(T:AW)(m:yU)(I:A7U):EFK:=by
 rw[BM sc__law_long e0 d6 hr]
 .obtain⟨a,b,sv,v,ns,rss,zs,tss,rfl,_⟩:=h;rfl
 .obtain⟨a,b,sv,v,ns,rss,zs,tss,rfl,hP,hS,hR,n1,n7,hs,hI,hzl,hT,k⟩:=h;rw[BXR hz]
  obtain⟨va,sn,sr,e9,sc,sp,us,rfl,v1,v2,v3,v4,v5⟩:=hS.ex;rw[BU (D2W sc__law_long.nd BR4
 (BX 4 sc__law_long.nd (ADE m (VG gZ))
 (lV 5 sc__law_long.nd D6 (LX a1D (CP0 (BXA RJ AB3) c0m A4) (BXA RJ (QZ a5G (fT a5G 3) 4)))
 (A1 (cJ 6 sc__law_long.nd (N:=["_law_one"]) (src:=[none]) (QZ F5 K 2)
 (tX "_law_one") (A5L K3 (a1S A4 (B4E NB)) A4) (HS DR))
 (A1 (C0 (b1L K hu (jv 6) B1V)
 (A5S 7 sc__law_long.nd (ADE I (VG AFH))
 (B17 mC (CZ (cL (VS "_law_number" "_law_told" (AC 7) (QZ F5 K 7)
 (YR "_law_number" "_law_told")) (DP Z6 0 (b1Q A4 (B4E HX)))))
 (A3 (iI (A5F (VS "_law_k" "_law_system" rX (iL gZ)
 (HS (AMJ A7 0 (L2.nd ["_law_k","_law_system"]))) (A5L F8 K (E3F (ATW "_law_row" "_law_k" BR4
 (CZZ "_law_k")) DRH)) AXD)) 8 sc__law_long.nd
 (pE mC (LX a1D (EB1 BRV 8 (A9D BRV 8)) (a9L K BRV (BTK 8) G6)))))))
 B4)
 (AP4 5))))))]
  rw[EO7 (E64 A40 hP A40 (E9T b9 J))];rw[yK j g (r1=g) r1.toNat];have hj:AFT:= ~~~b1x J
  rw[EF];rw[DO (E3T j (AX 0x236dfbe0bab4f954d21766 n7 J) (DS k')) p2 H2 s2 e2];refine OD _ _ rfl C49 A6R (AF6 Z);rw[x6 s3 H2 [CI (10 ^ (BJ 12).toNat)] Z];refine EG4 (by rw[List.length_replicate];show _+1<=_;exact lq 0x3fba4520e9c33af423d6ad5bd8367 n7 hz J);have W:=GI s2.trans s3 W;clear s3 s2 e2 Z;rw[DO (E3T BBT (BI 0x1866310eb93a8b7eee3611a389f21088b66 n7) ⟨_,rfl,_,_,rfl,rfl,_,rfl,_,_,rfl,rfl,by show DWB D4H;rw[AF (show D4H=ER BBT by rw[DQ 0x52b5fa6d477afbdfff79d81aa398ad78b29ed076e9b42ac646e9d96 J]) k']⟩) p5 H5 s5 e5];refine⟨p4,p5,_,_,rfl,rfl,BUC,e5,by simp;exact lq 0x178931fa8eff4da3465c05159353b3ba5de8415077df666d6ad5bd8367 n7 hz J,λR H6 O S=>iO A6R l hl⟩;have O:=GI W.trans s5 O;clear s5 W e4 e5;have S:H6 R=AC (NT (FC B78)):=by
   rw[E0B List.map_replicate List.map_replicate]
  have b7:B16 (BV B78) B78 YZ:=by
   rw[GF (by simp;rw[DQ 0x4f2e69ab36a34d2f2569a2b6cd94da7e4fd899c1e2e9a8d96 J]) x D];rw[DNZ]
   .rw[AJ0]
    .rw[XL (vS z)]
    .rw[XL WB]
   .rw[XL (vS z)]
  generalize B78=x0 at S b7;rw[WR P6 P1.same O o6 f1.trans O.off];have ql:NH l:=E2 P6 hl;have fl:A2Y:=a0S o6 P6 hl;rw[mY s7 H6 A0C hl];rw[JH e7 H6 l A0C l A0C];rw[A52 H6 l A0C H7 s7 e7];rw[WR P7 P6.same s7 o7 o6.trans s7.off];have S:=AI s7 S;have c:Its H7 A0C [x0]:=Its.one (CU R S);have b2:C0H [x0]:=λxs h=>AH (List.mem_singleton.mp h) b7
  clear O s7 f1 P1 P6 o6 hl b9 J;rw[EF];rw[EG0 a7 o7 a5 o7];refine BRC sv a7;refine UX Z9 sv zs (AX 0x6cb975170d69e3f69153ef66 hzl hz) (OB ys (H'=H7/\AC6/\NY ys (y∈zs))) (eU BW KD) (US ys ⟨IU CD SqT.of a7,SE⟩) ?_ ?_
  .rintro i x ys H' D ⟨rfl,M,U⟩;rw[E1B a8 a5.mem];refine⟨Sub.one,_,rfl,true,xa,t,rfl,CTZ,_,_,rfl,rfl,wJ hT t ht,rfl,_,rfl,R7 (CO (RO _ rfl (BYT M) (A1O h))) (CO (eU D8I U))⟩;rw[B3I]
   rw[IJ U y]
   .rw[BO WB List.mem_of_getElem? D]
  rintro ys H' ⟨rfl,M,U⟩ p8 a6;have q8:NH p8:=E2 P7 a6;rw[mY s8 H' ys a6];rw[JH e8 H' p8 ys p8 ys];rw[A52 H' p8 ys H8 s8 e8];rw[EKZ];rw[AD C (AI s8 e7) b0 (a5.same s8)];have c:=c.same s8;clear s8 P7 o7 e7 a5 a7 S a6;rw[CW (GO _ FF (BB p9 b4))];rw[LY s9 H8 eY b4];have hE:C1O (HU H8 p9 []) (AL p8) p9 (ys.length==0):=by
   have:=BG EqV.lst K K n 0 CV9 (ZY s9 e8) (SqL.of A0) λj x y D U=>by cases U
   rw[fJ]
  rw[A52 H8 p9 [] H9 s9 hE];rw[WR P9 P8.same s9 o9 o8.trans s9.off];rw[ZV C (iZ s9) e8 s9 e8];rw[WR b1 b0.same s9 c c.same s9];clear s9 P8 o8 b0 b4;refine⟨1,_,AK,hE,AJK,_,rfl,R7 A84 (λe=>DS (k l _ _ H9 C c b2 (AZM 20) P9 o9 fl))⟩;have d5:0<ys.length:=Nat.pos_of_ne_zero λz=>by rw[GU z]
  clear e hE;refine⟨_,rfl,_,rfl,a,b,p8,ys,rfl,P9,e8,q8,d5,AX 0x236dfbe0ba924847a82f66 hzl M,DY r HA hr PA fA⟩;obtain⟨i1,b3⟩:=List.getElem?_of_mem (U r hr);obtain⟨t,ht,_,ta,rfl,L⟩:=b1.mem b3;rw[AD L (LK fA P9 L L) C (AO fA (by intro z;exact ql z) C)];rw[AD c (AES c P9 fA) oA (o9.trans fA)];obtain⟨t1,t2,t3⟩:=DQD;have t4:=Tq.sum DQD n7;clear fA P9 o9 e8 b1 b3 hr q8;rw[CW (EEW (QJ C) ta L)];have d0:0<=DL6:=Int.ediv_nonneg AK (BMU t3);have d1:DL6<=300:=AWO Int.ediv_le_self;rw[DO (vU (BG O1 vs (TC t.map) as t (caps:=[DE ta]) (FE CTE)) uV (ZK L) (oV HB QB hv D sB)) HB pB sB b5]
  .rw[nE D hv hv];have:=RU t2 x D;exact⟨_,rfl,_,rfl,true,ta,t,rfl,QA sB L,_,_,rfl,rfl,⟨t3,BI 0x103b3cae88093ebd0422238c8dfbf016 t4⟩,_,_,rfl,rfl,yH,SG⟩
  rw[B6K (CDR CTE) BYU];have G:B16 (BV BYU) (t.map (FE APO)) (eT 300000):=by
   rw[GF (IF t1) y U];rw[LN x D U];obtain⟨a1,a2⟩:=t2 x D;have:APO<=1000*300:=C0J a2 d1 d0;rw[AZ (CS7 a1 d0) AG]
  generalize (BYU)=d at G;rw[GA sC sB.upd A31 b5];rw[gF pB KZ B b6];rw[GA sD sC.upd iH b6];rw[NF X (upd HB pB A31) B iH B iH];rw[mB (upd HB pB A31) B iH HD sD X];rw[WR PD PA.same sD oD oA.trans sD.off];rw[AD C (iZ sD) c (BYN c.same sD B X)];clear sB sC sD b5 b6 PA oA L d0 d1;refine B3R l _ C (A98 (1<_));have c:=Its.put (o:=CC uJ) c C;rw[FQ X (xB HD l uJ B iH) (A5 (I9 X C AEI)) X]
  rw[AD PD (a1u (o:=CC uJ) PD ql) oD (a3i (o:=CC uJ) oD fl)];rw[JH C HD l uJ l uJ];generalize HU HD l uJ=HE at c X PD oD C;rw[AD v1 (LK oD hP v1 v1) v3 (LK oD hP v3 v3)];have v4:=Its.pot v4 hP oD;rw[AT8 (AVO A40)];refine a2q AG (OB ys (ASK HE/\AC6/\NY ys (∃g:Nat,y=V.int g/\g<ns.length))) ⟨fC,BW,KD⟩ (AEE SE) ?_ ?_
  .rintro i ys H' hi ⟨s',M,U⟩;rw[RQ Sub.one];refine⟨_,rfl,va,_,1,_,rfl,rfl,BQN v1,rfl,sr,rfl,KU D21,?_⟩;rw[DO (a7l (caps:=[DL (0+OE)]) (λr=>BSA A61) (~~~X8 v5) (λd9 d7=>QA d7 D21) (v4.same s') rfl (λv r H1 Q1 hr hv s1 q=>?_)) H1 p s1 hp]
   .rw[DU xa a8 hv];refine⟨_,rfl,_,rfl,xa,_,_,_,rfl,rfl,CTZ,?_,rfl,SG⟩;rw[BO Int.zero_add Y5 (AF3 (hR r hr))]
   .refine⟨false,p,_,rfl,KZ,?_,_,rfl,R7 (CO ⟨_,rfl,DW9,BYT M,A1O h⟩) (CO ⟨DW9,D8I,U⟩)⟩
    .rw[A7T]
    .rw[B3I]
     rw[IJ U y]
     .rw[AV i (IC WB Int.zero_add) hi]
  rintro js HF ⟨sF,e3,d2⟩ pG a0;have qG:NH pG:=E2 (PD.same sF) a0;have lG:l≠pG:=A6 (iZ sF) a0;rw[GA sG sF.upd (CC js) a0];rw[JH eG HF pG js pG js];rw[A52 HF pG js HG sG eG];rw[WR PG PD.same sG oG oD.trans sG.off];rw[ZV C (iZ sG) X sG X];have c:=c.same sG;clear sF sG a0 PD oD v1 v3 v4 hS;rw[B3B pG eG];have c8:C0H ([x0]++[d]):=λxs h=>by
   rw[B3I]
   rw[IJ b2 xs]
   .rw[WB];rw[AZ G.1 (λx D=>BGJ (G.2 x D))]
  refine UX O2 pG js (OB σ (c9E a b sv va l p8 B ns.length j (AL ta) d H i σ H'/\oF pG js)) ⟨⟨_,[zJ B],_,_,rfl,C,rfl,X,c,c8,BW,PG,oG⟩,eG⟩ (kP σ zz (EE AW9)) ?_ ?_
  .rintro i x σ H1 D ⟨⟨o8,us1,xss,u0,rfl,c1,c2,c3,c4,c5,c6,P1,o1⟩,c7⟩;rw[DU g hg (RU d2 x D)];have hi:i<js.length:=LM D;have a3:atI (u0::us1) 1=CA V.ref B:=J4 (j:=1) c2;rw[EF];have Y:g<A1F d.map:=by rw[DW List.length_map G.1 hg]
   have d8:=G.1;refine GO _ D01 ?_
   delta K5
   refine⟨_,rfl,l,_,1,_,rfl,rfl,EE c1,a3,_,rfl,_,rfl,B,_,rfl,FB c3,A5I,BMX d3⟩
   .rw[cG z z.2 HT.sIx_nat z];rw[D4 0xd0223f5a00bb196 Y z]
   rw[TL b3C a3P Y];rw[B3J AVU d3];rw[B5P p2 AVU p2 AVU p2 AVU];refine⟨_,rfl,l,_,1,_,rfl,rfl,AFE c1,a3,_,rfl,B,_,_,_,rfl,rfl,BQO c3,NR Y5,_,_,rfl,rfl,A6R,AF6 Z⟩;rw[x6 s3 H2 [CI (BC0+1)] Z];refine EG4 (by rw[CRM];rw[YJ (_+1<=_)]);have W:=s2.trans (s3.trans W);refine⟨_,rfl,l,_,1,_,rfl,rfl,ZY W c1,a3,_,rfl,_,_,rfl,rfl,_,rfl,B,_,rfl,QA W c3,A5I,BB p5 d4⟩
   .have z:=ZH;rw[E1A,HT.sIx_nat]at z;rw[D4 0x1d8dc05187e05bbfc55d996 Y z]
   rw[E1A,TL c3M a8b Y];rw[LY s5 H4 (eO (APX d.map drop) (g+1)) d4];refine⟨p4,p5,_,_,rfl,rfl,BUC,A0,by rw[DLF List.length_append List.length_map];rw[YJ CJ9],BS a9 H6 O S⟩;rw[ZV O (W.trans (s5.trans O)) a4 O c1];have S:H6 a9=AC (NT (FC B6L)):=by
    rw[E0B List.map_take List.map_drop]
   have b8:B16 (BV B6L) B6L YZ:=by
    rw[GF CRK x D];have c9:BC0∈d:=by rw[ACQ (NR List.getElem?_eq_getElem)]
    have e1:=G.2 _ c9;unfold topN;rw[DNZ]
    .rw[AJ0]
     .rw[KA (G.2 x (List.mem_of_mem_take z))]
     .rw[PM WB]
    .rw[KA (G.2 x (List.mem_of_mem_drop z))]
   generalize B6L=x2 at S b8;rw[AD P6 (P1.same O) c0 (BYN c4.same O a9 S)];refine⟨l,_,_,rfl,rfl,a4,BQX,⟨_,A8P us1 a9,xss++[x2],u0,rfl,A0,?_,?_,Its.put c0 a4,BB xs h,BYT c6,a1u P6 ql,a3i (o1.trans O.off) fl⟩,?_⟩
   .cases us1 with
    |nil=>cases c2
    |cons u us1=>exact c2
   rw[wX (QO (AI O c3) a4) (AI O c3)]
   .rw[B3I]
    rw[IJ c5 xs]
    rw[A5R b8]
   rw[wX lG.symm (AI O c7)]
  .rintro σ H1 ⟨⟨o8,us1,xss,u0,rfl,c1,c2,c3,c4,c5,c6,P1,o1⟩,_⟩;exact DS (k l _ _ H1 c1 c4 c5 BQX P1 o1 fl)
#where
#where
section
variable {H:Hp}{n:Nat}{ns:AA}{rss:LLI}{xs:qJ}{σ:L2.St}
def Tq.of{m:Nat}{a:LLI}(h:B2J)(b:dL)(hR:B01):hY a BW4:=uA h.ok hR
def FoT.same{n m:Nat}{rss:LLI}{H H':Hp}{v:V}(h:BFQ H)(s:BN):BY5:=by
 rw[EMK a b]
 rw[IH h]
 rw[HM ⟨t,zs,a,e,AY0,CZ2,b⟩]
def FoT.pot{n m:Nat}{rss:LLI}{H H':Hp}{v:V}{a b:qE}(h:BFQ H)(P:LP)(o:GT):BY5:=by
 rw[EMK c d]
 rw[IH h]
 rw[HM ⟨t,zs,c,e,AR1 h1 h1,AES h2 P o,d⟩]
def SyT.pot{H H':Hp}{v:V}{ns:AA}{rss:LLI}{a b:qE}(h:A7P)(P:LP)(o:GT):E7O:=by
 obtain⟨c,n,r,t,f,p,j,e,e1,e2,d,g,i⟩:=h.ex;exact⟨c,n,r,t,f,p,j,e,AR1 e1 e1,DUH,DUG,Its.pot g P o,i⟩
def DkAt.pot{C:qE}{H H':Hp}{p a b:qE}{ns:AA}{rows:LLI}(h:D85)(hp:NH p)(P:LP)(o:GT):DT8:=by
 rw[B7A n t g d e f h.ex];exact⟨dx,n,r,t,c,q,g,AO o hp e1,DUH,DUG,Its.pot e P o,f⟩
structure St0(C:qE)(H:Hp)(a b x:qE)(v so:V)(ns:AA)(rss:LLI):Prop where
 P:LP
 S:A7P
 D:DkAt C H x ns rss
 q:NH x
 F:FoT ns.length 150 rss H so
def St0.same{C:qE}{H H':Hp}{a b x:qE}{v c:V}{ns:AA}{rss:LLI}(h:DCH)(s:BN):DHJ:=⟨h.P.same s,h.S.same s,h.D.same s,h.q,h.F.same s⟩
def St0.pot{C:qE}{H H':Hp}{a b x:qE}{v c:V}{ns:AA}{rss:LLI}(h:DCH)(P:KF)(o:GT):DHJ:=⟨P,h.S.pot h.P o,h.D.pot h.q h.P o,h.q,h.F.pot h.P o⟩
structure Ns0(ns:AA)(rss:LLI):Prop where
 N:OP
 n1:A5X
 n7:ZQ
 r3:DS2
def Ns0.vo(h:Ns0 ns rss)(a:jG)(b:D49):XF:=⟨h.N,a,h.n1,h.n7,h.r3,b⟩
section
variable {P:qH}{w:World}{K:qF}{mg:BA}{base:Heap}
def b5R{Q:VK}{c:V}(hσ:rS σ[5]? c)(e:FoT n 150 rss H c)(hR:B01)(k:∀d zs a H',BN->ACE d->E3J->zs.length<=200->BT t a BW4->A0W d):A2G tIf (M0 (tOp C2T DA7 (tC .non))) DA7 (b5T K9):=by
 rcases e with⟨rfl,_⟩|⟨t,zs,a,rfl,h1,h2,b⟩
 .rw[EBC];exact C4 ⟨FF,λp f=>k p [] [] _ (ACO f) A0 .nil FF λ_ z=>yZ⟩
 .rw[EBC];exact E8 (EM hσ (k t zs a H kJ h1 h2 (nN APT (wJ b.ok AK hR)) (Tq.of b AK hR)))
def c3W{C:qE}{Q:UQ}{a b x e:qE}{v u:V}(h2:DSK)(q:DU4)(i:BVY 7 e)(S:ACW H u)(c:XF)(l:BO7 e)(k:D6C) :
  EN8 (tC (sQ "way ")) c5B (v8 7):=by
 rw[OR s]
 obtain⟨dx,y,B,ds,dc,A,p,n,_⟩:=S.D.ex;rw[AD d c.xl m c.n7];have f:xE:=λz j=>AEP (c.v z j).1 (c.v z j).2;have g:=a3a f DHM;refine⟨_,q,x,dx,_,rfl,n,rfl,_,i,AL e,xs,rfl,CU e l,f,DHM,EOJ (by rw[dR (4+_) 0x243ac535c7eaab32cac335f17d6e s g]) CUG xs (AFL c) c.v r⟩
 .rw[c5e (by have:=c.n1;rw[iB b1D d])];rfl
 have hw:BZY:=by
  rcases r with⟨_,h⟩|⟨z,_⟩
  .exact h
  rw[II z AK]
 rw[C51 ⟨_,h2,_,i,v,AL e,ns,rss,xs,o,rfl,CYL,CU e (WE l),hw,λw t=>DBG⟩];rw[AF BCC (GP (s2.trans t))]
def c7X{C:qE}{Q:UQ}{a b x i:qE}{v F:V}{m:Nat}(h2:DSK)(A:DU4)(q:BVY 7 i)(r:GK σ 8 CVB)(g:dL)(S:ACW H F)(c:XF)(s:BO7 i)(k:D6C) :
  EN8 (tOp a2E (tOp a2E (tC (sQ "lay ")) (DIS 8)) (tC (sQ " "))) c5D (J9 (J7 7) (v8 8)):=by
 rw[OR n]
 obtain⟨dx,J,L,ds,dc,K,w,u,_⟩:=S.D.ex;rw[AD f c.xl t c.n7];have j:xE:=λz g=>AEP (c.v z g).1 (c.v z g).2;have l:=a3a j DU5;have d:DPA MV:=U9 ⟨wE,A9L (ABT DE8 b7V g)⟩;refine⟨_,A,x,dx,_,rfl,u,rfl,_,r,?_⟩;rw[AEN K9];rw[EC a7J (x:=MV) (AEP wE (ABT DE8 b7V g))];refine⟨_,_,rfl,rfl,by rw[dR (4+_) 0x243ac535bf42a03d67ff11f17d6e n d],_,_,rfl,rfl,by rw[C1];rw[dR (4+_+1) 0x3f82c76e7d281ceffdbff11f17d6e n d],_,q,AL i,xs,rfl,CU i s,j,DU5,EOJ (by rw[C1,C1];show 4+_+1+_<=_;exact lq 0x15c9137a64a0af3e18b2e67a3ceb74335f17d6f n l d) (wd "lay") BYE (DZ (iY m xs rfl c g)) (AF5 p) B⟩
 .rw[MW c5e List.length_cons a0U];cases xs with
  |nil=>rw[FO f (by have:=c.n1;show ¬0=_;rw[NE 0x9c9190a9d8c066d])]
  |cons y ys =>
   show DL8=DL8;rw[APW (vt (MV::FY)=DQ8),show D5H++(DQ8)=BK1 "lay " (C9 m) " " ++ CMH from ?_];rw[show Str.ofString "lay "=D5H by rw[eQ],A0D (Str.ofString " "=bk)];rw[AWF]
 .rw[TR (List.mem_cons.mp p) z']
  .rw[BCY]
  .exact c.v z z'
 have hw:B6V:=by
  rcases B with⟨z,_⟩|⟨_,D,G,e,h⟩
  rw[II z AK]
  .rw[B2G]
   obtain rfl:m=D:=Int.ofNat.inj e1;rw[AF e2 h]
 rw[C51 ⟨_,h2,_,q,_,r,v,AL i,ns,rss,xs,m,o,rfl,CYL,CU i (WE s),hw,λI E=>DBG⟩];rw[AF BCC (GP (s2.trans E))]
def sc_law:D18 ["_law_script","_law_pot_here","_law_system","_law_width","_law_desk","_law_some","_law_k","_law_one","_law_most"] a4W:={}
def b3I:D3C "way"=ln (wd "way") xG:=by
 have key:∀n:Nat,∀w:Str,w++AVG n=ln w xG:=λn=>by
  induction n with
  |zero=>intro w;rw[IR Str.ext'];rw[E1V w.cps #[] w.cps]
  |succ n a =>
   intro w;have e:AVG FJ=bk++(D3C "0"):=by
    rw[CVT Str.ext'];rw[Str.cps_append,Str.cps_append,Array.toList_append,Array.toList_append];unfold X7;rw[List.replicate_succ,List.flatten_cons];rw[AS9 List.toList_toArray]
   rw[e,BAK a];show _=JD (w::C9 0::XQ n 0 map C9);rw[U6,R9];rfl
 exact key n _
abbrev c9g(C a0 a b x:qE)(v so:V)(ns:AA)(rss:LLI)(i:Nat)(σ:L2.St)(H':Hp):Prop:=∃o6 o7 o8,σ=[DE a0,MB,JZ,DL A40,BCD,AC so,o6,o7,o8]/\ACW H' so
def c6L{Y:qE}{f:qE}{fd:FuncData}(F':Fun K "law" "law" a4W f fd)(T:AW)(k:Cls K Y)(M:E6X)(L:yU)(N:A7U)(G:E8F)(C:E8E)(Z:XI MakeOk base "Desk" Y 11 AZB (b2L Y))(g:XI MethOk base Y "say" 10 AZA (b2I Y))(F:C7E)(p:EFJ)(c:C34)(j:EHJ)(u:EIV)(J:EFK) :
  AA3 base CX0 13 f fd AS1 (b2K K):=by
 refine F'.okJ sc_law (DY vs H Q E h) (λc2 A c1 s H vs Q E q h=>?_)
 rw[QR a D]
 .obtain⟨a0,cs,rfl,hS,hl,kk⟩:=h;rw[OR hz]
  rw[BU (BX 1 sc_law.nd (A1G M NB)
 (BX 2 sc_law.nd (A1G G HX)
 (D2W sc_law.nd ABF
 (BX 4 sc_law.nd (c0n Z CBM rfl (CZ (A1G C IZ)))
 (BX 5 sc_law.nd (A1G F (FU ABF (AB0 RJ)))
 (A1 (iI (iL RJ) 6 sc_law.nd
 (BX 7 sc_law.nd (B0Y p (FU EIS gZ))
 (BX 8 sc_law.nd (B0Y N (AOL (BF7 (CZ (B0Y L RJ)))))
 (A1 (EAW
 nU
 B4)
 (A3 (CNH (BLG (LX M9 (M9 (M9 B2 (AE8 (aL 8))) B2) CN7)) u (XH 7 (aL 8))
 nU
 B4))))))
 (A1 (iI (A5F (B0Y J (BSW EIS))) 7 sc_law.nd
 (A3 (EAW
 nU
 B4)))
 (FK (a0C (BLG (LX M9 B2 (QZ c0l B2 3))) B2)))))))))]
  rw[wA ⟨_,rfl,a0,cs,rfl,hS,BI 0x69c5bc7698434e96a5 hl,λa b H1 _ _ P1 _=>?_⟩ (iV a b P1 (λv D B X caps R H2 hv O h3 P2 _=>?_))];rw[EF];obtain⟨va,sn,sr,ss,sc,sp,us,rfl,v1,v2,v3,v4,_⟩:=hv.ex;have a1:Ns0 D B:=⟨O.nm,O.n1,O.n7,λr q=>⟨A1C O.rw q,h3 r q⟩⟩;rw[FQ b1 B1C v4.1 O.rl]
  have a3:qW B (r.length=D.length):=λr q=>A1C O.rw q;rw[AD n1 O.n1 n7 O.n7];rw[EO7 ⟨_,rfl,WS,D,B,X,caps,R,rfl,hv,O,λH3 s3=>DY x dx hx a9 b0⟩];obtain⟨d,hd,d1,d2,_⟩:=c5z O;rw[sU hw b2 a6x O];rw[hJ b3 (upd H3 dx CIV x) none (A5 b0.symm) hx]
  have s0:aI H3 (upd (E37 H3) x (.ins Y dx [])):=bH (VC H3) a9 b3;refine⟨x,dx,a3X D B X caps R,d,rfl,A0,by unfold a3X;exact BR List.cons_ne_nil,hw,~~~b8x b2,hd,AH d1 n7,AH d2 O.rl,λH4 a2 kp=>nW⟩;rw[d1,d2]at a2;have W:aI H3 H4:=E18;have qx:NH x:=E2 (P2.same s3) hx;have W:=s3.trans W;have a8:SyT H4 WS D B:=⟨va,sn,sr,ss,sc,sp,us,rfl,vH v1,vH v2,D4W,D5R,b1⟩;have P4:=P2.same W;clear s0 s3 kp b3 hx a9 b0 hv hd hw b2 O h3 P1 P2;rw[CW ⟨_,rfl,va,_,1,_,rfl,rfl,QA W v1,rfl,_,rfl,sr,us,B,D.length,150,rfl,D4W,D5R,b1,a1.r3,n1,n7,AK,BS so H5 s5 hF⟩];have S5:St0 Y H5 a b x WS so D B:=⟨P4.same s5,D4I,a2.same s5,qx,hF⟩;clear W s5 P4 a8 a2 hF v1 v2 v3 v4;rw[CW ⟨8,rfl,AK,AK,?_⟩];rw[C2H (n:=8) (c9g Y a0 a b x WS so D B) (B1P S5)]
  .rintro i σ H6 _ ⟨o6,o7,o8,rfl,S6⟩;rw[EF];rw[WW ENF];rw[iF S7 S6.same s7 ⟨_,rfl,a,b,sv,zs,a7,D.length,rfl,S7.P,e7,S,λt ht=>⟨gB hT ht,A5E hT t ht⟩,n1,n7,λv xs H8 hv a6 a5 P8 U=>?_⟩];rw[DU xa I hv];rw[AD S8 (S7.pot P8 U) hV (a1.vo a6 a5)];rw[EMJ];rw[CW (A7N 151 S8.P (λr9 H9 c4 c5 P9 f9=>iO (w5 (CB 3) 0x696e11a51062b17d6d hz) pA a4))];rw[AD I (LK f9 S8.P I I) S9 (S8.pot P9 f9)];rw[AD sA (A53 (VC H9) [CI 150,CI 150,CI r9] a4) SA (S9.same sA)];rw[AVR pA SA.P (E2 P9 a4) 3 3 (DY r HB q PB fB)];obtain⟨m,rfl,hm⟩:∃m:Nat,r=V.int m/\m<=200:=by
    rw[CPQ q q]
    .rw[AV 150 e AK]
    .rw[AV 150 e AK]
    .rw[AV r9.toNat (IC e (B26 r9.toNat r9)) AG]
   rw[AD I (LK fB SA.P D73 D73) SB (SA.pot PB fB)];clear SA S9 S8 sA fB PB f9 P9 a4 q;rw[EKM SB hV I];rw[xA];refine GQ (c7X rfl rfl rfl rfl hm (SB.same sC) hV (AD4 sC)) HD sD;exact C4 (B1P (SB.same (sC.trans sD)))
  .rintro σ H6 ⟨o6,o7,o8,rfl,S6⟩;refine AJ3 ENF;rw[iF S7 S6.same s7 ⟨a,b,sv,WS,D,B,zs,a7,rfl,S7.P,S7.S,a3,n1,n7,e7,S,b5,hT,λl us c7 H8 el b6 b8 c6 P8 U fl=>?_⟩];have S8:=S7.pot P8 U;rw[EMJ];rw[B3B l el];refine UX O2 l us (OB σ (c9g Y a0 a b x WS so D B i σ H'/\ASK H8)) ⟨B1P S8,fC⟩ (kP σ zz (ZY AW9 el)) ?_ ?_
   .rintro i y σ H9 hy ⟨⟨o6,o7,o8,rfl,S9⟩,s9⟩;obtain⟨xs,c0,_,xa,rfl,I⟩:=b6.mem hy;obtain⟨a6,a5⟩:=b8 xs c0;rw[EKM S9 (a1.vo a6 a5) (AD4 s9)];exact C4 ⟨B1P (S9.same sC),s9.trans sC⟩
   .rintro σ H9 ⟨⟨o6,o7,o8,rfl,S9⟩,s9⟩;obtain⟨dx,dn,dr,ds,dc,dq,c3,e1,_⟩:=S9.D.ex;have b4:EQ (B96 D.length NW) YZ:=λx hx=>DHU
    have b7:=a1.vo (xs:=BHE) List.length_replicate b4;have b9:BV (AVG D.length)<=14:=by
     show XQ D.length (DM9 cps.toList) flatten.toArray.size<=14;rw[List.size_toArray,List.length_flatten,List.map_replicate,List.sum_replicate_nat,show DM9 cps.toList.length=2 by decide];rw[DQ 0x232ea614ebc80534b65 n7]
    refine⟨_,rfl,x,dx,_,rfl,e1,rfl,_,rfl,wd " 0",D.length,rfl,rfl,AK,AUJ,_,_,rfl,rfl,by rw[dR (3+_) 0xbd47ef8902a36c666a1f17d6e hz b9],x,CUG,D,B,BHE,?_,S9.D,AFL b7,b4,λo H2 O s2=>nW⟩
    .rw[<-b3I];rfl
    have hw:o=.ok (wd "-"):=by
     rcases O with⟨_,_,h⟩|⟨z,_⟩
     .have hA:kQ Ans B BHE:=ans_iff.mpr λs _=>a9X s D.length;have hs:=a7I D.length;rcases h with⟨z,_⟩|⟨_,z,_⟩|⟨_,_,js,hG,rfl⟩
      .rw[tE hA]
      .omega
      .have:=b1T (λx hx=>DHU) hG;obtain rfl:js=[]:=List.length_eq_zero_iff.mp (AX 0x5a821effb6daada86abf4e417 hs this);rfl
     rw[II z AK]
    rw[BO hw kk _]
#where
#where
universe K51
namespace L2
open PySem PySem.Spec PyProof.Rows
open PySem.W
variable {K:qF}{h:Heap}{mg:BA}{x qn m:Str}{st:Stmt}{C:qE}
structure FG(K:qF)(x:Str)(st:Stmt):Prop where
 ex:EOZ (C5D/\DYQ/\DD2/\B0E)
structure MG(K:qF)(C:qE)(m qn:Str)(st:Stmt):Prop where
 ex:EOZ (E7J/\D1M/\DYR/\DD3/\B0E)
def FG.fa(g:BD x st)(X:AXO)(G:AU6){ps:AA}
  (f:BFX e d (E1E DUP e d):=by intro _ _ _ _ _ _ _ b;first | rw[C0C (c6V b)] | (rw[BK3 (c6U b)]) | rw[DLS (c6T b)] | (obtain⟨_,_,_,_,rfl⟩:=c8V b;rfl) | (obtain⟨_,_,_,_,_,rfl⟩:=c9p b;rfl)):AJZ:=let ⟨_,_,_,_,_,_,_,_,_,_,a,l,c,k⟩:=g.ex;c9b X G a l c k f
def MG.ma(g:MG K C m qn st){ps:AA}
  (f:EGO:=by intro _ _ _ _ _ _ _ e;first | rw[C0C (c6V e)] | (rw[BK3 (c6U e)]) | rw[DLS (c6T e)]):DDN:=let ⟨_,_,_,_,_,_,_,_,_,_,a,i,l,c,k⟩:=g.ex;c8S a i l c k f
universe L2
namespace K51
open PySem PySem.Spec PyProof.Rows L2
open PySem.W
/---/def nI(K:qF)(x:Str)(f:qE):Prop:=C5D
def all_mk{l:PySem.W.OpenLaw}{w:World}{K:qF}{h:Heap}{mg:BA}{fa:qE}(X:AXO)(G:AU6)(o7:A0Y "law" fa)
 (g1:BD "free" b0Q)
 (g2:BD "within" a4S)
 (g3:BD "row_sum" a3d)
 (g4:BD "sums" b0M)
 (g5:BD "is_answer" a0N)
 (g6:BD "pull_of" a3e)
 (g7:BD "falls" a7F)
 (g8:BD "below" a7G)
 (g9:BD "plus" b0O)
 (k0:BD "minus" a7D)
 (k1:BD "times" a7A)
 (k2:BD "size" b0N)
 (k3:BD "nought" a4V)
 (j7:BD "unit" b0L)
 (k4:BD "first_steps" X0)
 (k5:BD "raised" a4T)
 (k6:BD "steps" a7B)
 (k7:BD "is_barred" a0M)
 (k8:BD "next_level" a0j)
 (k9:BD "least" a7E)
 (l0:BD "often" a7C)
 (l1:BD "laid" b0P)
 (l2:BD "is_name" a3f)
 (l3:BD "is_written" a0k)
 (l4:BD "read_figures" T0)
 (l5:BD "read_number" W9)
 (l6:BD "parted" a4U)
 (l7:BD "read_term" a0L)
 (l8:BD "read_terms" a0h)
 (l9:BD "read_sum" a2b)
 (m0:BD "take_number" W5)
 (m1:BD "take_all" a1Z)
 (m2:BD "read_system" W8)
 (m3:BD "show_vector" W6)
 (m4:BD "show_term" a0K)
 (m5:BD "show_terms" a0g)
 (m6:BD "show_row" a2a)
 (m7:BD "show_numbers" S4)
 (m8:BD "show_system" W7)
 (m9:BD "next_place" a0i)
 (n0:BD "way" b6n)
 (n1:BD "is_line" a3g)
 (n2:BD "filled" a4X)
 (n3:BD "show_times" a0f)
 (n4:BD "_law_pot" a2c)
 (n5:BD "_law_next" a0O)
 (n6:BD "_law_of" a3h)
 (n7:BD "_law_names" a0m)
 (n8:BD "_law_small" a0l)
 (n9:BD "_law_listed" X2)
 (o0:BD "_law_vector" X1)
 (o1:BD "_law_least" a0n)
 (o2:BD "_law_drawn_one" N2)
 (o3:BD "_law_answers" T5)
 (o4:BD "_law_way_due" T3)
 (o5:BD "_law_lay_due" T4)
 (o6:BD "_law_long" a0P)
 (a70:nI K "law" f70) (o9:FnL K f70 "law" "law" a4W o70 d70 s70 v70 x70 p70 n70 c70 t70) (j6:BEI c70 "law") (o8:XT keepIn (AL f70))
  (z1:LU "ValueError") (z2:LU "abs") (z3:LU "all") (z4:LU "any") (z5:LU "enumerate") (z6:LU "int") (z7:LU "isinstance") (z8:LU "len") (z9:LU "list") (p0:LU "max") (p1:LU "min") (p2:LU "range") (p3:LU "set") (p4:LU "sorted") (p5:LU "str") (p6:LU "sum") (p7:LU "tuple") (p8:LU "zip")
  {f:qE}(d5:nI K "TooMany" f) {d:qE}(b4:nI K "NoAnswer" d) {a:qE}(f4:nI K "Finder" a) {b:qE}(h4:nI K "Draft" b) {c:qE}(i4:nI K "Desk" c) {h0:Tok}(d6:DVZ "FIGURES" "0123456789" h0) {h1:Tok}(d7:DVZ "LETTERS" "abcdefghijklmnopqrstuvwxyz" h1) {j5:Tok}(j3:BY1 "TOP" 1000000000000 j5) {C:Tok}(r:BY1 "GREATEST_MOST" 2000 C) {U:Tok}(z:BY1 "GREATEST_WAY" 300 U) {e9 f0:Str}{p:qE}{d9 g d3:AQ}{e1 d8:Bool}{f1:AA}{b8:tV}{e0:IY}{e2 e3 e4 e5 e6:SZ}(lx_TooMany:AA1 f (AN6 e9 f0 f p d9 g e1 f1 d3 d8 b8 e0 e2 e3 e4 e5 e6 "ValueError.__new__")) (I:DR3 g) (H:CX4 p) (F:CZY p) (E:A2D g.contains) {c9 d1:Str}{m:qE}{b7 j b2:AQ}{c0 b5:Bool}{d2:AA}{a6:tV}{b9:IY}{c2 c3 c4 c5 c6:SZ}(t:AA1 d (AN6 c9 d1 d m b7 j c0 d2 b2 b5 a6 b9 c2 c3 c4 c5 c6 "ValueError.__new__")) (d4:DR3 j) (d0:CX4 m) (c1:CZY m) (b6:A2D j.contains) (j4:NU (TK (AE4 (Value.ref f) g) d)) (f8:C1R a) (f5:BPJ a) (f9:BPK a) (g0:C22 BF) (f7:BPL a) (f6:AT7 BF) (a5:A6F "rows") (a3:A6F "caps") (R:A6F "begun") (a4:A6F "here") (S:A6F "found") (B:A6F "walked") (h9:C1R b) (h5:BPJ b) (i0:BPK b) (i1:C22 GG) (h8:BPL b) (h6:AT7 GG) (a1:AGY "names") (b1:AGY "rows") (a2:AGY "sides") (b0:AGY "caps") (Q:AGY "prices") (i9:C1R c) (i5:BPJ c) (j0:BPK c) (j1:C22 fS) (i8:BPL c) (i6:AT7 fS) (a8:AGZ "names") (c8:AGZ "rows") (a9:AGZ "sides") (c7:AGZ "caps") (a0:AGZ "prices") (m_Finder___init__:xJ "__init__" "Finder.__init__" M5) (i7:xJ "step" "Finder.step" a6d) (k:xJ "step_within" "Finder.step_within" J1) (i2:xJ "level" "Finder.level" a4Y) (Z:xJ "told" "Finder.told" X4) (O:xJ "paper" "Finder.paper" T7) (N:xJ "ended" "Finder.ended" T8) (u:AGU "__init__" "Draft.__init__" N4) (a7:AGU "take" "Draft.take" a0o) (o:AGU "take_names" "Draft.take_names" L3) (x:AGU "take_sum" "Draft.take_sum" N3) (Y:AGU "whole" "Draft.whole" X5) (A:xK "__init__" "Desk.__init__" O5) (e7:xK "say" "Desk.say" a2d) (W:xK "say_by" "Desk.say_by" X6) (h7:xK "say_rows" "Desk.say_rows" a4f) (e8:xK "say_cheapest" "Desk.say_cheapest" a1L) (M:xK "say_way" "Desk.say_way" T9) (L:xK "say_lay" "Desk.say_lay" U0) :
  ∃fd:FuncData,(BLB v [v] [("_law_script",v)])/\BL4 BTJ (C5O K CX0 13 fd AS1 (b2K K)):=by
 have e:=o7.symm.trans (B9A a70);rw[CG];have T:AW:=⟨LT z1,LT z2,LT z3,LT z4,LT z5,LT z6,LT z7,LT z8,LT z9,LT p0,LT p1,LT p2,LT p3,LT p4,LT p5,LT p6,LT p7,LT p8⟩;rw[DN (fnOf "law" "law" (O0 a4W) (F3 a4W) (A2 a4W) .none v70 x70 p70 n70 c70 t70) (λs v=>.of_eq rfl) (DV base XB GB)];rw[AJC i d5 D b4];rw[AJC h3 f4 i3 h4];rw[AJC j2 i4 f2 d6];rw[AJC f3 d7 b3 j3];rw[AJC y r J z];have V:Cls K a:=⟨f8,f5,f9,g0⟩;have n:Cls K b:=⟨h9,h5,i0,i1⟩;have q:Cls K c:=⟨i9,i5,j0,j1⟩;rw[AD FL (a5L (st:=a4W) o9 j6 o8) RS (aH b0Z g3.fa)];rw[AD SU (A7D c2C g4.fa RS) IA (a7R (KQ g5.fa) T SU)];rw[AD FA (S0 b7A g7.fa (eD b1a g6.fa) SU) BE (aH b7D g8.fa)];rw[AD ST (S0 b7r k6.fa FA (b4q (k5.fa X G))) NX (S0 a6k k8.fa ST (A7D a7Q k7.fa BE))];have FS:=EJJ a5p k4.fa T (eD b3a j7.fa) (eD b4n g2.fa);have UF:FiTx K a:=⟨V,a5,a3,R,a4,S,B⟩;rw[AD MI ((ARV b7z (mg:=mg) m_Finder___init__.ma UF).make h3 f7 f6) MS (b7q k.ma UF T NX FS IA)];rw[AD ME (C2W b7B N.ma) MT (C2W c2B Z.ma)];rw[AD MP (C2W b7t O.ma) LE (S0 b7x k9.fa UF V MI MS ME MT MP EL3)];rw[AD OC (b0V XB D t d4 d0 c1) OT EL3];have RF:=a4h (KQ l4.fa) T (ARV a6l (KQ l3.fa) T f2);have UD:DrTx K b:=⟨n,a1,b1,a2,b0,Q⟩;rw[AD RN (A7D a5o l5.fa RF) RM (S0 a9k l9.fa b3 (S0 a6j l8.fa (S0 a7P l7.fa b3 RN) (eD b4r l6.fa)))];rw[AD j8 ((ARV b7C (mg:=mg) u.ma UD).make i3 h8 h6) j9 (b7p a7.ma UD T n (S0 a5k m0.fa b3 RN) (a6g o.ma UD T (A7D b1b l2.fa f3)) (a9h x.ma UD T RM))];rw[AD RY (S0 a5n m2.fa UD n j8 (S0 a9i m1.fa n j9) (b7n Y.ma UD T)) SS (S0 a5m m8.fa (a9j (KQ m6.fa) T (a6i (KQ m5.fa) T (aH a7O m4.fa))) (eD a4g m7.fa))];rw[AD NP (aH c2F n5.fa) OF (c8L (KQ n6.fa) T NP)];rw[AD SM (b7s (KQ n8.fa) T NP OF (C1M b7v n7.fa)) NO (EJJ b4s k3.fa)];rw[AD PL (aH c2E g9.fa) MN (aH b7w k0.fa)];rw[AD UN (aH b3a j7.fa) WY (S0 c6H n0.fa IA NO UN PL (S0 c6K m9.fa IA FA) OC)];rw[AD LD (c2G (KQ l1.fa) T (eD b7u l0.fa) MN (eD b7o k1.fa)) SV (aH a5l m3.fa)];rw[AD FI (aH b4u n2.fa) FR (C8U c2H (mg:=mg) (KQ g1.fa))];have UK:DrTx K c:=⟨q,a8,c8,a9,c7,a0⟩;rw[AD SW (b0X M.ma UK T J IA (eD c2D k2.fa) WY FI OT) SL (b0Y L.ma UK T IA FR LE LD (A7D a6h n3.fa SV) FI OC)];have CN:ClsN K d f:=⟨b3D t b6,_,_,_,_,_,_,_,_,_,_,_,_,_,_,_,_,_,lx_TooMany,E,j4⟩;rw[AD SY (c6I e7.ma UK T q b3 RN (A7D b1c n1.fa y) (b4p W.ma UK T q SW SL) CN D i) KI ((b7y (mg:=mg) A.ma UK RY).make j2 i8 i6)];rw[AD LL (c8M (KQ o1.fa) T FR LE i (b3D lx_TooMany E)) AN (aH c8Q o3.fa)];have VE:=aH b4o o0.fa;exact c6L FL T q (eD c6J n4.fa) NP OF SM SS KI SY LL (C1M c8P o2.fa) VE (c8K (KQ o4.fa) T AN (OkE.no WY) (eD b4t n9.fa)) (c8O (KQ o5.fa) T AN LL LD VE) (C1M c8N o6.fa)
universe K51
#where
structure PySem.W.Fast where(tw15871010098922635298 tw2479107329642401994 tw16704846197167545774 tw13750790065045554987 tw8043108893231324222 tw3426988057689746959 tw14229448240200055827 tw14403463173035723176 tw17737241485796541333 tw14025174247862911573 tw7457345401742262528 tw13564336569769367021 tw515313294637157205 tw1204884325382883363 tw12414062042853476774 tw8065554305127637433 tw5715111063871285301 tw12960151883486388208 tw16429057999236384100 tw11737757058608958482 tw11937457710515718514 tw328657901408840091 tw5440450582926346035 tw1339092077717082374 tw13096110943750197343 tw18052139219407757197 tw11234705270363722060 tw2380881176486402076 tw3001535338944738529 tw1622610891506364045 tw8699674140347977716 tw15008408460812044973 tw5603908617796703098 tw9824881814137373390 tw12214058513905948363 tw7862905812677916644 tw12431766689595694110 tw2204900493515109487 tw2794364108703835639 tw15185910041551897530 tw12663172538885929774 tw9590145974009680253 tw17840624397376463018 tw8472342993222789560 tw8852933017569355418 tw12899683456635498609 tw13851827305714102668 tw2992854357781503276 tw9774763540350972066 tw17342819922846531939 tw10183117103263631143 tw15820879939526859965 tw5567112081451030056 tw5594860973849456555 tw5744265115434121777 tw8152046695769250959 tw2683856414927497058 tw930747320549585625 tw10196652363889387913 tw10011436649841602114 tw7909585936413554312 tw6473823687689493906 tw4609795410869877038 tw6059245732043224813 tw11424365730925546720 tw2133356190742938419 tw16931539832805217889 tw9604789571397695051 tw16244602451914736904 tw13544394888995042817 tw9060296582925544320 tw15851187243456732414 tw14383915764679930537 tw2178994371208848466 tw5592464155618342399 tw3600560996592465351 tw4328621102100617347 tw8644426644599225147 tw6851076248127073354 tw13227477333693017967 tw1678347581534992240 tw10748862408911855051 tw9708626346930593008 tw15306538443173620344 tw5146162458739276838 tw8926354074697188833 tw13648044867945002436 tw1404073634968428588 tw3241436206671501906 tw4924062613938116845 tw13694530823451315248 tw40206008153023514 tw7411134227550454491 tw11823839583105352571 tw6351047606429337703 tw15583025979921654093 tw2108106367670702217 tw12418938110921040888 tw14317170402805467864 tw1516250683626091582 tw232074405731472629 tw10278316697901618941 tw15892049471115317171 tw3065744450165811531 tw6869678148606136530 tw14021498073411419615 tw10242462465729753263 tw3698692696389156736 tw11191725996121254584 tw4957040328311929476 tw1102634881597057070 tw11417006126041983143 tw7324116071963390935 tw3136688426219731360 tw5348943876831509549 tw5102351639430881326 tw7540776110743941612 tw14822079792935587702 tw665600932005174719 tw385538395203271792 tw5322292224650607097 tw4249862754869548188 tw12706728477245812044 tw10788445386264134454 tw16489655606869205363 tw6407139083369050106 tw8134353493887069082 tw18244308271740223231 tw10558448097825446634 tw4702995022029266519 tw8176311493585169000 tw15100815070616516361 tw11095554201474204099 tw11273684941436281222 tw9996612632443924536 tw2269311664908369128 tw742707995951124851 tw17433867903487040761 tw11794666030671715226 tw7260739255242009082 tw373524549628347101 tw3423108107480589589 tw8229931224513935721 tw8595454308119371003 tw17128833841200772370 tw17856370306927818538 tw14776743885894705257 tw14314145981884049088 tw2298837869262954473 tw1847249794875717379 tw13505014325184629519 tw6099394515935691197 tw5868049428249157577 tw10159030020694678544 tw8225120226257744605 tw11305448413507447024 tw10903466197083191420 tw13144478187487654018 tw2773465186349916825 tw16714627010243135656 tw4760320233391432174 tw12978075554204604781 tw5455618103606550455 tw11433786031399495679 tw14396700188089371056 tw11873784221992771315 tw2048439133525212226 tw11476396147572235700 tw12838998310159766132 tw6177946660014228530 tw14759190078907213650 tw3594446654539431836 tw2365319741397172337 tw9854009902957182564 tw9980417422626402506 tw1124640157335439935 tw5258243303469937167 tw5364548691612210350 tw5017599041844789385 tw8503854515111924390 tw1870980524974202347 tw1137552653918297040 tw13248445317599223340 tw1562535005987033986 tw13177521029934291818 tw11226305825013164792 tw9519269060495825885 tw10951354453167297168 tw16218255006433242704 tw4847776013566145576 tw2131066492515832095 tw4346246943312348783 tw1182611447009109778 tw6026620157508255707 tw9944730025494444666 tw5438929260335262165 tw2833379629526166286 tw5323591709124329215 tw1862282385161379427 tw11253870339494215278 tw4578388882812169832 tw248910562020061139 tw18403942423682073887 tw12761470454771733064 tw16037612953408273418 tw16022039451531324458 tw18124398549245332483 tw4941048529899698190 tw15650820450699517633 tw9079811857260964684 tw14332008092817962399 tw5742242195131856211 tw205506234553713680 tw15725037189905702565 tw2170931970658723673 tw14509265685920375241 tw11872638846068541814 tw16395858895921623044 tw16483543133532832459 tw13426475262589782411 tw11872491001788920927 tw3774136573703346514 tw9573630194355910001 tw11106426945184996741 tw287937202472484294 tw2005156909464279260 tw5918808954008411623 tw12756797126881005919 tw17567269242625956827 tw4512972607390531722 tw16286661239644613227 tw11736479751862086891 tw5340202452939259929 tw12403131678389628040 tw18368810515101645268 tw10297357139587212787 tw9985548970406147876 tw14650789427577911850 tw4573391514625124536 tw11627027149339913168 tw5060699612450209069 tw4917292174930277146 tw15476821412705459110 tw12334682804318711996 tw15286585884586570039 tw7594291702906819179 tw2035854055074058191 tw18386412232513365112 tw6899604102614545705 tw11551346770048178199 tw16906386263503783999 tw15202699959907809665 tw7922457729432043011 tw1752054325256181694 tw7656415514780733599 tw15115581213938508106 tw5121144794708689268 tw1270677095811212700 tw12729068672133452722 tw12804422912484492029 tw17847263716470061560 tw15169017938926019782 tw6559258894819698694 tw4919481950326596319 tw9522338851159580910 tw6011662251341153907 tw3603473093379567288 tw16268616205815953490 tw401185200826095157 tw2029784463658938895 tw16499226744912187290 tw1170883521340985098 tw18318684916787534996 tw12802160088969637992 tw15788068221577899132 tw3339413916016923639 tw16039300259426180985 tw1903996284831845889 tw422717819816204392 tw719978663624055493 tw8616828652025659988 tw15976200907700228727 tw4088552058862707733 tw17692921071558329620 tw14608330054584233233 tw10916853811399351080 tw454002860823696762 tw2448964727427108934 tw9985596011542586167 tw17275225163186142249 tw3673851099964249579 tw95031727945374278 tw12141285010551932933 tw12708997152341389453 tw345078016965246906 tw664003776973774424 tw10329374886607809801 tw5562256801284989040 tw2981702026311866952 tw8569038962003280897 tw17327547421499774014 tw8509950830878248235 tw2219056775401355812 tw15925056589732391771 tw137953845793634262 tw8096597661435589108 tw17437430475095320461 tw15341324419734085733 tw14051496319134486488 tw17688223400346601818 tw9561203539687024295 tw3496397778098754470 tw14835491201784213300 tw4636528955849337166 tw9266203980789302391 tw10561248851399393135 tw14875698678137236447 tw9836291002482029630 tw17896560964795651694 tw11477616820214741932 tw6849851459085462006 tw10415202350872374518 tw9290067721640169444 tw5848877681470200824 tw15771366662365020269 tw16517120450136435588 tw8641101821321848555 tw11101807355497456876 tw14396562146743400799 tw5514789894023223345 tw2371020369176017784 tw11808216255138951253 tw4462124968215062301 tw6433371626378877961 tw10011891217078052232 tw12156760029365924823 tw9648336292033794971 tw7897564902426188644 tw13921315992983467192 tw14553710628016190862 tw1862491273855896112 tw2816926507172443148 tw14195404767758321631 tw3078160142239793798 tw4562320653649796519 tw12373193845985961229 tw9137334749662675053 tw10348122518442081652 tw4403331875080463606 tw1475583746412052410 tw18350979580361405932 tw8278248714709128304 tw13851293650456095126 tw16419132407118364002 tw8032376873708358438 tw9485194322178150501 tw10815568578760551790 tw3738473761580042122 tw11616600848442234742 tw7522492416633494537 tw7193970060685477215 tw15842388351833017292 tw18251838659330873411 tw2557773709439219925 tw16532308758558115713 tw5862411179190683868 tw4899437934144882528 tw2440655251468549907 tw2224935385970272525 tw8910790160838646708 tw1924132453964915057 tw12598598498856345037 tw10401767485849775900 tw9446855669667423445 tw15495764725482390823 tw15814218224371644623 tw12411320824672691636 tw2426108218208006194 tw15492949226685932978 tw2916012034825091557 tw755279220929700975 tw12192537317099235278 tw7805697130611668844 tw14151958596237793471 tw5642879476926150906 tw4219147235392090317 tw4515805730436472682 tw9800058513055154592 tw4037388192319526259 tw143521139475753058 tw2255359237803717294 tw10895535079604526423 tw12022697907508931315 tw8838649022217244485 tw6826909359261478870 tw1090413829491488258 tw10930073875452841043 tw15244088713585569987 tw3020514136763376411 tw4620029590052002497 tw4779456852733691694 tw399782611383212634 tw8623782252652921338 tw3376703409267525969 tw12664382570530468072 tw15518423223978448293 tw7363648935999626873 tw12352239351389727809 tw9191118964621075219 tw11230120430089797114 tw3553116270342196730 tw162016598032553516 tw3283775992286811139 tw818595284979907283 tw404189212990069631 tw13730414621672809203 tw8141786228365431432 tw15095315130993089155 tw8981791149759032452 tw9034530527049381226 tw11616614406558340699 tw14742065099955414992 tw10531468259864367101 tw9680037242247238422 tw17864336883834970954 tw11611730245735189334 tw8815366215679937226 tw12627758191070901952 tw8808789490233845040 tw3147171133932033694 tw15128302199459394089 tw12396433523237211412 tw12239129626524467690 tw15693176697774066201 tw13463083162444491435 tw17621210375281093575 tw15370854212182267685 tw8196452647711528263 tw13337728729055078100 tw13800080949782781692 tw12868176904929443670 tw7600872848334145945 tw3673863234764673517 tw14023591013937070990 tw6814834190845770146 tw8459939282700022918 tw10303892025272992932 tw6526176589407147737 tw10207085647947330087 tw12984083823717044892 tw5977544680246011481 tw16979165651456425862 tw14388791533304492666 tw6046600079960088894 tw5038619788154576987 tw12065779465806739847 tw16615237080965509190 tw16250591300596306713 tw3184601316491327664:True)
end
open PySem PySem.W PyProof.Rows
set_option maxRecDepth 100000 in
set_option maxHeartbeats 0 in
theorem PySem.Challenge.cw_leastlays_k51_desk_ways_and_lays_holds : PySem.Challenge.rw_leastlays_k51_desk_ways_and_lays.Holds := by
 w_on;o_law;k_head;(case hw=>w_witness2)
 k_fill
 refine L2.law_walk (l:=PySem.Challenge.rw_leastlays_k51_desk_ways_and_lays) 13 rfl rfl ⟨rfl,by decide,by decide⟩ (λw h Y=>PySem.W.kIn_of Y) ?F
 case F =>
  intro w mg fa h KX G hmg
  refine' K51.all_mk KX G hmg ?g1 ?g2 ?g3 ?g4 ?g5 ?g6 ?g7 ?g8 ?g9 ?g10 ?g11 ?g12 ?g13 ?g14 ?g17 ?g18 ?g19 ?g20 ?g21 ?g22 ?g24 ?g25 ?g30 ?g31 ?g32 ?g33 ?g34 ?g35 ?g36 ?g37 ?g38 ?g39 ?g40 ?g41 ?g42 ?g43 ?g44 ?g45 ?g46 ?g51 ?g52 ?g53 ?g54 ?g56 ?g57 ?g58 ?g59 ?g60 ?g61 ?g62 ?g63 ?g64 ?g65 ?g66 ?g67 ?g68 ?g69 ?a70 ?l70 ?c_70 ?k70 ?z1 ?z2 ?z3 ?z4 ?z5 ?z6 ?z7 ?z8 ?z9 ?z10 ?z11 ?z12 ?z13 ?z14 ?z15 ?z16 ?z17 ?z18 ?aD_TooMany ?aD_NoAnswer ?aD_Finder ?aD_Draft ?aD_Desk ?aS_FIGURES ?aS_LETTERS ?aS_TOP ?aS_GREATEST_MOST ?aS_GREATEST_WAY ?lx_TooMany ?tx_TooMany ?ok_TooMany ?in_TooMany ?be_TooMany ?lx_NoAnswer ?tx_NoAnswer ?ok_NoAnswer ?in_NoAnswer ?be_NoAnswer ?no_TN ?pg_Finder ?hd_Finder ?po_Finder ?sa_Finder ?mk_Finder ?kc_Finder ?n_Finder_rows ?n_Finder_caps ?n_Finder_begun ?n_Finder_here ?n_Finder_found ?n_Finder_walked ?pg_Draft ?hd_Draft ?po_Draft ?sa_Draft ?mk_Draft ?kc_Draft ?n_Draft_names ?n_Draft_rows ?n_Draft_sides ?n_Draft_caps ?n_Draft_prices ?pg_Desk ?hd_Desk ?po_Desk ?sa_Desk ?mk_Desk ?kc_Desk ?n_Desk_names ?n_Desk_rows ?n_Desk_sides ?n_Desk_caps ?n_Desk_prices ?m_Finder___init__ ?m_Finder_step ?m_Finder_step_within ?m_Finder_level ?m_Finder_told ?m_Finder_paper ?m_Finder_ended ?m_Draft___init__ ?m_Draft_take ?m_Draft_take_names ?m_Draft_take_sum ?m_Draft_whole ?m_Desk___init__ ?m_Desk_say ?m_Desk_say_by ?m_Desk_say_rows ?m_Desk_say_cheapest ?m_Desk_say_way ?m_Desk_say_lay
  (case a70|l70|c_70|k70|z1|z2|z3|z4|z5|z6|z7|z8|z9|z10|z11|z12|z13|z14|z15|z16|z17|z18|aD_TooMany|aD_NoAnswer|aD_Finder|aD_Draft|aD_Desk|aS_FIGURES|aS_LETTERS|aS_TOP|aS_GREATEST_MOST|aS_GREATEST_WAY|pg_Finder|hd_Finder|po_Finder|sa_Finder|mk_Finder|kc_Finder|n_Finder_rows|n_Finder_caps|n_Finder_begun|n_Finder_here|n_Finder_found|n_Finder_walked|pg_Draft|hd_Draft|po_Draft|sa_Draft|mk_Draft|kc_Draft|n_Draft_names|n_Draft_rows|n_Draft_sides|n_Draft_caps|n_Draft_prices|pg_Desk|hd_Desk|po_Desk|sa_Desk|mk_Desk|kc_Desk|n_Desk_names|n_Desk_rows|n_Desk_sides|n_Desk_caps|n_Desk_prices=>(try unfold L2.FnL);(try unfold K51.nI);k_is)
  (case g1|g2|g3|g4|g5|g6|g7|g8|g9|g10|g11|g12|g13|g14|g17|g18|g19|g20|g21|g22|g24|g25|g30|g31|g32|g33|g34|g35|g36|g37|g38|g39|g40|g41|g42|g43|g44|g45|g46|g51|g52|g53|g54|g56|g57|g58|g59|g60|g61|g62|g63|g64|g65|g66|g67|g68|g69=>exact⟨⟨_,_,_,_,_,_,_,_,_,_,by k_is,by(try unfold L2.FnL);(try unfold K51.nI);k_is,by k_is,by k_is⟩⟩)
  (case m_Finder___init__|m_Finder_step|m_Finder_step_within|m_Finder_level|m_Finder_told|m_Finder_paper|m_Finder_ended|m_Draft___init__|m_Draft_take|m_Draft_take_names|m_Draft_take_sum|m_Draft_whole|m_Desk___init__|m_Desk_say|m_Desk_say_by|m_Desk_say_rows|m_Desk_say_cheapest|m_Desk_say_way|m_Desk_say_lay=>exact⟨⟨_,_,_,_,_,_,_,_,_,_,by k_is,by k_is,by(try unfold L2.FnL);(try unfold K51.nI);k_is,by k_is,by k_is⟩⟩)
  (case lx_TooMany|tx_TooMany|ok_TooMany|in_TooMany|be_TooMany|lx_NoAnswer|tx_NoAnswer|ok_NoAnswer|in_NoAnswer|be_NoAnswer|no_TN=>first|k_is|kernel_rfl|rfl)
#print axioms PySem.Challenge.cw_leastlays_k51_desk_ways_and_lays_holds
