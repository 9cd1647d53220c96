import Derived.Test.YtaheilbiakhlgaaGreatP10
import Derived.Test.YtaheilbiakhlgaaGreatP19
import Derived.Test.YtaheilbiakhlgaaGreatP12
namespace Go.Proofs.Z
open Tryz Go.RowKit Flt
set_option maxRecDepth 1000000
set_option maxHeartbeats 0
section
attribute[local go_sem] eF eE eD
variable{vs0 us:List Vl}
def nF(i:Int)(v:Vl)(la:Int)(k:Nat)(d:Int)(N:Nat):List Vl×Int:=
 if v.op=2 then ([],d)
 else if v.op=3 then (if k=0 then ([],d)else ([eK 6 v.len d 0 0],N))
 else if v.op=4 then (if k=0 then ([eK 4 v.len d v.b 0],N)else ([eK 4 v.len d v.a 0],N))
 else if v.op=5 then (if k=0 then ([eK 5 v.len d v.b 0],N)else ([eK 4 v.len d i 0,eK 5 v.len N v.b 0,eK 6 v.len ((N+1:Nat):Int) 0 0],((N+2:Nat):Int)))
 else if v.op=6 then ([eK 6 v.len d 0 0],N)
 else if v.op=13 then ([eK 4 v.len d i 0],N)
 else if v.op=8 then (if k=1 then ([eK 1 v.len 0 0 0,eK 8 v.len v.a d N],((N+1:Nat):Int))else ([eK 1 v.len 0 0 0,eK 8 v.len v.a N d],((N+1:Nat):Int)))
 else if v.op=7 then (if k=0 then ([eK 3 v.len v.a v.b 0,eK 1 v.len 0 0 0,eK 8 v.len N d ((N+1:Nat):Int)],((N+2:Nat):Int))else ([eK 3 v.len v.a v.b 0,eK 1 v.len 0 0 0,eK 8 v.len N ((N+1:Nat):Int) d],((N+2:Nat):Int)))
 else if v.op=9 then ([eK 10 la d 0 0],N)
 else if v.op=10 then ([eK 9 1 d 0 0],N)
 else if v.op=11 then ([eK 12 la d 0 v.c],N)
 else ([eK 11 1 d 0 v.c],N)
def pr(v:Vl)(k:Nat):Bool:=!(v.op==8&&k==0)
def Pre(vs0 us:List Vl):Prop:=∃r,us=vs0++r
theorem Pre.at_(h:Pre vs0 us){j}(hj:j<vs0.length):us.getD j hK=vs0.getD j hK/\j<us.length:=by
 obtain⟨r,rfl⟩:=h;grind
theorem Pre.app{a}(h:Pre vs0 us):Pre vs0 (us++a):=by
 obtain⟨r,rfl⟩:=h;exact⟨r++a,by rw[List.append_assoc]⟩
end
section
theorem jG{P w a m}(f r c):(store a (.func f r c) m).run P w=stored P w a (.func f r c) m:=run_store P w a _ m rfl
attribute[local go_sem] eF eE eD jG
end
section
attribute[local go_sem] eF eE eD jG
variable{vs0:List Vl}{act:List Bool}{st:List Vl×List Int}
def mK(vs0:List Vl)(o:Nat)(p:Int)(st:List Vl×List Int):List Vl×List Int:=
 if st.2.getD o 0=-1 then (st.1,st.2.set o p)else (st.1++[eK 2 (vs0.getD o hK).len (st.2.getD o 0) p 0],st.2.set o (st.1.length:Nat))
def laM(vs0:List Vl)(i:Nat):Int:=(vs0.getD (vs0.getD i hK).a.toNat hK).len
def gkM(vs0:List Vl)(act:List Bool)(i k:Nat)(st:List Vl×List Int):List Vl×List Int:=
 if act.getD (fld (vs0.getD i hK) k).toNat false=true/\pr (vs0.getD i hK) k=true then
  mK vs0 (fld (vs0.getD i hK) k).toNat (nF (i:Int) (vs0.getD i hK) (laM vs0 i) k (st.2.getD i 0) st.1.length).2 (st.1++(nF (i:Int) (vs0.getD i hK) (laM vs0 i) k (st.2.getD i 0) st.1.length).1,st.2)
 else st
def ki(vs0:List Vl)(act:List Bool)(i:Nat)(st:List Vl×List Int):Nat->List Vl×List Int
 |0=>st
 |k+1=>gkM vs0 act i k (ki vs0 act i st k)
def giM(vs0:List Vl)(act:List Bool)(i:Nat)(st:List Vl×List Int):List Vl×List Int:=
 if st.2.getD i 0=-1 then st else ki vs0 act i st (cnt (vs0.getD i hK).op)
def SzP(M:List Vl×Int):Prop:=M.1.length<=3/\0<=fd M.1/\fd M.1<=3000
theorem JA{p}[Decidable p]{a b}(F:SzP a)(hb:SzP b):SzP (if p then a else b):=by split<;>assumption
theorem yJ(i v P k d bK)(ai:0<=v.len)(B:v.len<=1000)(U:0<=P)(h3:P<=1000):SzP (nF i v P k d bK):=by
 unfold nF;repeat' (apply JA)
 all_goals (unfold SzP;simp only[fd,yap,List.length_nil];omega)
theorem JB{i k}(h:Pre vs0 st.1):Pre vs0 (gkM vs0 act i k st).1:=by
 unfold gkM mK;split
 ·split
  ·exact h.app
  exact h.app.app
 exact h
theorem tv{vs0 act i st}(h:Pre vs0 st.1):∀k,Pre vs0 (ki vs0 act i st k).1
 |0=>h
 |k+1=>JB (tv h k)
theorem JC{i k}:(gkM vs0 act i k st).2.length=st.2.length:=by
 unfold gkM mK;split
 ·split<;>simp
 rfl
theorem qE{vs0 act i st}:∀k,(ki vs0 act i st k).2.length=st.2.length
 |0=>rfl
 |k+1=>by rw[ki,JC,qE k]
def MV(act:List Bool)(v:Vl):Bool:=(List.range (cnt v.op)).any λk=>act.getD (fld v k).toNat false
def jA(vs0:List Vl)(x:Nat):Nat->List Bool
 |0=>(List.replicate vs0.length false).set x true
 |m+1=>(jA vs0 x m).set (x+1+m) (MV (jA vs0 x m) (vs0.getD (x+1+m) hK))
theorem oy(vs0 x):∀m,(jA vs0 x m).length=vs0.length
 |0=>by simp[jA]
 |m+1=>by rw[jA,List.length_set,oy vs0 x m]
end
section
variable{vs0 us:List Vl}{L' L i:Nat}{act:List Bool}{C C':Int}{st:List Vl×List Int}
def SzU(L:Nat)(C:Int)(us:List Vl):Prop:=us.length<=L/\0<=fd us/\fd us<=C
theorem SzU.app{a}(h:SzU L C us)(h':SzU L' C' a):SzU (L+L') (C+C') (us++a):=by
 obtain⟨a1,Z,a3⟩:=h;obtain⟨N,aD,ad⟩:=h';refine⟨by grind,?_,?_⟩<;>(rw[sP];omega)
theorem SzU.mono(h:SzU L C us)(B:L<=L')(U:C<=C'):SzU L' C' us:=⟨yan h.1 B,h.2.1,Int.le_trans h.2.2 U⟩
def LnB(vs0:List Vl):Prop:=∀j,0<=(vs0.getD j hK).len/\(vs0.getD j hK).len<=1000
theorem rm(h:∀j,j<vs0.length->1<=(vs0.getD j hK).len/\(vs0.getD j hK).len<=1000):LnB vs0:=λj=>by
 by_cases hj:j<vs0.length
 ·grind
 ·rw[yah,List.getElem?_eq_none xaa]
  show 0<=(0:Int)/\(0:Int)<=1000
  omega
theorem FP(bQ:LnB vs0){o p}(h:SzU L C st.1):SzU (L+1) (C+1000) (mK vs0 o p st).1:=by
 unfold mK;split
 ·exact h.mono xaa xaa
 refine h.app ⟨by simp,?_,?_⟩<;>(simp only[fd];have:=bQ o;omega)
theorem MW(bQ:LnB vs0){k}(h:SzU L C st.1):SzU (L+4) (C+4000) (gkM vs0 act i k st).1:=by
 unfold gkM;split
 ·have aF:=yJ i _ (laM _ i) k (st.2.getD i 0) st.1.length (bQ i).1 (bQ i).2 (bQ _).1 (bQ _).2;have:=FP bQ (o:=(fld (vs0.getD i hK) k).toNat) (p:=(nF (i:Int) (vs0.getD i hK) (laM vs0 i) k (st.2.getD i 0) st.1.length).2) (st:=(st.1++(nF (i:Int) (vs0.getD i hK) (laM vs0 i) k (st.2.getD i 0) st.1.length).1,st.2)) (SzU.app (L':=3) (C':=3000) h ⟨aF.1,aF.2.1,aF.2.2⟩);grind
 exact h.mono xaa xaa
theorem xh{vs0}(bQ:LnB vs0){act i L C st}(h:SzU L C st.1):∀k:Nat,SzU (L+4*k) (C+4000*(k:Int)) (ki vs0 act i st k).1
 |0=>h.mono xaa xaa
 |k+1=>(MW bQ (xh bQ h k)).mono xaa xaa
theorem MX(bQ:LnB vs0)(h:SzU L C st.1):SzU (L+12) (C+12000) (giM vs0 act i st).1:=by
 have:=gK (vs0.getD i hK).op;unfold giM;split
 ·exact h.mono xaa xaa
 exact(xh bQ h _).mono xaa xaa
theorem JD(h:Pre vs0 st.1):Pre vs0 (giM vs0 act i st).1:=by
 grind[giM,tv]
theorem JE:(giM vs0 act i st).2.length=st.2.length:=by
 grind[giM,qE]
def yK(vs0:List Vl)(act:List Bool)(x:Nat)(st:List Vl×List Int)(js:List Nat):List Vl×List Int:=js.foldl (λst j=>giM vs0 act (x+1+j) st) st
theorem AF(vs0 act x st aW j):yK vs0 act x st (aW++[j])=giM vs0 act (x+1+j) (yK vs0 act x st aW):=by simp[yK]
def FQ(m:Nat):List Nat:=(List.range m).map (λi=>m-1-i)
def xi(vs0:List Vl)(s:Nat):List Vl×List Int:=(vs0++[⟨1,1,0,0,0,4607182418800017408⟩],(List.replicate vs0.length (-1)).set s (vs0.length:Nat))
def MY(vs0:List Vl)(x:Nat)(st:List Vl×List Int):List Vl×Int:=
 if st.2.getD x 0=-1 then (st.1++[eK 1 (vs0.getD x hK).len 0 0 0],(st.1.length:Nat))else (st.1,st.2.getD x 0)
def grM(vs0:List Vl)(s x:Nat):List Vl×Int:=
 if (jA vs0 x (s-x)).getD s false=true then MY vs0 x (yK vs0 (jA vs0 x (s-x)) x (xi vs0 s) (FQ (s-x)))
 else (vs0++[eK 1 (vs0.getD x hK).len 0 0 0],(vs0.length:Nat))
end
section
attribute[local go_sem] eF eE eD
theorem O3{ins vs}(b6:(List.range vs.length).all (okV ins vs)=true):∀i,i<vs.length->((vs.getD i hK).op=9\/(vs.getD i hK).op=11)->∃j:Nat,(vs.getD i hK).a=(j:Int)/\j<vs.length/\(vs.getD j hK).len=laM vs i/\1<=laM vs i/\laM vs i<=1000:=λi hi ax=>by
 have h:=mG (List.all_eq_true.1 b6 i (List.mem_range.2 hi)) 0 (by rcases ax with c|c<;>(rw[c];decide))
 have e:fld _ 0=(vs.getD i hK).a:=rfl
 rw[e]at h
 have hj:(vs.getD i hK).a.toNat<vs.length:=xaa
 have ah:=iq (List.all_eq_true.1 b6 _ (List.mem_range.2 hj))
 exact⟨_,by omega,hj,rfl,ah.1,ah.2⟩
end
section
variable{w W':World}{m1 af m3 aj base cap aC:Nat}{N ad Z:Option Addr}{vs vs0:List Vl}{v:Vl}{R R':Option Nat}
noncomputable abbrev PP (n:Nat):Code:=(Tryz.f162.body.bind (pz n)).getD .skip
def PtP(w:World)(b1:Option Addr)(m1 e1:Nat)(b3:Option Addr)(m3 e3:Nat)(vs:List Vl)(base:Nat)(R:Option Nat)(M:List Vl×Int)(bb:Bool)(e:Ending)(w':World):Prop:=
 ∃a2' cap' R',e=.returned (.tuple #[eX b1 m1 e1 a2' (vs++M.1).length cap' b3 m3 e3,.int .i64 M.2,.bool bb])/\w'.ownsRow base 40 6 (.slice a2' (vs++M.1).length cap') (vs++M.1).length (fW (vs++M.1))/\(Value.slice a2' (vs++M.1).length cap').ownBlock=R'/\StQ (λ_=>False) R w R' w'
theorem MS.finP{W M}(h:MS w W N m1 af ad m3 aj vs v base R R' Z cap)(k:Kept 0 0 W W')(aM:vs=vs0++M.1)(aK):
  PtP w N m1 af ad m3 aj vs0 base R M aK (.returned (.tuple #[eX N m1 af Z vs.length cap ad m3 aj,hF M.2,.bool aK])) (fF W' (w.heap.size+1) (.slice N m1 af) (.slice Z vs.length cap) (.slice ad m3 aj)):=by
 exact xfp
theorem xl(h:w.ownsRow base 40 6 (hE aC vs.length cap) vs.length (fW vs))(k:Kept 0 0 w W')(r aK):
  PtP w N m1 af ad m3 aj vs base (some aC) ([],r) aK (.returned (.tuple #[eX N m1 af (some ⟨aC,0,none⟩) vs.length cap ad m3 aj,hF r,.bool aK])) W':=by
 unfold PtP;exact xjl
theorem MS.finPR{W M aK}(h:MS w W N m1 af ad m3 aj vs v base R R' Z cap)(C:∃a8,Kept 0 0 W a8/\W'=fF a8 (w.heap.size+1) (.slice N m1 af) (.slice Z vs.length cap) (.slice ad m3 aj))(aM:vs=vs0++M.1):
  PtP w N m1 af ad m3 aj vs0 base R M aK (.returned (.tuple #[eX N m1 af Z vs.length cap ad m3 aj,hF M.2,.bool aK])) W':=by
 grind[MS.finP]
def PtC(w:World)(b1 b3:Option Addr)(m1 e1 cap m3 e3 base g2 i:Nat)(vs:List Vl)(k d:Int)(M:List Vl×Int)(bb:Bool):Prop:=
 Calls prog 162 #[eX b1 m1 e1 (some ⟨g2,0,none⟩) vs.length cap b3 m3 e3,.int .i64 (i:Int),.int .i64 k,.int .i64 d] w λe w'=>PtP w b1 m1 e1 b3 m3 e3 vs base (some g2) M bb e w'
theorem MS.len1{W}(h:MS w W N m1 af ad m3 aj vs v base R R' (some ⟨aC,0,none⟩) cap){j P}(hj:j<vs.length)(aD:(vs.getD j hK).len=P):W.cell? ⟨aC,j*6+1,none⟩=some (hF P):=by
 obtain⟨g,c,e,_,_,_,f⟩:=mb h.g.own xaa rfl;cases e;have:=(f.at_ j hj).c1;grind
def PfK(R:World->Prop)(p0 p1 p2 p3 p4 p5 p6 p7 p8 p11 p12 p13 p14 p15 p16 p17 p18 p19 q9 q10:Value)(K:Act->World->Prop):Prop:=∀{a b c d e f g h i j k l m n o p q r s t u v w x y z A B C D E F G H I J L M N O P Q S T U Vaa W X Y Z aa ab ad ae af ag ah ai aj ak al am an ao ap aq ar au av aw ax ay az aA aB aC aD aE aF aG aH aI aJ aK aL aM aN aO aP aQ aR aS aT aU aV aW aX aY aZ a0 a1 a2 a3 a4 a5 a6 a7 a8 a9 ba bb bc bd be bf bg bh bi bj bk bl bm bn bo bp bq br bs bt bu bv bw bx bz bA bB bC bD bE bF bG bH bI bJ bK bL bM bN bO bP bQ bR bS bT bU bV bW bX bY bZ b0 b1 b2 b3 b4 b5 b6 b7 b8 b9 ca cb cc cd ce cf cg ch ci cj ck cl cm cn co:Value} (W':World),R W'->K ⟨#[p0,p1,p2,p3,p4,p5,p6,p7,p8,q9,q10,p11,p12,p13,p14,p15,p16,p17,p18,p19,a,b,c,d,e,f,g,h,i,j,k,l,m,n,o,p,q,r,s,t,u,v,w,x,y,z,A,B,C,D,E,F,G,H,I,J,L,M,N,O,P,Q,S,T,U,Vaa,W,X,Y,Z,aa,ab,ad,ae,af,ag,ah,ai,aj,ak,al,am,an,ao,ap,aq,ar,au,av,aw,ax,ay,az,aA,aB,aC,aD,aE,aF,aG,aH,aI,aJ,aK,aL,aM,aN,aO,aP,aQ,aR,aS,aT,aU,aV,aW,aX,aY,aZ,a0,a1,a2,a3,a4,a5,a6,a7,a8,a9,ba,bb,bc,bd,be,bf,bg,bh,bi,bj,bk,bl,bm,bn,bo,bp,bq,br,bs,bt,bu,bv,bw,bx,bz,bA,bB,bC,bD,bE,bF,bG,bH,bI,bJ,bK,bL,bM,bN,bO,bP,bQ,bR,bS,bT,bU,bV,bW,bX,bY,bZ,b0,b1,b2,b3,b4,b5,b6,b7,b8,b9,ca,cb,cc,cd,ce,cf,cg,ch,ci,cj,ck,cl,cm,cn,co],[]⟩ W'
def PfC(n:Nat)(W:World)(R:World->Prop)(a b c d e f g h i t u j k l m o p q r s v w:Value):Prop:=
 ∀{K:Act->World->Prop}{x y z A B C D E F G H I J L M N O P Q S T U Vaa X Y Z aa ab ad ae af ag ah ai aj ak al am an ao ap aq ar au av aw ax ay az aA aB aC aD aE aF aG aH aI aJ aK aL aM aN aO aP aQ aR aS aT aU aV aW aX aY aZ a0 a1 a2 a3 a4 a5 a6 a7 a8 a9 ba bb bc bd be bf bg bh bi bj bk bl bm bn bo bp bq br bs bt bu bv bw bx bz bA bB bC bD bE bF bG bH bI bJ bK bL bM bN bO bP bQ bR bS bT bU bV bW bX bY bZ b0 b1 b2 b3 b4 b5 b6 b7 b8 b9 ca cb cc cd ce cf cg ch ci cj ck cl cm cn co cp cq cr cs ct cu cv cw cx cy cz cA cB cC cD cE cF cG cH cI cJ cK cL cM:Value},PfK R a b c d e f g h i j k l m o p q r s v w K->Code.wp prog (PP n) (Exit.then K λ_ _ _=>False) ⟨#[a,b,c,d,e,f,g,h,i,t,u,j,k,l,m,o,p,q,r,s,x,y,z,A,B,C,D,E,F,G,H,I,J,L,M,N,O,P,Q,S,T,U,Vaa,X,Y,Z,aa,ab,ad,ae,af,ag,ah,ai,aj,ak,al,am,an,ao,ap,aq,ar,au,av,aw,ax,ay,az,aA,aB,aC,aD,aE,aF,aG,aH,aI,aJ,aK,aL,aM,aN,aO,aP,aQ,aR,aS,aT,aU,aV,aW,aX,aY,aZ,a0,a1,a2,a3,a4,a5,a6,a7,a8,a9,ba,bb,bc,bd,be,bf,bg,bh,bi,bj,bk,bl,bm,bn,bo,bp,bq,br,bs,bt,bu,bv,bw,bx,bz,bA,bB,bC,bD,bE,bF,bG,bH,bI,bJ,bK,bL,bM,bN,bO,bP,bQ,bR,bS,bT,bU,bV,bW,bX,bY,bZ,b0,b1,b2,b3,b4,b5,b6,b7,b8,b9,ca,cb,cc,cd,ce,cf,cg,ch,ci,cj,ck,cl,cm,cn,co,cp,cq,cr,cs,ct,cu,cv,cw,cx,cy,cz,cA,cB,cC,cD,cE,cF,cG,cH,cI,cJ,cK,cL,cM],[]⟩ W
