import Derived.Test.YtdpbpcnldpkljaaGreatP20
import Derived.Test.YtdpbpcnldpkljaaGreatP14
namespace Go.Proofs.Z
open Tryz
set_option maxRecDepth 1000000
set_option maxHeartbeats 0
section
open Go.RowKit Flt
attribute [local go_sem] eD eB eA
theorem Hx {ins:List Int}{vs:List Vl}(hok:(List.range vs.length).all (okV ins vs)=true):∀i,i<vs.length->((vs.getD i Vl.zero).op=9\/(vs.getD i Vl.zero).op=11)->∃j:Nat,(vs.getD i Vl.zero).a=(j:Int)/\j<vs.length/\(vs.getD j Vl.zero).len=laM vs i/\1<=laM vs i/\laM vs i<=1000:=λi hi ho=>by
 have h:=j6 (List.all_eq_true.1 hok i (List.mem_range.2 hi)) 0 (by rcases ho with c|c<;>(rw[c];decide))
 have e:fld (vs.getD i Vl.zero) 0=(vs.getD i Vl.zero).a:=rfl
 rw[e] at h
 have hj:(vs.getD i Vl.zero).a.toNat<vs.length:=xaa
 have hl:=il (List.all_eq_true.1 hok _ (List.mem_range.2 hj))
 exact⟨(vs.getD i Vl.zero).a.toNat,by omega,hj,rfl,hl.1,hl.2⟩
end
section
open Go.RowKit Flt
variable {w W':World} {m1 e1 m3 e3 base cap g2:Nat} {b1 b3 a2:Option Addr} {vs vs0:List Vl} {v:Vl} {R R':Option Nat}
noncomputable abbrev I0 (n:Nat):Code:=(Tryz.f150.body.bind (mn n)).getD .skip
def PtP (w:World)(b1:Option Addr)(m1 e1:Nat)(b3:Option Addr)(m3 e3:Nat)(vs:List Vl)(base:Nat)(R:Option Nat)(M:List Vl×Int)(bb:Bool)(e:Ending)(w':World):Prop:=
 ∃a2' cap' R',e=.returned (.tuple #[eR b1 m1 e1 a2' (vs++M.1).length cap' b3 m3 e3,.int .i64 M.2,.bool bb])/\w'.ownsRow base 35 6 (.slice a2' (vs++M.1).length cap') (vs++M.1).length (fp (vs++M.1))/\(Value.slice a2' (vs++M.1).length cap').ownBlock=R'/\StQ (λ_=>False) R w R' w'
theorem MS.finP {W:World}{M:List Vl×Int}(h:MS w W b1 m1 e1 b3 m3 e3 vs v base R R' a2 cap)(k:Kept 0 0 W W')(hv:vs=vs0++M.1)(bb:Bool):
  PtP w b1 m1 e1 b3 m3 e3 vs0 base R M bb (.returned (.tuple #[eR b1 m1 e1 a2 vs.length cap b3 m3 e3,.int .i64 M.2,.bool bb])) (fe W' (w.heap.size+1) (.slice b1 m1 e1) (.slice a2 vs.length cap) (.slice b3 m3 e3)):=by
 exact xfc
theorem rP (h:w.ownsRow base 35 6 (.slice (some ⟨g2,0,none⟩) vs.length cap) vs.length (fp vs))(k:Kept 0 0 w W')(r:Int)(bb:Bool):
  PtP w b1 m1 e1 b3 m3 e3 vs base (some g2) ([],r) bb (.returned (.tuple #[eR b1 m1 e1 (some ⟨g2,0,none⟩) vs.length cap b3 m3 e3,.int .i64 r,.bool bb])) W':=by
 unfold PtP
 exact xin
theorem MS.finPR {W:World}{M:List Vl×Int}{bb:Bool}(h:MS w W b1 m1 e1 b3 m3 e3 vs v base R R' a2 cap)(hR:∃w3,Kept 0 0 W w3/\W'=fe w3 (w.heap.size+1) (.slice b1 m1 e1) (.slice a2 vs.length cap) (.slice b3 m3 e3))(hv:vs=vs0++M.1):
  PtP w b1 m1 e1 b3 m3 e3 vs0 base R M bb (.returned (.tuple #[eR b1 m1 e1 a2 vs.length cap b3 m3 e3,.int .i64 M.2,.bool bb])) W':=by
 obtain⟨w3,k3,rfl⟩:=hR
 exact MS.finP h k3 hv bb
def PtC (w:World)(b1 b3:Option Addr)(m1 e1 cap m3 e3 base g2 i:Nat)(vs:List Vl)(k d:Int)(M:List Vl×Int)(bb:Bool):Prop:=
 Calls prog 150 #[eR b1 m1 e1 (some ⟨g2,0,none⟩) vs.length cap b3 m3 e3,.int .i64 (i:Int),.int .i64 k,.int .i64 d] w λe w'=>PtP w b1 m1 e1 b3 m3 e3 vs base (some g2) M bb e w'
theorem MS.len1 {W:World}(h:MS w W b1 m1 e1 b3 m3 e3 vs v base R R' (some ⟨g2,0,none⟩) cap){j:Nat}{la:Int}(hj:j<vs.length)(hla:(vs.getD j Vl.zero).len=la):W.cell? ⟨g2,j*6+1,none⟩=some (.int .i64 la):=by
 obtain⟨g,c,e,_,_,_,hva⟩:=kr h.g.own xaa rfl
 cases e
 have:=(hva.at_ j hj).c1
 rw[hla] at this
 exact this
def PfK (R:World->Prop)(p0 p1 p2 p3 p4 p5 p6 p7 p8 p11 p12 p13 p14 p15 p16 p17 p18 p19 q9 q10:Value)(K:Act->World->Prop):Prop:=∀{a b c d e f g h i j k l m n o p q r s t u v w x y z A B C D E F G H I J L M N O P Q S T U V W X Y Z aa ab ad ae af ag ah ai aj ak al am an ao ap aq ar au av aw ax ay az aA aB aC aD aE aF aG aH aI aJ aK aL aM aN aO aP aQ aR aS aT aU aV aW aX aY aZ a0 a1 a2 a3 a4 a5 a6 a7 a8 a9 ba bb bc bd be bf bg bh bi bj bk bl bm bn bo bp bq br bs bt bu bv bw bx bz bA bB bC bD bE bF bG bH bI bJ bK bL bM bN bO bP bQ bR bS bT bU bV bW bX bY bZ b0 b1 b2 b3 b4 b5 b6 b7 b8 b9 ca cb cc cd ce cf cg ch ci cj ck cl cm cn co:Value} (W':World),R W'->K ⟨#[p0,p1,p2,p3,p4,p5,p6,p7,p8,q9,q10,p11,p12,p13,p14,p15,p16,p17,p18,p19,a,b,c,d,e,f,g,h,i,j,k,l,m,n,o,p,q,r,s,t,u,v,w,x,y,z,A,B,C,D,E,F,G,H,I,J,L,M,N,O,P,Q,S,T,U,V,W,X,Y,Z,aa,ab,ad,ae,af,ag,ah,ai,aj,ak,al,am,an,ao,ap,aq,ar,au,av,aw,ax,ay,az,aA,aB,aC,aD,aE,aF,aG,aH,aI,aJ,aK,aL,aM,aN,aO,aP,aQ,aR,aS,aT,aU,aV,aW,aX,aY,aZ,a0,a1,a2,a3,a4,a5,a6,a7,a8,a9,ba,bb,bc,bd,be,bf,bg,bh,bi,bj,bk,bl,bm,bn,bo,bp,bq,br,bs,bt,bu,bv,bw,bx,bz,bA,bB,bC,bD,bE,bF,bG,bH,bI,bJ,bK,bL,bM,bN,bO,bP,bQ,bR,bS,bT,bU,bV,bW,bX,bY,bZ,b0,b1,b2,b3,b4,b5,b6,b7,b8,b9,ca,cb,cc,cd,ce,cf,cg,ch,ci,cj,ck,cl,cm,cn,co],[]⟩ W'
def PfC (n:Nat)(W:World)(R:World->Prop)(a b c d e f g h i t u j k l m o p q r s v w:Value):Prop:=
 ∀{K:Act->World->Prop} {x y z A B C D E F G H I J L M N O P Q S T U V X Y Z aa ab ad ae af ag ah ai aj ak al am an ao ap aq ar au av aw ax ay az aA aB aC aD aE aF aG aH aI aJ aK aL aM aN aO aP aQ aR aS aT aU aV aW aX aY aZ a0 a1 a2 a3 a4 a5 a6 a7 a8 a9 ba bb bc bd be bf bg bh bi bj bk bl bm bn bo bp bq br bs bt bu bv bw bx bz bA bB bC bD bE bF bG bH bI bJ bK bL bM bN bO bP bQ bR bS bT bU bV bW bX bY bZ b0 b1 b2 b3 b4 b5 b6 b7 b8 b9 ca cb cc cd ce cf cg ch ci cj ck cl cm cn co cp cq cr cs ct cu cv cw cx cy cz cA cB cC cD cE cF cG cH cI cJ cK cL cM:Value},PfK R a b c d e f g h i j k l m o p q r s v w K->Code.wp prog (I0 n) (Exit.then K λ_ _ _=>False) ⟨#[a,b,c,d,e,f,g,h,i,t,u,j,k,l,m,o,p,q,r,s,x,y,z,A,B,C,D,E,F,G,H,I,J,L,M,N,O,P,Q,S,T,U,V,X,Y,Z,aa,ab,ad,ae,af,ag,ah,ai,aj,ak,al,am,an,ao,ap,aq,ar,au,av,aw,ax,ay,az,aA,aB,aC,aD,aE,aF,aG,aH,aI,aJ,aK,aL,aM,aN,aO,aP,aQ,aR,aS,aT,aU,aV,aW,aX,aY,aZ,a0,a1,a2,a3,a4,a5,a6,a7,a8,a9,ba,bb,bc,bd,be,bf,bg,bh,bi,bj,bk,bl,bm,bn,bo,bp,bq,br,bs,bt,bu,bv,bw,bx,bz,bA,bB,bC,bD,bE,bF,bG,bH,bI,bJ,bK,bL,bM,bN,bO,bP,bQ,bR,bS,bT,bU,bV,bW,bX,bY,bZ,b0,b1,b2,b3,b4,b5,b6,b7,b8,b9,ca,cb,cc,cd,ce,cf,cg,ch,ci,cj,ck,cl,cm,cn,co,cp,cq,cr,cs,ct,cu,cv,cw,cx,cy,cz,cA,cB,cC,cD,cE,cF,cG,cH,cI,cJ,cK,cL,cM],[]⟩ W
