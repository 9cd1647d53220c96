import Derived.Test.YtcjhlkdleojbjaaGreatP14
import Derived.Test.YtcjhlkdleojbjaaGreatP13
import Derived.Test.YtcjhlkdleojbjaaGreatP32
import Derived.Test.YtcjhlkdleojbjaaGreatP19
import Derived.Test.YtcjhlkdleojbjaaGreatP21
namespace Go.Proofs.Z
variable{Zp:Prop}
open Tryz Go.RowKit Flt
set_option maxRecDepth 1000000
set_option maxHeartbeats 0
section
variable{w W I:World}{R aa U:Option Addr}{m1 ae cap m3 ai base aN i:Nat}{vs vs0:List Vl}{v:Vl}{aI ak aW:Int}{H R':Option Nat}{M:List Vl×Int}
def MvC(w:World)(b1 b3:Option Addr)(m1 e1 cap m3 e3 base g2 i:Nat)(vs:List Vl)(ta tb tc:Int)(M:List Vl×Int):Prop:=
 Calls prog 141 #[eZ b1 m1 e1 (some ⟨g2,0,none⟩) vs.length cap b3 m3 e3,.int .i64 (i:Int),.int .i64 ta,.int .i64 tb,.int .i64 tc] w λe w'=>MvP w b1 m1 e1 b3 m3 e3 vs base (some g2) M e w'
theorem MS.orX(h:MS w W R m1 ae aa m3 ai vs v base H R' U cap)(a n)(ad:vs.length<=900000):
  Calls prog 143 #[eZ R m1 ae U vs.length cap aa m3 ai,hA a,hA n] W λe ag=>∃(us:List Vl) (m:Int) (a2':Option Addr) (cap':Nat) (R2:Option Nat) (c6:World),E (us=vs++(orM a n vs.length).1/\m=(orM a n vs.length).2)/\us.length<=vs.length+1/\e=.returned (.tuple #[eZ R m1 ae a2' us.length cap' aa m3 ai,hA m])/\
   (∃u,ag.cell? ⟨w.heap.size,0,none⟩=some u)/\(∃u,ag.cell? ⟨w.heap.size,1,none⟩=some u)/\(∃u,ag.cell? ⟨w.heap.size,2,none⟩=some u)/\ag.frozen? ⟨w.heap.size,0,none⟩=false/\ag.frozen? ⟨w.heap.size,1,none⟩=false/\ag.frozen? ⟨w.heap.size,2,none⟩=false/\
   E (((ag.setCell ⟨w.heap.size,0,none⟩ (.slice R m1 ae)).setCell ⟨w.heap.size,1,none⟩ (.slice a2' us.length cap')).setCell ⟨w.heap.size,2,none⟩ (.slice aa m3 ai)=c6)/\E (MS w c6 R m1 ae aa m3 ai us v base H R2 a2' cap'):=by
 refine(MS.orAny h hI a n ad).mono ?_;rintro e ag ⟨us,m,bI,bV,f,bH,bA,rfl,bz,bo,bw,al,_,bx⟩;exact⟨_,m,_,_,_,_,bH,bA,rfl,bz,bo,bw,al 0,al 1,al 2,rfl,bx⟩
theorem MS.finR(h:MS w W R m1 ae aa m3 ai vs v base H R' U cap)(K:∃aF,Kept 0 0 W aF/\I=fw aF (w.heap.size+1) (.slice R m1 ae) (.slice U vs.length cap) (.slice aa m3 ai))(aO:vs=vs0++M.1):
  MvP w R m1 ae aa m3 ai vs0 base H M (.returned (.tuple #[eZ R m1 ae U vs.length cap aa m3 ai,hA M.2])) I:=by
 grind[MS.fin]
end
section
attribute[local go_sem] eF eE eD
variable{w:World}{R aa:Option Addr}{m1 ae cap m3 ai base aN i:Nat}{vs:List Vl}{o C r vb bE:Int}{bJ:Nat}{aI ak aW:Int}
theorem Lv(Y:MvH w cap base aN i vs ⟨2,C,r,vb,bE,bJ⟩)(ar:0<=aI)(Q:0<=ak):MvC w R aa m1 ae cap m3 ai base aN i vs aI ak aW ([eK 2 C aI ak 0],((vs.length:Nat):Int)):=by
 exact no_implicit_lambda% xbs
theorem Lw(Y:MvH w cap base aN i vs ⟨2,C,r,vb,bE,bJ⟩)(ar:0<=aI)(Q:ak<0):MvC w R aa m1 ae cap m3 ai base aN i vs aI ak aW ([],aI):=by
 exact xbc
theorem Ly(Y:MvH w cap base aN i vs ⟨2,C,r,vb,bE,bJ⟩)(ar:aI<0)(Q:0<=ak):MvC w R aa m1 ae cap m3 ai base aN i vs aI ak aW ([],ak):=by
 exact xbc
theorem Lz(Y:MvH w cap base aN i vs ⟨5,C,r,vb,bE,bJ⟩)(ar:0<=aI)(Q:ak<0):MvC w R aa m1 ae cap m3 ai base aN i vs aI ak aW ([eK 5 C aI vb 0],((vs.length:Nat):Int)):=by
 exact no_implicit_lambda% xaz
variable{w:World}{R aa:Option Addr}{m1 ae cap m3 ai base aN i:Nat}{vs:List Vl}{o C r vb bE:Int}{bJ:Nat}{aI ak aW:Int}
theorem LB(Y:MvH w cap base aN i vs ⟨3,C,r,vb,bE,bJ⟩)(ar:0<=aI)(Q:0<=ak):MvC w R aa m1 ae cap m3 ai base aN i vs aI ak aW ([eK 3 C aI ak 0],((vs.length:Nat):Int)):=by
 exact no_implicit_lambda% xbs
theorem LC(Y:MvH w cap base aN i vs ⟨3,C,r,vb,bE,bJ⟩)(ar:0<=aI)(Q:ak<0):MvC w R aa m1 ae cap m3 ai base aN i vs aI ak aW ([],aI):=by
 exact xbc
theorem I.qas(h:Zp:=by
 unfold MvC;exact qef):Zp:=h
theorem I.qeg(h:Zp:=by
 refine fk (NH HM xaa ?_);clear HM;unfold MfK;intros;rename_i wc K;obtain⟨f,aq,cap',Z,B,HM⟩:=K;go_wp2_with fail;refine fk (sb (n:=11) xab HM xaa (show(f.length:Int)-1=(vs.length:Nat) by have:=Z.o.2;omega) ?_);exact no_implicit_lambda% xbf):Zp:=h
open I in
theorem LD(Y:MvH w cap base aN i vs ⟨3,C,r,vb,bE,bJ⟩)(ar:aI<0)(Q:0<=ak):MvC w R aa m1 ae cap m3 ai base aN i vs aI ak aW ([eK 6 C ak 0 0],((vs.length:Nat):Int)):=by
 exact qar
theorem J.qas(h:Zp:=by
 unfold MvC;have bb:=yan ho.1;have co:=yan ho.2.1;have cg:=yan ho.2.2.1;have ag:=yan ho.2.2.2.1;have cc:=yan ho.2.2.2.2.1;have p:=yan ho.2.2.2.2.2.1;have j:=yan ho.2.2.2.2.2.2;clear ho;exact qef):Zp:=h
theorem J.qeg(h:Zp:=by
 refine fk (NS HM xaa ?_);exact no_implicit_lambda% xcl):Zp:=h
open J in
theorem OG(Y:MvH w cap base aN i vs ⟨o,C,r,vb,bE,bJ⟩)(ho:o≠2/\o≠3/\o≠4/\o≠5/\o≠7/\o≠8/\o≠13)(ar:0<=aI):MvC w R aa m1 ae cap m3 ai base aN i vs aI ak aW ([eK o C aI 0 bE],((vs.length:Nat):Int)):=by
 exact qar
theorem LE(Y:MvH w cap base aN i vs ⟨8,C,r,vb,bE,bJ⟩)(Q:ak<0)(ah:aW<0):MvC w R aa m1 ae cap m3 ai base aN i vs aI ak aW ([],-1):=by
 exact xbc
variable{w:World}{R aa:Option Addr}{m1 ae cap m3 ai base aN i:Nat}{vs:List Vl}{o C r vb bE:Int}{bJ:Nat}{aI ak aW:Int}
theorem x.qam(h:Zp:=by
 have aD:=HM.o.v.c0;go_wp2_with fail;clear aD;refine fk (GC HM xaa ?_);clear HM;unfold MfK;exact qdd):Zp:=h
theorem x.qde(h:Zp:=by
 have aD:=HM.o.v.c0;have l:(0:Int)<=(vs.length:Nat):=xaa;have n:(0:Int)<=((vs.length:Nat)+1):=xaa;go_wp2_with fail;clear aD;refine fk (GG HM xaa ?_);clear HM;unfold MfK;intros;rename_i wc K;obtain⟨S,aq,cap',h,p,HM⟩:=K;go_wp2_with fail;refine fk (sb (n:=31) xab HM xaa (show(S.length:Int)-1=((vs.length:Nat)+2) by have:=Z.o.2;have:=g.o.2;have:=h.o.2;omega) ?_);exact no_implicit_lambda% xeb):Zp:=h
open x in
theorem LF(Y:MvH w cap base aN i vs ⟨4,C,r,vb,bE,bJ⟩)(ar:0<=aI)(Q:0<=ak):MvC w R aa m1 ae cap m3 ai base aN i vs aI ak aW ([eK 4 C aI vb 0,eK 4 C r ak 0,eK 2 C ((vs.length:Nat):Int) (((vs.length:Nat):Int)+1) 0],(((vs.length:Nat):Int)+2)):=by
 exact no_implicit_lambda% qdy
variable{w:World}{R aa:Option Addr}{m1 ae cap m3 ai base aN i:Nat}{vs:List Vl}{o C r vb bE:Int}{bJ:Nat}{aI ak aW:Int}
theorem LH(Y:MvH w cap base aN i vs ⟨4,C,r,vb,bE,bJ⟩)(ar:0<=aI)(Q:ak<0):MvC w R aa m1 ae cap m3 ai base aN i vs aI ak aW ([eK 4 C aI vb 0],((vs.length:Nat):Int)):=by
 exact no_implicit_lambda% xaz
theorem K.qas(h:Zp:=by
 unfold MvC;exact qef):Zp:=h
theorem K.qeg(h:Zp:=by
 refine fk (GC HM xaa ?_);exact no_implicit_lambda% xar):Zp:=h
open K in
theorem LI(Y:MvH w cap base aN i vs ⟨4,C,r,vb,bE,bJ⟩)(ar:aI<0)(Q:0<=ak):MvC w R aa m1 ae cap m3 ai base aN i vs aI ak aW ([eK 4 C r ak 0],((vs.length:Nat):Int)):=by
 exact qar
theorem L.qas(h:Zp:=by
 unfold MvC;exact qef):Zp:=h
theorem L.qeg(h:Zp:=by
 refine fk (NU HM xaa ?_);exact no_implicit_lambda% xcl):Zp:=h
open L in
theorem OH(Y:MvH w cap base aN i vs ⟨13,C,r,vb,bE,bJ⟩)(ar:0<=aI):MvC w R aa m1 ae cap m3 ai base aN i vs aI ak aW ([eK 4 C aI (i:Int) 0],((vs.length:Nat):Int)):=by
 exact qar
variable{w:World}{R aa:Option Addr}{m1 ae cap m3 ai base aN i:Nat}{vs:List Vl}{o C r vb bE:Int}{bJ:Nat}{aI ak aW:Int}
theorem M.qas(h:Zp:=by
 unfold MvC;go_enter func141,ntmps141;go_wp2_with fail;rw[aT.o];clear aD a5 a7 z G F aT;refine fk (GF HM xaa ?_);clear HM;unfold MfK;intros;rename_i wc K;obtain⟨f,aq,cap',Z,B,HM⟩:=K;go_wp2_with fail;refine fk (GH HM xaa (show(f.length:Int)-1=(vs.length:Nat) by have:=Z.o.2;omega) ?_);clear HM;unfold MfK;exact qdd):Zp:=h
theorem M.qde(h:Zp:=by
 have aD:=HM.o.v.c0;have l:(0:Int)<=((vs.length:Nat)+1):=xaa;go_wp2_with fail;clear aD;refine fk (OF HM xaa ?_);clear HM;unfold MfK;intros;rename_i wc K;obtain⟨S,aq,cap',h,p,HM⟩:=K;go_wp2_with fail;refine fk (sb (n:=34) xab HM xaa (show(S.length:Int)-1=((vs.length:Nat)+2) by have:=Z.o.2;have:=g.o.2;have:=h.o.2;omega) ?_);exact no_implicit_lambda% xeb):Zp:=h
open M in
theorem LM(Y:MvH w cap base aN i vs ⟨5,C,r,vb,bE,bJ⟩)(ar:aI<0)(Q:0<=ak):MvC w R aa m1 ae cap m3 ai base aN i vs aI ak aW ([eK 4 C (i:Int) ak 0,eK 5 C ((vs.length:Nat):Int) vb 0,eK 6 C (((vs.length:Nat):Int)+1) 0 0],(((vs.length:Nat):Int)+2)):=by
 exact qar
variable{w:World}{R aa:Option Addr}{m1 ae cap m3 ai base aN i:Nat}{vs:List Vl}{o C r vb bE:Int}{bJ:Nat}{aI ak aW:Int}
theorem y.qam(h:Zp:=by
 have aD:=HM.o.v.c0;go_wp2_with fail;clear aD;refine fk (GF HM xaa ?_);clear HM;unfold MfK;intros;rename_i wc K;obtain⟨vs2,aq,cap',g,s,HM⟩:=K;go_wp2_with fail;refine fk (GH HM xaa (show(vs2.length:Int)-1=((vs.length:Nat)+1) by have:=Z.o.2;have:=g.o.2;omega) ?_);clear HM;unfold MfK;intros;rename_i wc K;obtain⟨S,aq,cap',h,p,HM⟩:=K;obtain⟨_,_,aZ,ax,aU,_,_,_,_⟩:=HM.o.g;go_wp2_with fail;refine(MS.lst HM.o xaa (show(S.length:Int)-1=((vs.length:Nat)+2) by have:=Z.o.2;have:=g.o.2;have:=h.o.2;omega)).mono ?_;clear HM aZ ax aU;rintro e m ⟨rfl,HM⟩;have aD:=HM.o.v.c0;have l:(0:Int)<=(vs.length:Nat):=xaa;have n:(0:Int)<=((vs.length:Nat)+2):=xaa;go_wp2_with fail;clear aD;refine fk (GG HM xaa ?_);clear HM;unfold MfK;intros;rename_i wc K;obtain⟨j,aq,cap',J,b4,HM⟩:=K;go_wp2_with fail;refine fk (sb (n:=31) xab HM xaa (show(j.length:Int)-1=((vs.length:Nat)+3) by have:=Z.o.2;have:=g.o.2;have:=h.o.2;have:=J.o.2;omega) ?_);unfold MfK;intros;rename_i aB K;obtain⟨ba,aP,y2,HR⟩:=K;go_wp2_with fail;exact yaz (by simp[results,results141,go_sem,ba,aP,y2]) rfl (MS.finR HM.o HR.o (by rw[J.o.1,h.o.1,g.o.1,Z.o.1]<;>simp))):Zp:=h
open y in
theorem LN(Y:MvH w cap base aN i vs ⟨5,C,r,vb,bE,bJ⟩)(ar:0<=aI)(Q:0<=ak):MvC w R aa m1 ae cap m3 ai base aN i vs aI ak aW ([eK 5 C aI vb 0,eK 4 C (i:Int) ak 0,eK 5 C (((vs.length:Nat):Int)+1) vb 0,eK 3 C ((vs.length:Nat):Int) (((vs.length:Nat):Int)+2) 0],(((vs.length:Nat):Int)+3)):=by
 exact no_implicit_lambda% qdy
variable{w:World}{R aa:Option Addr}{m1 ae cap m3 ai base aN i:Nat}{vs:List Vl}{o C r vb bE:Int}{bJ:Nat}{aI ak aW:Int}
theorem LO(Y:MvH w cap base aN i vs ⟨7,C,r,vb,bE,bJ⟩)(ar:0<=aI)(Q:-1<=ak):MvC w R aa m1 ae cap m3 ai base aN i vs aI ak aW ([eK 3 C r vb 0]++(chM C ((vs.length:Nat):Int) aI ak (vs.length+1)).1,(chM C ((vs.length:Nat):Int) aI ak (vs.length+1)).2):=by
 exact no_implicit_lambda% xan
theorem LQ(Y:MvH w cap base aN i vs ⟨8,C,r,vb,bE,bJ⟩)(Q:0<=ak)(ah:-1<=aW):MvC w R aa m1 ae cap m3 ai base aN i vs aI ak aW (chM C r ak aW vs.length):=by
 exact no_implicit_lambda% xas
variable{w:World}{R aa:Option Addr}{m1 ae cap m3 ai base aN i:Nat}{vs:List Vl}{o C r vb bE:Int}{bJ:Nat}{aI ak aW:Int}
theorem LR(Y:MvH w cap base aN i vs ⟨7,C,r,vb,bE,bJ⟩)(ar:aI<0)(v:-1<=aI)(Q:0<=ak):MvC w R aa m1 ae cap m3 ai base aN i vs aI ak aW ([eK 3 C r vb 0]++(chM C ((vs.length:Nat):Int) aI ak (vs.length+1)).1,(chM C ((vs.length:Nat):Int) aI ak (vs.length+1)).2):=by
 exact no_implicit_lambda% xan
theorem LS(Y:MvH w cap base aN i vs ⟨8,C,r,vb,bE,bJ⟩)(Q:ak<0)(ao:-1<=ak)(ah:0<=aW):MvC w R aa m1 ae cap m3 ai base aN i vs aI ak aW (chM C r ak aW vs.length):=by
 exact no_implicit_lambda% xas
end
section
theorem OJ(w R aa m1 ae cap m3 ai base aN i vs v aI ak aW)(h:w.ownsRow base 62 6 (hz aN vs.length cap) vs.length (fF vs))(hb:base<=w.heap.size)(ad:vs.length<=800000)(hi:i<vs.length)(aO:At w aN (i*6) v)
  (g:-1<=aI) (aj:-1<=ak) (p:-1<=aW) (au:¬(aI=-1/\ak=-1/\aW=-1)) (N:cnt v.op<=2->aW=-1) (F:cnt v.op<=1->ak=-1):
  Calls prog 141 #[eZ R m1 ae (some ⟨aN,0,none⟩) vs.length cap aa m3 ai,hA i,hA aI,hA ak,hA aW] w λe B=>MvP w R m1 ae aa m3 ai vs base (some aN) (mvM (i:Int) v aI ak aW vs.length) e B:=by
 obtain⟨o,C,r,vb,bE,bJ⟩:=v;have Y:MvH w _ _ _ i _ _:=⟨h,hb,ad,hi,aO⟩
 have bg:∀{v:Vl}{M:List _×Int},MvC w R aa m1 ae cap m3 ai base aN i vs aI ak aW M->mvM i v aI ak aW vs.length=M->_:=λh e=>e ▸ h;clear h hb ad hi aO;simp only at F N;have f:∀{x:Int},0<=x->¬x=-1:=λh=>by omega
 have G:∀{x:Int},-1<=x->¬0<=x->x=-1:=λh k=>by omega
 by_cases bT:o=2
 ·subst bT;have ah:=N xab;by_cases a:0<=aI
  ·by_cases b:0<=ak
   ·exact bg (Lv Y a b) (by simp[mvM,yJ,f a,f b])
   exact bg (Lw Y a xaa) (by simp[mvM,yJ,f a,G aj b])
  have b:0<=ak:=xaa;exact bg (Ly Y xaa b) (by simp[mvM,yJ,G g a,f b])
 by_cases bj:o=3
 ·subst bj;have ah:=N xab;by_cases a:0<=aI
  ·by_cases b:0<=ak
   ·exact bg (LB Y a b) (by simp[mvM,yK,f a,f b])
   exact bg (LC Y a xaa) (by simp[mvM,yK,f a,G aj b])
  have b:0<=ak:=xaa;exact bg (LD Y xaa b) (by simp[mvM,yK,G g a,f b])
 by_cases n:o=4
 ·subst n;have ah:=N xab;by_cases a:0<=aI
  ·by_cases b:0<=ak
   ·exact bg (LF Y a b) (by simp[mvM,yL,f a,f b])
   exact bg (LH Y a xaa) (by simp[mvM,yL,f a,G aj b])
  have b:0<=ak:=xaa;exact bg (LI Y xaa b) (by simp[mvM,yL,G g a,f b])
 by_cases J:o=5
 ·subst J;have ah:=N xab;by_cases a:0<=aI
  ·by_cases b:0<=ak
   ·exact bg (LN Y a b) (by simp[mvM,yM,f a,f b])
   exact bg (Lz Y a xaa) (by simp[mvM,yM,f a,G aj b])
  have b:0<=ak:=xaa;exact bg (LM Y xaa b) (by simp[mvM,yM,G g a,f b])
 by_cases l:o=7
 ·subst l;have ah:=N xab;have e:mvM i ⟨7,C,r,vb,bE,bJ⟩ aI ak aW vs.length=([eK 3 C r vb 0]++(chM C (vs.length:Nat) aI ak (vs.length+1)).1,(chM C (vs.length:Nat) aI ak (vs.length+1)).2):=by grind[mvM]
  rw[e];by_cases a:0<=aI
  ·exact LO Y a aj
  exact LR Y xaa g xaa
 by_cases m:o=8
 ·subst m;by_cases b:0<=ak
  ·have e:mvM i ⟨8,C,r,vb,bE,bJ⟩ aI ak aW vs.length=chM C r ak aW vs.length:=by grind[mvM]
   rw[e];exact LQ Y b p
  by_cases c:0<=aW
  ·have e:mvM i ⟨8,C,r,vb,bE,bJ⟩ aI ak aW vs.length=chM C r ak aW vs.length:=by grind[mvM]
   rw[e];exact LS Y xaa aj c
  have e:mvM i ⟨8,C,r,vb,bE,bJ⟩ aI ak aW vs.length=([],-1):=by grind[mvM]
  rw[e];exact LE Y xaa xaa
 have X:cnt o<=1:=by grind[cnt]
 have b:=F X;have c:=N xaa;have a:0<=aI:=xaa;by_cases j:o=13
 ·subst j;exact bg (OH Y a) (by simp[mvM,f a])
 exact bg (OG Y ⟨bT,bj,n,J,l,m,j⟩ a) (by grind[mvM])
end
section
attribute[local go_sem] eF eE eD
theorem cN.qfs(h:Zp:=by
 clear K dd;go_wp2_with fail;go_region_held3 (λW:World=>W.cell? ⟨w.heap.size,0,none⟩=some (.slice R Z aH)/\W.cell? ⟨w.heap.size,1,none⟩=some (hz bJ us.length cap)/\W.cell? ⟨w.heap.size,2,none⟩=some (.slice aa ab Y)/\W.cell? ⟨a6,s,none⟩=some (hA mm)) (first|go_keep|(exact⟨(cw.o _ _ _ _).trans aZ,(cw.o _ _ _ _).trans ax,(cw.o _ _ _ _).trans aU,cx.o _ _ _⟩)) (fail)
 all_goals
  go_wp2_with fail
  refine yaz (v:=.tuple #[eZ R Z aH (some ⟨bJ,0,none⟩) us.length cap aa ab Y,hA mm]) (by simp[results,results136,go_sem,ba,aP,y2]) rfl ⟨?_,R1.o.2⟩
  rw[bx.o]
  exact⟨_,_,_,_,_,_,rfl,R1.o.1.1,R1.o.1.2.1,R1.o.1.2.2,ea.o⟩):Zp:=h
open cN in
theorem OK(w Q ae aN Z c1 n2 c2 ab c3)(s x t:Nat)(ins vs outs)(f:GS w Q Z (some ⟨aN,0,none⟩) n2 ae ab ins vs outs)(cW:VA w aN n2 vs)(b8:Z<=1000000)(cg:n2<=2000)(cO:ab<=1000000)(bV:(List.range n2).all (okV ins vs)=true)(cT:eU vs<=50000)(au:s<n2)(an:x<n2):
  Calls prog 136 #[eZ Q Z c1 (some ⟨aN,0,none⟩) n2 c2 ae ab c3,hA s,hA x,hA t] w λe B=>vD w B Z ab ins outs (jH vs s x t) e/\Kept 0 0 w B:=by
 have cN:Kept 0 0 w ((w.alloc (e9 Q Z c1 (some ⟨aN,0,none⟩) n2 c2 ae ab c3)).alloc fJ):=(ez 0 0 w _).trans (ez 0 0 _ _);have av:E _:=(fB w (.slice Q Z c1) (hz aN n2 c2) (.slice ae ab c3)).keep (ez 0 0 _ fJ);have cC:E (∀o,((w.alloc (e9 Q Z c1 (some ⟨aN,0,none⟩) n2 c2 ae ab c3)).alloc fJ).frozen? ⟨w.heap.size,o,none⟩=false):=λo=>by simp
 have bC:=iN (w.alloc (e9 Q Z c1 (some ⟨aN,0,none⟩) n2 c2 ae ab c3));rw[show(w.alloc _).heap.size=w.heap.size+1 by simp]at bC;have HR:E _:=bC;have ar:E _:=xM _ _ _ _ _ c1 _ c2 _ c3 _ _ _ (f.keep cN) b8 xaa cO;have bB:E _:=f.v.len;have cD:E _:=bV;have N:E _:=cT;clear bC cN f bV cT;go_enter func136,ntmps136;go_wp2_with fail;refine yaj ar.o ?_;rintro e aA ⟨R,aH,U,bf,aa,Y,rfl,cn,bT,bj,⟨aC,aL,b1⟩,aR⟩;have b2:E _:=LJ.start bB.o av.o cC.o HR.o aR cn bT bj aC aL b1;obtain⟨_,bK,bu,p2⟩:=av.o.keep aR;have bG:=(aR.frozen av.o.sz xaa).trans (cC.o 0);have f1:=(aR.frozen av.o.sz xaa).trans (cC.o 1);have f2:=(aR.frozen av.o.sz xaa).trans (cC.o 2);obtain⟨ba,aP,y2⟩:=fp _ _ _ _ _ bK bu p2 (.slice R Z aH) (.slice U n2 bf) (.slice aa ab Y);obtain⟨bQ,f0,a5,ci,bO,_,a2⟩:=mX bT xaa bB.o;injection a5 with el et eu;subst el;have bY:(fw _ w.heap.size (.slice R Z aH) (hz bQ n2 bf) (.slice aa ab Y)).cell? _=some _:=(jD _ _ _ _ _ _ _ (by simp at ci;omega)).trans (a2.at_ s au).c1;clear cn bT bj aC aL b1 ar av cC HR a2 et eu bO aR;go_upto_region 2 with fail;clear bK bu p2 bG f1 f2;unfold fw at b2 bY;generalize ((aA.setCell _ _).setCell ⟨_,1,_⟩ _).setCell _ _=dc at b2 bY ba aP y2⊢;have am:=wD n2 dc xaa;have cR:E _:=b2.o _ (IR.made _ _) (ez 0 0 _ _);generalize bl:(vs.getD s _).len=C at bY;have cK:E _:=bl;generalize d1:((w.alloc (e9 Q _ _ _ _ _ _ _ _)).alloc _).heap.size=base at cR;clear bl d1 b2 ci;generalize dc.alloc _=ag at am cR;have bm:(0:Int)<=s:=xaa;have aO:(s:Int)<n2:=xaa;go_wp2_with fail;clear am bY ba aP y2;generalize dc.heap.size=a6 at cR⊢;go_loopw [12] (λv W=>∃k:Nat,k<=n2/\v=hA k/\E (LJ w W a6 R Z aH aa ab Y ins outs vs (kY k n2) base (hz bQ n2 bf).ownBlock (some ⟨bQ,0,none⟩) bf)) (λv _=>n2-(intOf v).toNat)
 case atStart=>exact⟨0,yae,rfl,by unfold kY;exact cR⟩
 case round=>
  obtain⟨k,O,rfl,m⟩:=hrel;clear cR;by_cases aG:k<n2
  ·have c1:=m.o.m.cell k (by rw[vo k _ O];exact aG);have c2:=m.o.m.free k
   have R1:E (LJ w (wr.setCell ⟨a6,k,none⟩ (hA (-1))) a6 R Z aH aa ab Y ins outs vs (kY (k+1) n2) base (hz bQ n2 bf).ownBlock (some ⟨bQ,0,none⟩) bf):=by
    have:=m.o.set k (-1);rw[vq aG]at this;exact this
   clear m;generalize (kY k _).getD k 0=z at c1;exact xha
  obtain rfl:k=n2:=xaa;have c9:=m.o;rw[vp]at c9;have d7:=c9.m.cell x yag;have ew:=c9.m.free x
  have c7:E (∃H U cap,LJ w _ _ _ _ _ _ _ _ _ _ (jst _ x t 0).1 (jst _ x t 0).2 _ H U cap):=⟨_,_,_,by
   have:=c9.set x (t:Int)
   unfold jst
   rw[bB.o]
   exact this⟩
  clear m c9;generalize (List.replicate k (-1:Int)).getD x 0=z at d7;have P:(0:Int)<=x:=xaa;have cq:(x:Int)<k:=xaa;go_wp2_with fail;clear d7 ew;go_loopw [13] (λv W=>∃j:Nat,j<=s-x/\v=hA (x+1+j:Nat)/\E (∃H U cap,LJ w W a6 R Z aH aa ab Y ins outs (jst vs x t j).1 (jst vs x t j).2 base H U cap)) (λv _=>s+1-(intOf v).toNat)
  case atStart=>exact⟨0,yae,by simp,c7⟩
  case round=>
   obtain⟨j,hj,rfl,m⟩:=hrel;clear c7;obtain⟨H,U,cap,m⟩:=m.o
   have fs:vs.length<=(jst vs x t j).1.length:=by
    obtain⟨r,h⟩:=xg vs x t j;rw[h,yal];omega
   obtain⟨bJ,rfl,rfl,b3,a2⟩:=m.read (hJ bB.o);by_cases aG:j<s-x
   ·have aV:x+1+j<k:=xaa;have a7:=a2 (x+1+j) (hJ bB.o);rw[Cf _ x t j (hJ bB.o)]at a7;have d2:=List.all_eq_true.1 cD.o _ (List.mem_range.2 aV);have d3:=mY d2;have ct:E _:=mn d2;have cy:E _:=λh=>G8 _ x t j (hJ bB.o) (Bq h (xN vs x t j));have d4:E _:=xN vs x t j;have bI:E (jst _ x t (j+1)=((jst _ x t j).1++(jmv vs _ _).1,(jst _ x t j).2.set (x+1+j) _)):=rfl;have bq:E (jmv vs (x+1+j) (jst vs x t j)=mvM _ _ _ _ _ _):=rfl;have af:∀q,q<vs.length->_:=λq ap=>fU (List.all_eq_true.1 cD.o q (List.mem_range.2 (hJ bB.o)));obtain⟨aQ,_,_⟩:=tK _ x t af (mG _ (λq ap=>hJ (af q ap))) N.o j (hJ bB.o);have cS:E ((jst vs x t j).1.length<=800000/\k<=(jst vs x t j).1.length/\(jst _ x t j).2.length=k):=⟨hJ bB.o,hJ bB.o,by rw[xe];exact bB.o⟩
    have cJ:E _:=m.keep (ez 0 0 _ (.cells #[hA (-1),hA (-1),hA (-1)] 3));have ds:E _:=m.oth yad;have bk:E (IR _ _ [ovs (vs.getD (x+1+j) hF) (jst vs x t j).2 0 0,ovs (vs.getD (x+1+j) hF) (jst vs x t j).2 0 1,ovs (vs.getD (x+1+j) hF) (jst vs x t j).2 0 2]):=ir3 wr (-1) (-1) (-1);have ca:(x+1+j:Nat)<=(s:Int):=xaa;have gw:x+1+j<=s:=xaa;clear a2 m fs af aQ d2 a7 b3;generalize cV:vs.getD _ _=v at d3 ct cy bq bk;have co:E _:=cV;clear cV;generalize ec:(jst _ x t j).2=ao at cy d4 bI bq cS cJ bk;generalize eg:(jst _ x t j).1=us at bI bq cS cJ;have di:E ((jst _ x t j).1=us/\(jst _ x t j).2=ao):=⟨eg,ec⟩
    clear ec eg;generalize hi:x+1+j=i at ct co cy bI bq ca aV gw;have cc:E _:=hi;clear hi;go_wp2_with fail;generalize wr.alloc _=e0 at cJ bk⊢;generalize wr.heap.size=bg at bk ds⊢
    have eA:us.getD i hF=v:=by
     rw[<-di.o.1,<-cc.o,Cf _ x t j (hK cc.o bB.o),cc.o];exact co.o
    have ei:E _:=eA;have cH:i<us.length:=hJ cS.o
    have d0:=fI v.op;clear eA;go_loopw [15,16] (λsv cp W=>∃q:Nat,q<=cnt v.op/\sv=.bool (sf v ao q)/\cp=hA q/\E (IR W bg [ovs v ao q 0,ovs v ao q 1,ovs v ao q 2])/\E (LJ w W a6 R Z aH aa ab Y ins outs us ao base (some bJ) (some ⟨bJ,0,none⟩) cap)) (λ_ cp _=>3-(intOf cp).toNat)
    case atStart=>exact⟨0,yae,rfl,rfl,bk,cJ⟩
    case round=>
     obtain⟨q,ap,rfl,rfl,aM,bA⟩:=hrel;clear cJ bk;obtain⟨bP,b9,_,b3,a2⟩:=bA.o.read xaa;cases b9;have a7:=a2 i cH;rw[ei.o]at a7;obtain⟨ba,aP,y2,y3,y4,ck⟩:=a7;have ax:=bA.o.g.c1;have bW:(0:Int)<=i:=xaa;have ch:(i:Int)<us.length:=xaa;have HO:E _:=lO _ wr d3.1 d3.2;rw[Pp d3.1 d3.2]at HO;clear a2 b3;by_cases cB:q<cnt v.op
     ·obtain⟨aK,bd⟩:=ct.o q cB;obtain⟨F,cF⟩:=Int.eq_ofNat_of_zero_le aK;have be:E _:=mj wr v q xaa;rw[cF]at be;have eL:F<k:=xaa
      have cr:E (sf v ao (q+1)=(sf v ao q||decide (0<=ao.getD F 0))):=by
       have:=Eh v ao q;rw[cF,Int.toNat_natCast]at this;exact this
      have d5:E (([ovs v ao q 0,ovs v ao q 1,ovs v ao q 2]:List _).set q (ao.getD F 0)=[ovs v ao (q+1) 0,ovs v ao (q+1) 1,ovs v ao (q+1) 2]):=by
       have:=G9 v ao q xaa;rw[cF,Int.toNat_natCast]at this;exact this
      have tq:q<(cnt v.op:Int):=xaa;clear aK bd cF;go_wp2_with fail;refine yaj HO.o ?_;rintro e B ⟨rfl,rfl⟩;clear HO;go_wp2_with fail;refine yaj be.o ?_;rintro e bc ⟨rfl,bM⟩;have b4:=bA.o.keep bM;have dg:=IR.keep aM.o bM yaa;have cm:=b4.m.cell F (hJ cS.o);have bH:=dg.cell q yag;have d6:=dg.free q
      have R1:E (IR (bc.setCell ⟨bg,q,none⟩ (hA (ao.getD F 0))) bg [ovs v ao (q+1) 0,ovs v ao (q+1) 1,ovs v ao (q+1) 2]):=by
       have:=dg.set q (ao.getD F 0);rw[d5.o]at this;exact this
      have R2:E _:=b4.other ds.o q (hA (ao.getD F 0));clear b4 dg bA aM be bM ba aP y2 y3 y4 ck ax d5;generalize ao.getD _ 0=y at cm R1 R2 cr;generalize ([ovs v _ q 0,ovs v _ q 1,ovs v _ q 2]:List _).getD q 0=z at bH;have bG:(0:Int)<=F:=xaa;have f1:F<(k:Int):=xaa;have aY:(0:Int)<=q:=xaa;have b1:(q:Int)<3:=xaa;cases c8:sf v ao q
      ·exact xfy
      exact xfy
     obtain rfl:q=cnt v.op:=xaa;have tq:¬((cnt v.op:Int)<(cnt v.op:Int)):=xaa;cases c8:sf v ao (cnt v.op)
     ·have R1:E (∃H U cap,LJ w _ _ _ _ _ _ _ _ _ _ (jst _ x t _).1 (jst _ x t _).2 _ H U cap):=⟨_,_,_,by
       rw[cy.o c8,di.o.1,di.o.2]
       exact bA.o⟩
      go_wp2_with fail;refine yaj HO.o ?_;rintro e B ⟨rfl,rfl⟩;clear HO;exact xgq
     have aZ:=bA.o.g.c0;have aU:=bA.o.g.c2;have c0:=aM.o.cell 0 xac;have c1:=aM.o.cell 1 xac;have c2:=aM.o.cell 2 xac;rw[show([ovs v _ _ 0,ovs v _ _ 1,ovs v _ _ 2]:List _).getD 0 0=ovs v _ _ 0 from rfl]at c0;rw[show([ovs v _ _ 0,ovs v _ _ 1,ovs v _ _ 2]:List _).getD 1 0=ovs v _ _ 1 from rfl]at c1;rw[show([ovs v _ _ 0,ovs v _ _ 1,ovs v _ _ 2]:List _).getD 2 0=ovs v _ _ 2 from rfl]at c2;have ed:=Ei c8;have bP:∀n,-1<=ovs v _ (cnt v.op) n:=λn=>G6 d4.o;have a7:At _ _ _ v:=⟨ba,aP,y2,y3,y4,ck⟩
     have df:E (∀az,Kept 0 0 wr az->Calls prog 141 #[eZ R Z aH (some ⟨bJ,0,none⟩) us.length cap aa ab Y,hA i,hA (ovs v ao (cnt v.op) 0),hA (ovs v ao (cnt v.op) 1),hA (ovs v ao (cnt v.op) 2)] az λe bp=>∃(p:List Vl) (r:Int) (bN:Option Addr) (bR:Nat) (ce:Option Nat),e=.returned (.tuple #[eZ R Z aH bN p.length bR aa ab Y,hA r])/\(∀J o,J<az.heap.size->J≠bJ->bp.cell? ⟨J,o,none⟩=az.cell? ⟨J,o,none⟩)/\(∀J o,J<az.heap.size->J≠bJ->bp.frozen? ⟨J,o,none⟩=az.frozen? ⟨J,o,none⟩)/\az.heap.size<=bp.heap.size/\E (p=us++(jmv vs i (jst vs x t j)).1/\r=(jmv vs i (jst vs x t j)).2)/\
       E (∀(l h':Nat) (cl:World),Kept l h' bp cl->wr.heap.size<=l->(h'<=az.heap.size\/bp.heap.size<=l)->(bJ<l\/h'<=bJ)->LJ w (fw cl w.heap.size (.slice R Z aH) (.slice bN p.length bR) (.slice aa ab Y)) a6 R Z aH aa ab Y ins outs p ao base ce bN bR)):=λaz aj=>by
      refine(OJ az R aa Z aH cap ab Y base bJ i us v _ _ _ (bA.o.keep aj).g.own (bA.o.keep aj).g.sz cS.o.1 cH (a7.keep (eH bA.o.g.own (k:=bJ) rfl).2 aj yaa) (bP 0) (bP 1) (bP 2) ed (λah=>by unfold ovs;rw[hC xaa]) (λah=>by unfold ovs;rw[hC xaa])).mono ?_
      rintro e bp ⟨bN,bR,ce,rfl,e2,e3,dT⟩
      rw[<-bq.o]at e2 e3⊢
      have ad:∀J,J≠bJ->¬((λ_=>False) J\/some bJ=some J):=λJ aT=>by rintro (c|c);exact c;cases c;exact aT rfl
      refine⟨_,_,_,_,ce,rfl,λJ o aT aJ=>dT.chg.cell aT (ad J aJ),λJ o aT aJ=>dT.chg.frozen aT (ad J aJ),dT.chg.size,⟨rfl,rfl⟩,λl h' cl bU af cj b3=>?_⟩
      refine bA.o.step aj e2 e3 dT bU af (λg aJ=>?_)
      rcases dT.row with c|⟨r,c,aD⟩
      ·rw[c]at aJ;cases aJ;exact b3
      ·rw[c]at aJ;cases aJ
       have:=(eH e2 (e3.trans c)).2
       omega
     have I:E (w.heap.size<wr.heap.size/\bg<wr.heap.size/\w.heap.size≠bJ/\bg≠bJ/\bJ<wr.heap.size):=⟨bA.o.g.lt,aM.o.lt,λc=>bA.o.g.ne (by rw[c]),λc=>ds.o.r (by rw[c]),(eH bA.o.g.own rfl).2⟩
     have ev:=bA.o.g.free;clear ed bP a7 aP y2 y3 y4 ck bq;generalize ovs v _ _ 0=aI at c0 df aM;generalize ovs v _ _ 1=ak at c1 df aM;generalize ovs v _ _ 2=aW at c2 df aM;generalize ex:jmv _ i _=M at df bI;clear ex;obtain⟨ek,ej⟩:=M;go_wp2_with fail;refine yaj HO.o ?_;rintro e B ⟨rfl,rfl⟩;clear HO ba;go_upto_region 20 with fail;go_cut [17,18] (λeB gP cd=>∃(X:Nat) (p:List Vl) (r:Int) (bN:Option Addr) (bR:Nat) (ce:Option Nat),eB=hy X/\gP=hA r/\E (p=us++ek/\r=ej)/\E (RB cd X (.slice R Z aH) (.slice bN p.length bR) (.slice aa ab Y)/\((∃u,cd.cell? ⟨w.heap.size,0,none⟩=some u)/\(∃u,cd.cell? ⟨w.heap.size,1,none⟩=some u)/\(∃u,cd.cell? ⟨w.heap.size,2,none⟩=some u))/\(∀o,cd.frozen? ⟨w.heap.size,o,none⟩=false))/\E (LJ w (fw cd w.heap.size (.slice R Z aH) (.slice bN p.length bR) (.slice aa ab Y)) a6 R Z aH aa ab Y ins outs p ao base ce bN bR))
     case first=>
      have ee:w.heap.size≠B.heap.size:=hJ I.o
      have gp:bg≠B.heap.size:=hJ I.o
      have bE:E (∀J o,J<B.heap.size->(B.alloc _).drew.cell? ⟨J,o,none⟩=B.cell? _):=λJ o aT=>(ez 0 0 _ fJ).cell aT xaa
      go_region_held3 (λW:World=>W.cell? ⟨w.heap.size,0,none⟩=some (.slice R Z aH)/\W.cell? ⟨w.heap.size,1,none⟩=some (hz bJ us.length cap)/\W.cell? ⟨w.heap.size,2,none⟩=some (.slice aa ab Y)/\W.cell? ⟨bg,0,none⟩=some (hA aI)/\W.cell? ⟨bg,1,none⟩=some (hA ak)/\W.cell? ⟨bg,2,none⟩=some (hA aW)) (first|go_keep|(simp only[jD _ _ _ _ _ _ _ ee,jD _ _ _ _ _ _ _ gp];exact⟨b0,a1,U,a3,a4,cz⟩)) (first
       |(go_at_call 141;refine yaj (df.o _ ((ez 0 0 _ _).trans (eG _))) ?_;rintro e bp ⟨p,r,bN,bR,ce,rfl,b7,cG,cP,cM,ai⟩;have b0:=(b7 _ 0 (by have:=I.o;simp;omega) I.o.2.2.1).trans ((bE.o _ 0 I.o.1).trans aZ);have a1:=(b7 _ 1 (by have:=I.o;simp;omega) I.o.2.2.1).trans ((bE.o _ 1 I.o.1).trans ax);have U:=(b7 _ 2 (by have:=I.o;simp;omega) I.o.2.2.1).trans ((bE.o _ 2 I.o.1).trans aU);have a3:=(b7 bg 0 (by have:=I.o;simp;omega) I.o.2.2.2.1).trans ((bE.o bg 0 I.o.2.1).trans c0);have a4:=(b7 bg 1 (by have:=I.o;simp;omega) I.o.2.2.2.1).trans ((bE.o bg 1 I.o.2.1).trans c1);have cz:=(b7 bg 2 (by have:=I.o;simp;omega) I.o.2.2.2.1).trans ((bE.o bg 2 I.o.2.1).trans c2);have cQ:E _:=cG;have bD:=b7 B.heap.size 0 xac (hJ I.o);have aQ:=b7 B.heap.size 1 xac (hJ I.o);have a8:=b7 B.heap.size 2 xac (hJ I.o);have en:=cG B.heap.size 0 xac (hJ I.o);have ep:=cG B.heap.size 1 xac (hJ I.o);have er:=cG B.heap.size 2 xac (hJ I.o);have eb:E _:=cP;clear b7 cG cP)
       |(go_at_call 141;refine yaj (df.o _ (eG _)) ?_;rintro e bp ⟨p,r,bN,bR,ce,rfl,b7,cG,cP,cM,ai⟩;have b0:=(b7 _ 0 I.o.1 I.o.2.2.1).trans aZ;have a1:=(b7 _ 1 I.o.1 I.o.2.2.1).trans ax;have U:=(b7 _ 2 I.o.1 I.o.2.2.1).trans aU;have a3:=(b7 bg 0 I.o.2.1 I.o.2.2.2.1).trans c0;have a4:=(b7 bg 1 I.o.2.1 I.o.2.2.2.1).trans c1;have cz:=(b7 bg 2 I.o.2.1 I.o.2.2.2.1).trans c2;have cQ:E _:=cG;have ck:w.heap.size≠bp.heap.size:=(by have:=I.o;have:B.heap.size<=bp.heap.size:=cP;omega);have cU:bg≠bp.heap.size:=(by have:=I.o;have:B.heap.size<=bp.heap.size:=cP;omega);have eb:E _:=cP;clear b7 cG cP))
      ·have dv:B.heap.size<=bp.heap.size:=eb.o;have bh:=ez 0 0 bp (.cells #[.slice R Z aH,.slice bN p.length bR,.slice aa ab Y] 26);have cX:w.heap.size<bp.heap.size:=by have:=I.o;omega
       have R2:E (RB (bp.alloc (.cells #[.slice R Z aH,.slice bN p.length bR,.slice aa ab Y] 26)) bp.heap.size (.slice R Z aH) (.slice bN p.length bR) (.slice aa ab Y)/\((∃u,(bp.alloc _).cell? _=some u)/\(∃u,(bp.alloc _).cell? _=some u)/\(∃u,(bp.alloc _).cell? _=some u))/\(∀o,(bp.alloc _).frozen? _=false)):=
        ⟨⟨by simp,by simp,by simp,by simp,by simp,by simp,by simp⟩,⟨⟨_,(bh.cell cX xaa).trans b0⟩,⟨_,(bh.cell cX xaa).trans a1⟩,⟨_,(bh.cell cX xaa).trans U⟩⟩,λo=>(bh.frozen cX xaa).trans ((cQ.o _ o I.o.1 I.o.2.2.1).trans (ev o))⟩
       have R3:E _:=ai.o _ bp.heap.size _ (ez _ _ _ (.cells #[.slice R Z aH,.slice bN p.length bR,.slice aa ab Y] 26)) dv yab (.inl (hJ I.o));exact xiv
      have dv:=yao (ez 0 0 _ _).size eb.o;have S:=ft bp B.heap.size (.slice R Z aH) (.slice bN p.length bR) (.slice aa ab Y);have cX:w.heap.size<bp.heap.size:=hJ I.o
      have gs:B.heap.size<bp.heap.size:=yak xac eb.o;have fu:bp.cell? _=some (.slice none 0 0):=bD.trans xac;have fv:bp.cell? _=some (.slice none 0 0):=aQ.trans xac;have fz:bp.cell? _=some (.slice none 0 0):=a8.trans xac;obtain⟨ba,aP,y2⟩:=fp _ _ _ _ _ fu fv fz (.slice R Z aH) (.slice bN p.length bR) (.slice aa ab Y);have ef:∀o,bp.frozen? _=false:=λo=>(cQ.o B.heap.size o xac (hJ I.o)).trans xac;have cu:∀o,_:=λo=>(cQ.o _ o (by have:=I.o;simp;omega) I.o.2.2.1).trans (((ez 0 0 _ _).frozen I.o.1 xaa).trans (ev o))
      have R2:E (RB _ _ _ _ _/\((∃u,(((bp.setCell _ (.slice R Z aH)).setCell _ (.slice bN p.length bR)).setCell _ (.slice aa ab Y)).cell? _=some u)/\(∃u,(((bp.setCell _ (.slice R Z aH)).setCell _ (.slice bN p.length bR)).setCell _ (.slice aa ab Y)).cell? _=some u)/\(∃u,(((bp.setCell _ (.slice R Z aH)).setCell _ (.slice bN p.length bR)).setCell _ (.slice aa ab Y)).cell? _=some u))/\(∀o,(((bp.setCell ⟨B.heap.size,0,none⟩ (.slice R Z aH)).setCell ⟨B.heap.size,1,none⟩ (.slice bN p.length bR)).setCell ⟨B.heap.size,2,none⟩ (.slice aa ab Y)).frozen? ⟨w.heap.size,o,none⟩=false)):=
       ⟨⟨yak gs S.size,ba,aP,y2,by simp[ef 0],by simp[ef 1],by simp[ef 2]⟩,⟨⟨_,(jD _ _ _ _ _ _ _ ee).trans b0⟩,⟨_,(jD _ _ _ _ _ _ _ ee).trans a1⟩,⟨_,(jD _ _ _ _ _ _ _ ee).trans U⟩⟩,λo=>by simp[cu o]⟩
      have R3:E _:=ai.o _ _ _ S yad (.inl xac) (.inl I.o.2.2.2.2);clear S fu fv fz ef cu ba aP y2 bD aQ a8 en ep er;exact xiv
     case rest=>
      clear aZ ax aU c0 c1 c2 df bA aM ev;obtain⟨X,p,r,bN,bR,ce,rfl,rfl,cM,bF,ai⟩:=hcut;obtain⟨⟨_,bn,aX,bb,bz,bo,bw⟩,⟨⟨_,bK⟩,⟨_,bu⟩,⟨_,p2⟩⟩,cu⟩:=bF.o;have gA:=cu 0;have gB:=cu 1;have gE:=cu 2;clear cu bF;go_upto_region 22 with fail;clear bn aX bb bz bo bw bK bu p2 gA gB gE;unfold fw at ai;generalize ((wc.setCell _ _).setCell ⟨_,1,_⟩ _).setCell _ _=c6 at ai⊢;have cm:=ai.o.m.cell i (hJ cS.o);have eC:=ai.o.m.free i
      have R1:E (∃H U cap,LJ w (c6.setCell _ (.int _ r)) _ _ _ _ _ _ _ _ _ (jst _ x t _).1 (jst _ x t _).2 _ H U cap):=⟨_,_,_,by
       have:=ai.o.set i r
       rw[bI.o]
       rw[cM.o.2]at this⊢
       rw[cM.o.1]at this
       exact this⟩
      clear ai cM;generalize ao.getD i 0=z at cm;exact xgq
   obtain rfl:j=s-x:=xaa;have bL:¬((x+1+(s-x):Nat)<=(s:Int)):=xaa;have cA:s<(jst vs x t (s-x)).2.length:=by rw[xe,bB.o];exact au
   have cs:=m.m.cell s cA;have bi:=xN vs x t (s-x) s;have K:E (jH _ s x t=if (jst _ x t _).2.getD s 0=-1 then ((jst _ x t _).1++[eK 1 _ 0 0 0],(((jst _ x t _).1.length:Nat):Int))else ((jst _ x t _).1,(jst vs x t _).2.getD s 0)):=rfl;rw[cK.o]at K
   have dd:s<x->(jst _ x t (s-x)).2.getD s 0=-1:=λah=>by
    rw[show s-x=0 by omega]
    exact Ha _ x t s xaa (hL bB.o au)
   have af:∀q,q<vs.length->_:=λq ap=>fU (List.all_eq_true.1 cD.o q (List.mem_range.2 (hJ bB.o)));obtain⟨aQ,_,_⟩:=tK _ x t af (mG _ (λq ap=>hJ (af q ap))) N.o (s-x) (hJ bB.o);have bX:(jst vs x t (s-x)).1.length<=800000:=hJ bB.o
   have HL:E _:=m;clear a2 m fs af aQ cA aG b3;generalize (jst _ x t _).1=us at HL K bX;generalize (jst _ x t _).2=ao at HL K cs bi dd;generalize ao.getD s 0=mm at cs bi K dd;have aZ:=HL.o.g.c0;have ax:=HL.o.g.c1;have aU:=HL.o.g.c2;obtain⟨_,bn,aX,bb,bz,bo,bw⟩:=HL.o.b;have eS:(0:Int)<=s:=xaa;have eT:(s:Int)<k:=xaa;by_cases a2:x<=s/\0<=mm
   ·have bx:E (jH vs s x t=(us,mm)):=by
     show _=_;rw[K.o,hC xaa]
    have aI:((x:Int)<=s):=xaa;have ak:=a2.2;obtain⟨ba,aP,y2⟩:=fp _ _ _ _ _ bn aX bb (.slice R Z aH) (hz bJ us.length cap) (.slice aa ab Y);have gr:w.heap.size≠w.heap.size+1:=xaa;have fm:a6≠w.heap.size+1:=hK HL.o.hb HL.o.dM
    have hn:=Ne.symm fm;have cx:E (∀X bS a9:Value,(((wr.setCell _ X).setCell _ bS).setCell _ a9).drew.cell? _=some _):=λX bS a9=>(jD _ _ _ _ X bS a9 fm).trans cs;exact qfr
   have bx:E (jH vs s x t=(us++[eK 1 C 0 0 0],(us.length:Int))):=by
    show _=_
    rw[K.o,hD (by
     by_cases ah:s<x
     ·exact dd ah
     ·omega)]
   have ey:(¬(x<=(s:Int)))\/((x:Int)<=s/\¬(0<=mm)):=xaa;clear K dd bn aX bb bz bo bw a2 bi;rcases ey with bv|⟨bv,cI⟩
   all_goals
    go_upto_region 25 with fail
    clear cs
    go_cut [] (λcd=>∃aq cap',E (LJ w cd a6 R Z aH aa ab Y ins outs (us++[eK 1 C 0 0 0]) ao base (some aq) (some ⟨aq,0,none⟩) cap'))
    case first=>
     go_region_with (first
      |(go_at_call 44;refine yaj (LJ.call HL.o ((eG _).trans aw) _ xaa) ?_;rintro e ag ⟨aq,cap',rfl,⟨_,br⟩,⟨_,ay⟩,⟨_,a0⟩,al,aS⟩;have bZ:=al 0;have b5:=al 1;have b6:=al 2;clear al)
      |(go_at_call 71;refine yaj (oT _ _) ?_;rintro e aA ⟨rfl,aw⟩;have bK:=(LJ.keep HL.o ((eG _).trans aw)).g.c0;have bu:=(LJ.keep HL.o ((eG _).trans aw)).g.c1;have p2:=(LJ.keep HL.o ((eG _).trans aw)).g.c2))
     all_goals (go_wp2_with fail;go_meet;exact⟨_,_,aS⟩)
    case rest=>
     obtain⟨aq,cap',aS⟩:=hcut
     have cf:(us++[eK 1 C 0 0 0]).length=us.length+1:=by simp
     generalize aB:us++[eK 1 _ 0 0 0]=p at aS bx cf
     clear aZ ax aU aB HL
     have aZ:=aS.o.g.c0
     have ax:=aS.o.g.c1
     have aU:=aS.o.g.c2
     obtain⟨_,bn,aX,bb,bz,bo,bw⟩:=aS.o.b
     have G:E _:=λW=>jO W R (some ⟨aq,0,none⟩) aa Z aH p.length cap' ab Y xaa
     rw[show(p.length:Int)-1=(us.length:Nat) by omega]at G
     clear cf
     go_wp2_with fail
     go_region_with (first
      |(go_at_call 47;refine yaj (G.o _) ?_;rintro e aF ⟨rfl,aR⟩;clear bn aX bb bz bo bw;have aY:=(aS.o.keep ((eG _).trans aR)).g.c0;have aC:=(aS.o.keep ((eG _).trans aR)).g.c1;have aL:=(aS.o.keep ((eG _).trans aR)).g.c2;obtain⟨_,bn,aX,bb,bz,bo,bw⟩:=(aS.o.keep ((eG _).trans aR)).b))
     all_goals
      have ea:E _:=aS.o.a4
      have R1:E _:=aS.o.fin ((eG _).trans aR)
      obtain⟨ba,aP,y2⟩:=fp _ _ _ _ _ bn aX bb (.slice R Z aH) (hz aq p.length cap') (.slice aa ab Y)
      go_wp2_with fail
      refine yaz (v:=.tuple #[eZ R Z aH (some ⟨aq,0,none⟩) p.length cap' aa ab Y,hA us.length]) (by simp[results,results136,go_sem,ba,aP,y2]) rfl ⟨?_,R1.o.2⟩
      rw[bx.o]
      exact⟨_,_,_,_,_,_,rfl,R1.o.1.1,R1.o.1.2.1,R1.o.1.2.2,ea.o⟩
