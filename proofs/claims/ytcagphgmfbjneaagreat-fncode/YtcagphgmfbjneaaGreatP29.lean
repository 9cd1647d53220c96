import Derived.Test.YtcagphgmfbjneaaGreatP22
import Derived.Test.YtcagphgmfbjneaaGreatP21
import Derived.Test.YtcagphgmfbjneaaGreatP17
import Derived.Test.YtcagphgmfbjneaaGreatP28
namespace Go.Proofs.Z
variable{Zp:Prop}
open Tryz Go.RowKit Flt
set_option maxRecDepth 1000000
set_option maxHeartbeats 0
section
variable{vs2 ao g vs:List Vl}{m1 af m3 ah base cap:Nat}{a5 aQ C bl:Int}{U aa:Option Addr}
theorem tD{w H a0}(h:w.ownsRow base 86 6 (h0 a0 vs.length cap) vs.length (fN vs))(k:Kept 0 0 w H)(r):
  MvP w U m1 af aa m3 ah vs base (some a0) ([],r) (.returned (.tuple #[eX U m1 af (some ⟨a0,0,none⟩) vs.length cap aa m3 ah,h1 r])) H:=by
 unfold MvP;exact xhy
def orM(a n:Int)(N:Nat):List Vl×Int:=if a<0 then ([eJ 1 n 0 0 0],(N:Int))else ([],a)
theorem MS.orAny{w W ax J v R R'}(h:MS w W U m1 af aa m3 ah vs v base R R' J cap)(k:Kept 0 0 W ax)(a n)(ag:vs.length<=900000):
  Calls prog 141 #[eX U m1 af J vs.length cap aa m3 ah,h1 a,h1 n] ax λe am=>∃(vs2:List Vl) (m:Int) (a2':Option Addr) (cap':Nat) (R2:Option Nat),V (vs2=vs++(orM a n vs.length).1/\m=(orM a n vs.length).2)/\vs2.length<=vs.length+1/\e=.returned (.tuple #[eX U m1 af a2' vs2.length cap' aa m3 ah,h1 m])/\
   (∃u,am.cell? ⟨w.heap.size,0,none⟩=some u)/\(∃u,am.cell? ⟨w.heap.size,1,none⟩=some u)/\(∃u,am.cell? ⟨w.heap.size,2,none⟩=some u)/\(∀o,am.frozen? ⟨w.heap.size,o,none⟩=false)/\At am (w.heap.size+1+1) 0 v/\
   V (MS w (fg am w.heap.size (.slice U m1 af) (.slice a2' vs2.length cap') (.slice aa m3 ah)) U m1 af aa m3 ah vs2 v base R R2 a2' cap'):=by
 by_cases az:a<0
 ·refine(h.orNone k a n az ag).mono ?_;rintro e am ⟨aC,cap',rfl,bq,aq,aT,ak,aN,bJ⟩;have ai:(vs++[eJ 1 n 0 0 0]).length=vs.length+1:=by simp
  refine⟨vs++[eJ 1 n 0 0 0],(vs.length:Nat),some ⟨aC,0,none⟩,cap',some aC,⟨by rw[orM,h7 az],by rw[orM,h7 az]⟩,by rw[ai];exact yad,by rw[ai],bq,aq,aT,ak,aN,?_⟩;grind
 refine(h.orSome k a n xaa).mono ?_;rintro e am ⟨rfl,bq,aq,aT,ak,aN,bJ⟩;exact⟨vs,a,J,cap,R',⟨by rw[orM,h6 az,List.append_nil],by rw[orM,h6 az]⟩,by omega,rfl,bq,aq,aT,ak,aN,bJ⟩
theorem Hk{d m3}(F:-1<=aQ)(h2:-1<=C)(aB:vs2=vs++(orM aQ a5 vs.length).1/\bl=(orM aQ a5 vs.length).2)(bz:ao=vs2++(orM C a5 vs2.length).1/\m3=(orM C a5 vs2.length).2)(a0:g=ao++[eJ 8 a5 d bl m3]):
  g=vs++(chM a5 d aQ C vs.length).1/\(g.length:Int)-1=(chM a5 d aQ C vs.length).2:=by
 grind[chM,orM]
theorem Hl{f bj X m3}(F:-1<=aQ)(h2:-1<=C)(ay:f=vs++[eJ 3 a5 bj X 0])(aB:vs2=f++(orM aQ a5 f.length).1/\bl=(orM aQ a5 f.length).2)(bz:ao=vs2++(orM C a5 vs2.length).1/\m3=(orM C a5 vs2.length).2)(a0:g=ao++[eJ 8 a5 ((vs.length:Nat):Int) bl m3]):
  g=vs++([eJ 3 a5 bj X 0]++(chM a5 ((vs.length:Nat):Int) aQ C (vs.length+1)).1)/\(g.length:Int)-1=(chM a5 ((vs.length:Nat):Int) aQ C (vs.length+1)).2:=by
 have ai:f.length=vs.length+1:=by grind
 grind[Hk]
variable{w W H:World}{U aa J:Option Addr}{m1 af cap m3 ah base a0 i:Nat}{vs vs0:List Vl}{v:Vl}{aQ C S:Int}{R R':Option Nat}{M:List Vl×Int}
def MvC(w:World)(b1 b3:Option Addr)(m1 e1 cap m3 e3 base g2 i:Nat)(vs:List Vl)(ta tb tc:Int)(M:List Vl×Int):Prop:=
 Calls prog 140 #[eX b1 m1 e1 (some ⟨g2,0,none⟩) vs.length cap b3 m3 e3,.int .i64 (i:Int),.int .i64 ta,.int .i64 tb,.int .i64 tc] w λe w'=>MvP w b1 m1 e1 b3 m3 e3 vs base (some g2) M e w'
theorem MS.orX(h:MS w W U m1 af aa m3 ah vs v base R R' J cap)(a n)(ag:vs.length<=900000):
  Calls prog 141 #[eX U m1 af J vs.length cap aa m3 ah,h1 a,h1 n] W λe am=>∃(us:List Vl) (m:Int) (a2':Option Addr) (cap':Nat) (R2:Option Nat) (cR:World),V (us=vs++(orM a n vs.length).1/\m=(orM a n vs.length).2)/\us.length<=vs.length+1/\e=.returned (.tuple #[eX U m1 af a2' us.length cap' aa m3 ah,h1 m])/\
   (∃u,am.cell? ⟨w.heap.size,0,none⟩=some u)/\(∃u,am.cell? ⟨w.heap.size,1,none⟩=some u)/\(∃u,am.cell? ⟨w.heap.size,2,none⟩=some u)/\am.frozen? ⟨w.heap.size,0,none⟩=false/\am.frozen? ⟨w.heap.size,1,none⟩=false/\am.frozen? ⟨w.heap.size,2,none⟩=false/\
   V (((am.setCell ⟨w.heap.size,0,none⟩ (.slice U m1 af)).setCell ⟨w.heap.size,1,none⟩ (.slice a2' us.length cap')).setCell ⟨w.heap.size,2,none⟩ (.slice aa m3 ah)=cR)/\V (MS w cR U m1 af aa m3 ah us v base R R2 a2' cap'):=by
 refine(MS.orAny h iv a n ag).mono ?_;rintro e am ⟨us,m,aX,aK,I,bX,bV,rfl,bF,bB,bG,ak,_,bJ⟩;exact⟨_,m,_,_,_,_,bX,bV,rfl,bF,bB,bG,ak 0,ak 1,ak 2,rfl,bJ⟩
theorem MS.finR(h:MS w W U m1 af aa m3 ah vs v base R R' J cap)(K:∃aU,Kept 0 0 W aU/\H=fg aU (w.heap.size+1) (.slice U m1 af) (.slice J vs.length cap) (.slice aa m3 ah))(aN:vs=vs0++M.1):
  MvP w U m1 af aa m3 ah vs0 base R M (.returned (.tuple #[eX U m1 af J vs.length cap aa m3 ah,h1 M.2])) H:=by
 grind[MS.fin]
end
section
attribute[local go_sem] eE eD eC
variable{w:World}{U aa:Option Addr}{m1 af cap m3 ah base a0 i:Nat}{vs:List Vl}{o a5 bj X bz:Int}{bD:Nat}{aQ C S:Int}
theorem KY(ad:MvH w cap base a0 i vs ⟨2,a5,bj,X,bz,bD⟩)(az:0<=aQ)(y:0<=C):MvC w U aa m1 af cap m3 ah base a0 i vs aQ C S ([eJ 2 a5 aQ C 0],((vs.length:Nat):Int)):=by
 exact no_implicit_lambda% xcd
theorem KZ(ad:MvH w cap base a0 i vs ⟨2,a5,bj,X,bz,bD⟩)(az:0<=aQ)(y:C<0):MvC w U aa m1 af cap m3 ah base a0 i vs aQ C S ([],aQ):=by
 exact xbi
theorem K0(ad:MvH w cap base a0 i vs ⟨2,a5,bj,X,bz,bD⟩)(az:aQ<0)(y:0<=C):MvC w U aa m1 af cap m3 ah base a0 i vs aQ C S ([],C):=by
 exact xbi
theorem K1(ad:MvH w cap base a0 i vs ⟨5,a5,bj,X,bz,bD⟩)(az:0<=aQ)(y:C<0):MvC w U aa m1 af cap m3 ah base a0 i vs aQ C S ([eJ 5 a5 aQ X 0],((vs.length:Nat):Int)):=by
 exact no_implicit_lambda% xbg
variable{w:World}{U aa:Option Addr}{m1 af cap m3 ah base a0 i:Nat}{vs:List Vl}{o a5 bj X bz:Int}{bD:Nat}{aQ C S:Int}
theorem K2(ad:MvH w cap base a0 i vs ⟨3,a5,bj,X,bz,bD⟩)(az:0<=aQ)(y:0<=C):MvC w U aa m1 af cap m3 ah base a0 i vs aQ C S ([eJ 3 a5 aQ C 0],((vs.length:Nat):Int)):=by
 exact no_implicit_lambda% xcd
theorem K3(ad:MvH w cap base a0 i vs ⟨3,a5,bj,X,bz,bD⟩)(az:0<=aQ)(y:C<0):MvC w U aa m1 af cap m3 ah base a0 i vs aQ C S ([],aQ):=by
 exact xbi
theorem U.qau(h:Zp:=by
 exact qej):Zp:=h
theorem U.qek(h:Zp:=by
 refine fh (Ob Y xaa ?_);clear Y;unfold MfK;intros;rename_i wc K;obtain⟨f,aC,cap',b,B,Y⟩:=K;go_wp2_with fail;refine fh (Oa Y xaa (show(f.length:Int)-1=(vs.length:Nat) by have:=b.o.2;omega) ?_);exact no_implicit_lambda% xbl):Zp:=h
open U in
theorem K4(ad:MvH w cap base a0 i vs ⟨3,a5,bj,X,bz,bD⟩)(az:aQ<0)(y:0<=C):MvC w U aa m1 af cap m3 ah base a0 i vs aQ C S ([eJ 6 a5 C 0 0],((vs.length:Nat):Int)):=by
 exact qat
theorem V.qau(h:Zp:=by
 unfold MvC;have a9:=yan ho.1;have bV:=yan ho.2.1;have cj:=yan ho.2.2.1;have cC:=yan ho.2.2.2.1;have da:=yan ho.2.2.2.2.1;have j:=yan ho.2.2.2.2.2.1;have d:=yan ho.2.2.2.2.2.2;clear ho;go_enter func140,ntmps140;go_wp2_with fail;rw[a7.o];clear aw ba bb bc bo aF a7;refine fh (Ox Y xaa ?_);exact no_implicit_lambda% xcv):Zp:=h
open V in
theorem Oz(ad:MvH w cap base a0 i vs ⟨o,a5,bj,X,bz,bD⟩)(ho:o≠2/\o≠3/\o≠4/\o≠5/\o≠7/\o≠8/\o≠13)(az:0<=aQ):MvC w U aa m1 af cap m3 ah base a0 i vs aQ C S ([eJ o a5 aQ 0 bz],((vs.length:Nat):Int)):=by
 exact qat
theorem K5(ad:MvH w cap base a0 i vs ⟨8,a5,bj,X,bz,bD⟩)(y:C<0)(al:S<0):MvC w U aa m1 af cap m3 ah base a0 i vs aQ C S ([],-1):=by
 exact xbi
variable{w:World}{U aa:Option Addr}{m1 af cap m3 ah base a0 i:Nat}{vs:List Vl}{o a5 bj X bz:Int}{bD:Nat}{aQ C S:Int}
theorem J.qao(h:Zp:=by
 have aw:=Y.o.v.c0;go_wp2_with fail;clear aw;refine fh (Gu Y xaa ?_);clear Y;unfold MfK;exact qdl):Zp:=h
theorem J.qdm(h:Zp:=by
 have aw:=Y.o.v.c0;have a:(0:Int)<=(vs.length:Nat):=xaa;have d:(0:Int)<=((vs.length:Nat)+1):=xaa;go_wp2_with fail;clear aw;refine fh (GF Y xaa ?_);clear Y;unfold MfK;intros;rename_i wc K;obtain⟨ao,aC,cap',l,u,Y⟩:=K;go_wp2_with fail;refine fh (GD Y xaa (show(ao.length:Int)-1=((vs.length:Nat)+2) by have:=b.o.2;have:=h.o.2;have:=l.o.2;omega) ?_);exact no_implicit_lambda% xek):Zp:=h
open J in
theorem K6(ad:MvH w cap base a0 i vs ⟨4,a5,bj,X,bz,bD⟩)(az:0<=aQ)(y:0<=C):MvC w U aa m1 af cap m3 ah base a0 i vs aQ C S ([eJ 4 a5 aQ X 0,eJ 4 a5 bj C 0,eJ 2 a5 ((vs.length:Nat):Int) (((vs.length:Nat):Int)+1) 0],(((vs.length:Nat):Int)+2)):=by
 exact no_implicit_lambda% qee
variable{w:World}{U aa:Option Addr}{m1 af cap m3 ah base a0 i:Nat}{vs:List Vl}{o a5 bj X bz:Int}{bD:Nat}{aQ C S:Int}
theorem K7(ad:MvH w cap base a0 i vs ⟨4,a5,bj,X,bz,bD⟩)(az:0<=aQ)(y:C<0):MvC w U aa m1 af cap m3 ah base a0 i vs aQ C S ([eJ 4 a5 aQ X 0],((vs.length:Nat):Int)):=by
 exact no_implicit_lambda% xbg
theorem W.qau(h:Zp:=by
 exact qej):Zp:=h
theorem W.qek(h:Zp:=by
 refine fh (Gu Y xaa ?_);exact no_implicit_lambda% xau):Zp:=h
open W in
theorem K8(ad:MvH w cap base a0 i vs ⟨4,a5,bj,X,bz,bD⟩)(az:aQ<0)(y:0<=C):MvC w U aa m1 af cap m3 ah base a0 i vs aQ C S ([eJ 4 a5 bj C 0],((vs.length:Nat):Int)):=by
 exact qat
theorem X.qau(h:Zp:=by
 exact qej):Zp:=h
theorem X.qek(h:Zp:=by
 refine fh (Oy Y xaa ?_);exact no_implicit_lambda% xcv):Zp:=h
open X in
theorem OA(ad:MvH w cap base a0 i vs ⟨13,a5,bj,X,bz,bD⟩)(az:0<=aQ):MvC w U aa m1 af cap m3 ah base a0 i vs aQ C S ([eJ 4 a5 aQ (i:Int) 0],((vs.length:Nat):Int)):=by
 exact qat
variable{w:World}{U aa:Option Addr}{m1 af cap m3 ah base a0 i:Nat}{vs:List Vl}{o a5 bj X bz:Int}{bD:Nat}{aQ C S:Int}
theorem Y.qau(h:Zp:=by
 unfold MvC;go_enter func140,ntmps140;go_wp2_with fail;rw[a7.o];clear aw ba bb bc bo aF a7;refine fh (GE Y xaa ?_);clear Y;unfold MfK;intros;rename_i wc K;obtain⟨f,aC,cap',b,B,Y⟩:=K;go_wp2_with fail;refine fh (GG Y xaa (show(f.length:Int)-1=(vs.length:Nat) by have:=b.o.2;omega) ?_);clear Y;unfold MfK;exact qdl):Zp:=h
theorem Y.qdm(h:Zp:=by
 have aw:=Y.o.v.c0;have a:(0:Int)<=((vs.length:Nat)+1):=xaa;go_wp2_with fail;clear aw;refine fh (NU Y xaa ?_);clear Y;unfold MfK;intros;rename_i wc K;obtain⟨ao,aC,cap',l,u,Y⟩:=K;go_wp2_with fail;refine fh (NV Y xaa (show(ao.length:Int)-1=((vs.length:Nat)+2) by have:=b.o.2;have:=h.o.2;have:=l.o.2;omega) ?_);exact no_implicit_lambda% xek):Zp:=h
open Y in
theorem K9(ad:MvH w cap base a0 i vs ⟨5,a5,bj,X,bz,bD⟩)(az:aQ<0)(y:0<=C):MvC w U aa m1 af cap m3 ah base a0 i vs aQ C S ([eJ 4 a5 (i:Int) C 0,eJ 5 a5 ((vs.length:Nat):Int) X 0,eJ 6 a5 (((vs.length:Nat):Int)+1) 0 0],(((vs.length:Nat):Int)+2)):=by
 exact qat
variable{w:World}{U aa:Option Addr}{m1 af cap m3 ah base a0 i:Nat}{vs:List Vl}{o a5 bj X bz:Int}{bD:Nat}{aQ C S:Int}
theorem K.qao(h:Zp:=by
 have aw:=Y.o.v.c0;go_wp2_with fail;clear aw;refine fh (GE Y xaa ?_);clear Y;unfold MfK;intros;rename_i wc K;obtain⟨vs2,aC,cap',h,F,Y⟩:=K;go_wp2_with fail;refine fh (GG Y xaa (show(vs2.length:Int)-1=((vs.length:Nat)+1) by have:=b.o.2;have:=h.o.2;omega) ?_);clear Y;unfold MfK;intros;rename_i wc K;obtain⟨ao,aC,cap',l,u,Y⟩:=K;obtain⟨_,_,aY,ar,aW,_,_,_,_⟩:=Y.o.g;go_wp2_with fail;refine(MS.lst Y.o xaa (show(ao.length:Int)-1=((vs.length:Nat)+2) by have:=b.o.2;have:=h.o.2;have:=l.o.2;omega)).mono ?_;clear Y aY ar aW;rintro e r ⟨rfl,Y⟩;have aw:=Y.o.v.c0;have a:(0:Int)<=(vs.length:Nat):=xaa;have d:(0:Int)<=((vs.length:Nat)+2):=xaa;go_wp2_with fail;clear aw;refine fh (GF Y xaa ?_);clear Y;unfold MfK;intros;rename_i wc K;obtain⟨g,aC,cap',I,bM,Y⟩:=K;go_wp2_with fail;refine fh (GD Y xaa (show(g.length:Int)-1=((vs.length:Nat)+3) by have:=b.o.2;have:=h.o.2;have:=l.o.2;have:=I.o.2;omega) ?_);unfold MfK;intros;rename_i aU K;obtain⟨bh,aJ,y2,HR⟩:=K;go_wp2_with fail;exact yaz (by simp[results,results140,go_sem,bh,aJ,y2]) rfl (MS.finR Y.o HR.o (by rw[I.o.1,l.o.1,h.o.1,b.o.1]<;>simp))):Zp:=h
open K in
theorem La(ad:MvH w cap base a0 i vs ⟨5,a5,bj,X,bz,bD⟩)(az:0<=aQ)(y:0<=C):MvC w U aa m1 af cap m3 ah base a0 i vs aQ C S ([eJ 5 a5 aQ X 0,eJ 4 a5 (i:Int) C 0,eJ 5 a5 (((vs.length:Nat):Int)+1) X 0,eJ 3 a5 ((vs.length:Nat):Int) (((vs.length:Nat):Int)+2) 0],(((vs.length:Nat):Int)+3)):=by
 exact no_implicit_lambda% qee
variable{w:World}{U aa:Option Addr}{m1 af cap m3 ah base a0 i:Nat}{vs:List Vl}{o a5 bj X bz:Int}{bD:Nat}{aQ C S:Int}
theorem Lb(ad:MvH w cap base a0 i vs ⟨7,a5,bj,X,bz,bD⟩)(az:0<=aQ)(y:-1<=C):MvC w U aa m1 af cap m3 ah base a0 i vs aQ C S ([eJ 3 a5 bj X 0]++(chM a5 ((vs.length:Nat):Int) aQ C (vs.length+1)).1,(chM a5 ((vs.length:Nat):Int) aQ C (vs.length+1)).2):=by
 exact no_implicit_lambda% xaq
theorem Lc(ad:MvH w cap base a0 i vs ⟨8,a5,bj,X,bz,bD⟩)(y:0<=C)(al:-1<=S):MvC w U aa m1 af cap m3 ah base a0 i vs aQ C S (chM a5 bj C S vs.length):=by
 exact no_implicit_lambda% xax
variable{w:World}{U aa:Option Addr}{m1 af cap m3 ah base a0 i:Nat}{vs:List Vl}{o a5 bj X bz:Int}{bD:Nat}{aQ C S:Int}
theorem Ld(ad:MvH w cap base a0 i vs ⟨7,a5,bj,X,bz,bD⟩)(az:aQ<0)(m:-1<=aQ)(y:0<=C):MvC w U aa m1 af cap m3 ah base a0 i vs aQ C S ([eJ 3 a5 bj X 0]++(chM a5 ((vs.length:Nat):Int) aQ C (vs.length+1)).1,(chM a5 ((vs.length:Nat):Int) aQ C (vs.length+1)).2):=by
 exact no_implicit_lambda% xaq
theorem Le(ad:MvH w cap base a0 i vs ⟨8,a5,bj,X,bz,bD⟩)(y:C<0)(ax:-1<=C)(al:0<=S):MvC w U aa m1 af cap m3 ah base a0 i vs aQ C S (chM a5 bj C S vs.length):=by
 exact no_implicit_lambda% xax
end
section
theorem OB(w U aa m1 af cap m3 ah base a0 i vs v aQ C S)(h:w.ownsRow base 86 6 (h0 a0 vs.length cap) vs.length (fN vs))(hb:base<=w.heap.size)(ag:vs.length<=800000)(hi:i<vs.length)(aN:At w a0 (i*6) v)
  (f:-1<=aQ) (aj:-1<=C) (l:-1<=S) (aw:¬(aQ=-1/\C=-1/\S=-1)) (h2:cnt v.op<=2->S=-1) (F:cnt v.op<=1->C=-1):
  Calls prog 140 #[eX U m1 af (some ⟨a0,0,none⟩) vs.length cap aa m3 ah,h1 i,h1 aQ,h1 C,h1 S] w λe B=>MvP w U m1 af aa m3 ah vs base (some a0) (mvM (i:Int) v aQ C S vs.length) e B:=by
 obtain⟨o,a5,bj,X,bz,bD⟩:=v;have ad:MvH w _ _ _ i _ _:=⟨h,hb,ag,hi,aN⟩
 have br:∀{v:Vl}{M:List _×Int},MvC w U aa m1 af cap m3 ah base a0 i vs aQ C S M->mvM i v aQ C S vs.length=M->_:=λh e=>e ▸ h;clear h hb ag hi aN;simp only at F h2;have d:∀{x:Int},0<=x->¬x=-1:=λh=>by omega
 have an:∀{x:Int},-1<=x->¬0<=x->x=-1:=λh k=>by omega
 by_cases b9:o=2
 ·subst b9;have al:=h2 xab;by_cases a:0<=aQ
  ·by_cases b:0<=C
   ·exact br (KY ad a b) (by simp[mvM,zx,d a,d b])
   exact br (KZ ad a xaa) (by simp[mvM,zx,d a,an aj b])
  have b:0<=C:=xaa;exact br (K0 ad xaa b) (by simp[mvM,zx,an f a,d b])
 by_cases bf:o=3
 ·subst bf;have al:=h2 xab;by_cases a:0<=aQ
  ·by_cases b:0<=C
   ·exact br (K2 ad a b) (by simp[mvM,zy,d a,d b])
   exact br (K3 ad a xaa) (by simp[mvM,zy,d a,an aj b])
  have b:0<=C:=xaa;exact br (K4 ad xaa b) (by simp[mvM,zy,an f a,d b])
 by_cases n:o=4
 ·subst n;have al:=h2 xab;by_cases a:0<=aQ
  ·by_cases b:0<=C
   ·exact br (K6 ad a b) (by simp[mvM,zB,d a,d b])
   exact br (K7 ad a xaa) (by simp[mvM,zB,d a,an aj b])
  have b:0<=C:=xaa;exact br (K8 ad xaa b) (by simp[mvM,zB,an f a,d b])
 by_cases I:o=5
 ·subst I;have al:=h2 xab;by_cases a:0<=aQ
  ·by_cases b:0<=C
   ·exact br (La ad a b) (by simp[mvM,zC,d a,d b])
   exact br (K1 ad a xaa) (by simp[mvM,zC,d a,an aj b])
  have b:0<=C:=xaa;exact br (K9 ad xaa b) (by simp[mvM,zC,an f a,d b])
 by_cases g:o=7
 ·subst g;have al:=h2 xab;have e:mvM i ⟨7,a5,bj,X,bz,bD⟩ aQ C S vs.length=([eJ 3 a5 bj X 0]++(chM a5 (vs.length:Nat) aQ C (vs.length+1)).1,(chM a5 (vs.length:Nat) aQ C (vs.length+1)).2):=by grind[mvM]
  rw[e];by_cases a:0<=aQ
  ·exact Lb ad a aj
  exact Ld ad xaa f xaa
 by_cases m:o=8
 ·subst m;by_cases b:0<=C
  ·have e:mvM i ⟨8,a5,bj,X,bz,bD⟩ aQ C S vs.length=chM a5 bj C S vs.length:=by grind[mvM]
   rw[e];exact Lc ad b l
  by_cases c:0<=S
  ·have e:mvM i ⟨8,a5,bj,X,bz,bD⟩ aQ C S vs.length=chM a5 bj C S vs.length:=by grind[mvM]
   rw[e];exact Le ad xaa aj c
  have e:mvM i ⟨8,a5,bj,X,bz,bD⟩ aQ C S vs.length=([],-1):=by grind[mvM]
  rw[e];exact K5 ad xaa xaa
 have cd:cnt o<=1:=by grind[cnt]
 have b:=F cd;have c:=h2 xaa;have a:0<=aQ:=xaa;by_cases j:o=13
 ·subst j;exact br (OA ad a) (by simp[mvM,d a])
 exact br (Oz ad ⟨b9,bf,n,I,g,m,j⟩ a) (by grind[mvM])
end
section
attribute[local go_sem] eE eD eC
theorem dF.qge(h:Zp:=by
 clear aV cV;go_wp2_with fail;go_region_held3 (λW:World=>W.cell? ⟨w.heap.size,0,none⟩=some (.slice U Z aM)/\W.cell? ⟨w.heap.size,1,none⟩=some (h0 b0 us.length cap)/\W.cell? ⟨w.heap.size,2,none⟩=some (.slice aa ab aI)/\W.cell? ⟨aD,s,none⟩=some (h1 mm)) (first|go_keep|(exact⟨(cO.o _ _ _ _).trans aY,(cO.o _ _ _ _).trans ar,(cO.o _ _ _ _).trans aW,cp.o _ _ _⟩)) (fail)
 all_goals
  go_wp2_with fail
  refine yaz (v:=.tuple #[eX U Z aM (some ⟨b0,0,none⟩) us.length cap aa ab aI,h1 mm]) (by simp[results,results136,go_sem,bh,aJ,y2]) rfl ⟨?_,R1.o.2⟩
  rw[bJ.o]
  exact⟨_,_,_,_,_,_,rfl,R1.o.1.1,R1.o.1.2.1,R1.o.1.2.2,d5.o⟩):Zp:=h
open dF in
theorem OC(w K P a0 Z c1 ae c2 ab c3)(s x t:Nat)(ins vs outs)(f:GS w K Z (some ⟨a0,0,none⟩) ae P ab ins vs outs)(cQ:VA w a0 ae vs)(b6:Z<=1000000)(cf:ae<=2000)(b7:ab<=1000000)(Q:(List.range ae).all (okV ins vs)=true)(cN:eZ vs<=50000)(aw:s<ae)(ap:x<ae):
  Calls prog 136 #[eX K Z c1 (some ⟨a0,0,none⟩) ae c2 P ab c3,h1 s,h1 x,h1 t] w λe B=>v7 w B Z ab ins outs (jR vs s x t) e/\Kept 0 0 w B:=by
 have cy:Kept 0 0 w ((w.alloc (fx K Z c1 (some ⟨a0,0,none⟩) ae c2 P ab c3)).alloc fH):=(eA 0 0 w _).trans (eA 0 0 _ _);have T:V _:=(hH w (.slice K Z c1) (h0 a0 ae c2) (.slice P ab c3)).keep (eA 0 0 _ fH);have bn:V (∀o,((w.alloc (fx K Z c1 (some ⟨a0,0,none⟩) ae c2 P ab c3)).alloc fH).frozen? ⟨w.heap.size,o,none⟩=false):=λo=>by simp
 have bI:=iW (w.alloc (fx K Z c1 (some ⟨a0,0,none⟩) ae c2 P ab c3));rw[show(w.alloc _).heap.size=w.heap.size+1 by simp]at bI;have HR:V _:=bI;have HX:V _:=xZ _ _ _ _ _ c1 _ c2 _ c3 _ _ _ (f.keep cy) b6 xaa b7;have N:V _:=f.v.len;have cB:V _:=Q;have cd:V _:=cN;clear bI cy f Q cN;go_enter func136,ntmps136;go_wp2_with fail;refine yaj HX.o ?_;rintro e aH ⟨U,aM,J,bi,aa,aI,rfl,ch,b9,bf,⟨ay,aB,bz⟩,aZ⟩;have cw:V _:=LJ.start N.o T.o bn.o HR.o aZ ch b9 bf ay aB bz;obtain⟨_,bH,bk,p2⟩:=T.o.keep aZ;have bN:=(aZ.frozen T.o.sz xaa).trans (bn.o 0);have f1:=(aZ.frozen T.o.sz xaa).trans (bn.o 1);have f2:=(aZ.frozen T.o.sz xaa).trans (bn.o 2);obtain⟨bh,aJ,y2⟩:=fd _ _ _ _ _ bH bk p2 (.slice U Z aM) (.slice J ae bi) (.slice aa ab aI);obtain⟨b4,fG,F,bO,cc,_,be⟩:=nj b9 xaa N.o;injection F with en ep et;subst en;have aG:(fg _ w.heap.size (.slice U Z aM) (h0 b4 ae bi) (.slice aa ab aI)).cell? _=some _:=(jK _ _ _ _ _ _ _ (by simp at bO;omega)).trans (be.at_ s aw).c1;clear ch b9 bf ay aB bz HX T bn HR be ep et cc aZ;go_upto_region 2 with fail;clear bH bk p2 bN f1 f2;unfold fg at cw aG;generalize ((aH.setCell _ _).setCell ⟨_,1,_⟩ _).setCell _ _=c6 at cw aG bh aJ y2⊢;have ao:=FY ae c6 xaa;have cG:V _:=cw.o _ (IR.made _ _) (eA 0 0 _ _);generalize ct:(vs.getD s _).len=a5 at aG;have bu:V _:=ct;generalize bC:((w.alloc (fx K _ _ _ _ _ _ _ _)).alloc _).heap.size=base at cG;clear ct bC cw bO;generalize c6.alloc _=am at ao cG;have bE:(0:Int)<=s:=xaa;have bm:(s:Int)<ae:=xaa;go_wp2_with fail;clear ao aG bh aJ y2;generalize c6.heap.size=aD at cG⊢;go_loopw [12] (λv W=>∃k:Nat,k<=ae/\v=h1 k/\V (LJ w W aD U Z aM aa ab aI ins outs vs (lD k ae) base (h0 b4 ae bi).ownBlock (some ⟨b4,0,none⟩) bi)) (λv _=>ae-(intOf v).toNat)
 case atStart=>exact⟨0,yae,rfl,by unfold lD;exact cG⟩
 case round=>
  obtain⟨k,O,rfl,m⟩:=hrel;clear cG;by_cases hlt:k<ae
  ·have c1:=m.o.m.cell k (by rw[vT k _ O];exact hlt);have c2:=m.o.m.free k
   have R1:V (LJ w (wr.setCell ⟨aD,k,none⟩ (h1 (-1))) aD U Z aM aa ab aI ins outs vs (lD (k+1) ae) base (h0 b4 ae bi).ownBlock (some ⟨b4,0,none⟩) bi):=by
    have:=m.o.set k (-1);rw[vV hlt]at this;exact this
   clear m;generalize (lD k _).getD k 0=z at c1;exact xhn
  obtain rfl:k=ae:=xaa;have cU:=m.o;rw[vU]at cU;have d0:=cU.m.cell x yag;have eu:=cU.m.free x
  have ea:V (∃R J cap,LJ w _ _ _ _ _ _ _ _ _ _ (jst _ x t 0).1 (jst _ x t 0).2 _ R J cap):=⟨_,_,_,by
   have:=cU.set x (t:Int)
   unfold jst
   rw[N.o]
   exact this⟩
  clear m cU;generalize (List.replicate k (-1:Int)).getD x 0=z at d0;have ad:(0:Int)<=x:=xaa;have c9:(x:Int)<k:=xaa;go_wp2_with fail;clear d0 eu;go_loopw [13] (λv W=>∃j:Nat,j<=s-x/\v=h1 (x+1+j:Nat)/\V (∃R J cap,LJ w W aD U Z aM aa ab aI ins outs (jst vs x t j).1 (jst vs x t j).2 base R J cap)) (λv _=>s+1-(intOf v).toNat)
  case atStart=>exact⟨0,yae,by simp,ea⟩
  case round=>
   obtain⟨j,hj,rfl,m⟩:=hrel;clear ea;obtain⟨R,J,cap,m⟩:=m.o
   have e6:vs.length<=(jst vs x t j).1.length:=by
    obtain⟨r,h⟩:=xN vs x t j;rw[h,yal];omega
   obtain⟨b0,rfl,rfl,ck,be⟩:=m.read (ix N.o);by_cases hlt:j<s-x
   ·have bg:x+1+j<k:=xaa;have bw:=be (x+1+j) (ix N.o);rw[CA _ x t j (ix N.o)]at bw;have dT:=List.all_eq_true.1 cB.o _ (List.mem_range.2 bg);have cK:=nu dT;have ca:V _:=mE dT;have cT:V _:=λh=>GL _ x t j (ix N.o) (BC h (xX vs x t j));have d2:V _:=xX vs x t j;have d:V (jst _ x t (j+1)=((jst _ x t j).1++(jmv vs _ _).1,(jst _ x t j).2.set (x+1+j) _)):=rfl;have bv:V (jmv vs (x+1+j) (jst vs x t j)=mvM _ _ _ _ _ _):=rfl;have ai:∀q,q<vs.length->_:=λq aA=>gi (List.all_eq_true.1 cB.o q (List.mem_range.2 (ix N.o)));obtain⟨aR,_,_⟩:=ut _ x t ai (mP _ (λq aA=>ix (ai q aA))) cd.o j (ix N.o);have cI:V ((jst vs x t j).1.length<=800000/\k<=(jst vs x t j).1.length/\(jst _ x t j).2.length=k):=⟨ix N.o,ix N.o,by rw[xM];exact N.o⟩
    have cP:V _:=m.keep (eA 0 0 _ (.cells #[h1 (-1),h1 (-1),h1 (-1)] 3));have dg:V _:=m.oth yad;have a2:V (IR _ _ [ovs (vs.getD (x+1+j) h9) (jst vs x t j).2 0 0,ovs (vs.getD (x+1+j) h9) (jst vs x t j).2 0 1,ovs (vs.getD (x+1+j) h9) (jst vs x t j).2 0 2]):=ir3 wr (-1) (-1) (-1);have bZ:(x+1+j:Nat)<=(s:Int):=xaa;have gg:x+1+j<=s:=xaa;clear be m e6 ai aR dT bw ck;generalize cJ:vs.getD _ _=v at cK ca cT bv a2;have cH:V _:=cJ;clear cJ;generalize eb:(jst _ x t j).2=au at cT d2 d bv cI cP a2;generalize av:(jst _ x t j).1=us at d bv cI cP;have dd:V ((jst _ x t j).1=us/\(jst _ x t j).2=au):=⟨av,eb⟩
    clear eb av;generalize hi:x+1+j=i at ca cH cT d bv bZ bg gg;have b8:V _:=hi;clear hi;go_wp2_with fail;generalize wr.alloc _=eR at cP a2⊢;generalize wr.heap.size=br at a2 dg⊢
    have eq:us.getD i h9=v:=by
     rw[<-dd.o.1,<-b8.o,CA _ x t j (i0 b8.o N.o),b8.o];exact cH.o
    have ed:V _:=eq;have dc:i<us.length:=ix cI.o
    have d1:=gK v.op;clear eq;go_loopw [15,16] (λsv bX W=>∃q:Nat,q<=cnt v.op/\sv=.bool (sK v au q)/\bX=h1 q/\V (IR W br [ovs v au q 0,ovs v au q 1,ovs v au q 2])/\V (LJ w W aD U Z aM aa ab aI ins outs us au base (some b0) (some ⟨b0,0,none⟩) cap)) (λ_ bX _=>3-(intOf bX).toNat)
    case atStart=>exact⟨0,yae,rfl,rfl,a2,cP⟩
    case round=>
     obtain⟨q,aA,rfl,rfl,aL,bV⟩:=hrel;clear cP a2;obtain⟨az,cj,_,ck,be⟩:=bV.o.read xaa;cases cj;have bw:=be i dc;rw[ed.o]at bw;obtain⟨bh,aJ,y2,y3,y4,b5⟩:=bw;have ar:=bV.o.g.c1;have b1:(0:Int)<=i:=xaa;have cq:(i:Int)<us.length:=xaa;have HO:V _:=jr _ wr cK.1 cK.2;rw[F2 cK.1 cK.2]at HO;clear be ck;by_cases cD:q<cnt v.op
     ·obtain⟨aN,aO⟩:=ca.o q cD;obtain⟨a,c7⟩:=Int.eq_ofNat_of_zero_le aN;have da:V _:=nz wr v q xaa;rw[c7]at da;have eB:a<k:=xaa
      have cr:V (sK v au (q+1)=(sK v au q||decide (0<=au.getD a 0))):=by
       have:=DY v au q;rw[c7,Int.toNat_natCast]at this;exact this
      have d3:V (([ovs v au q 0,ovs v au q 1,ovs v au q 2]:List _).set q (au.getD a 0)=[ovs v au (q+1) 0,ovs v au (q+1) 1,ovs v au (q+1) 2]):=by
       have:=GM v au q xaa;rw[c7,Int.toNat_natCast]at this;exact this
      have tq:q<(cnt v.op:Int):=xaa;clear aN aO c7;go_wp2_with fail;refine yaj HO.o ?_;rintro e B ⟨rfl,rfl⟩;clear HO;go_wp2_with fail;refine yaj da.o ?_;rintro e bA ⟨rfl,bW⟩;have bM:=bV.o.keep bW;have cW:=IR.keep aL.o bW yaa;have cm:=bM.m.cell a (ix cI.o);have co:=cW.cell q yag;have d4:=cW.free q
      have R1:V (IR (bA.setCell ⟨br,q,none⟩ (h1 (au.getD a 0))) br [ovs v au (q+1) 0,ovs v au (q+1) 1,ovs v au (q+1) 2]):=by
       have:=cW.set q (au.getD a 0);rw[d3.o]at this;exact this
      have R2:V _:=bM.other dg.o q (h1 (au.getD a 0));clear bM cW bV aL da bW bh aJ y2 y3 y4 b5 ar d3;generalize au.getD _ 0=y at cm R1 R2 cr;generalize ([ovs v _ q 0,ovs v _ q 1,ovs v _ q 2]:List _).getD q 0=z at co;have bN:(0:Int)<=a:=xaa;have f1:a<(k:Int):=xaa;have aP:(0:Int)<=q:=xaa;have bz:(q:Int)<3:=xaa;cases cS:sK v au q
      ·exact xgk
      exact xgk
     obtain rfl:q=cnt v.op:=xaa;have tq:¬((cnt v.op:Int)<(cnt v.op:Int)):=xaa;cases cS:sK v au (cnt v.op)
     ·have R1:V (∃R J cap,LJ w _ _ _ _ _ _ _ _ _ _ (jst _ x t _).1 (jst _ x t _).2 _ R J cap):=⟨_,_,_,by
       rw[cT.o cS,dd.o.1,dd.o.2]
       exact bV.o⟩
      go_wp2_with fail;refine yaj HO.o ?_;rintro e B ⟨rfl,rfl⟩;clear HO;exact xhe
     have aY:=bV.o.g.c0;have aW:=bV.o.g.c2;have c0:=aL.o.cell 0 xac;have c1:=aL.o.cell 1 xac;have c2:=aL.o.cell 2 xac;rw[show([ovs v _ _ 0,ovs v _ _ 1,ovs v _ _ 2]:List _).getD 0 0=ovs v _ _ 0 from rfl]at c0;rw[show([ovs v _ _ 0,ovs v _ _ 1,ovs v _ _ 2]:List _).getD 1 0=ovs v _ _ 1 from rfl]at c1;rw[show([ovs v _ _ 0,ovs v _ _ 1,ovs v _ _ 2]:List _).getD 2 0=ovs v _ _ 2 from rfl]at c2;have ec:=DZ cS;have az:∀n,-1<=ovs v _ (cnt v.op) n:=λn=>GJ d2.o;have bw:At _ _ _ v:=⟨bh,aJ,y2,y3,y4,b5⟩
     have c8:V (∀ax,Kept 0 0 wr ax->Calls prog 140 #[eX U Z aM (some ⟨b0,0,none⟩) us.length cap aa ab aI,h1 i,h1 (ovs v au (cnt v.op) 0),h1 (ovs v au (cnt v.op) 1),h1 (ovs v au (cnt v.op) 2)] ax λe bD=>∃(G:List Vl) (r:Int) (bp:Option Addr) (af:Nat) (ah:Option Nat),e=.returned (.tuple #[eX U Z aM bp G.length af aa ab aI,h1 r])/\(∀I o,I<ax.heap.size->I≠b0->bD.cell? ⟨I,o,none⟩=ax.cell? ⟨I,o,none⟩)/\(∀I o,I<ax.heap.size->I≠b0->bD.frozen? ⟨I,o,none⟩=ax.frozen? ⟨I,o,none⟩)/\ax.heap.size<=bD.heap.size/\V (G=us++(jmv vs i (jst vs x t j)).1/\r=(jmv vs i (jst vs x t j)).2)/\
       V (∀(l h':Nat) (cn:World),Kept l h' bD cn->wr.heap.size<=l->(h'<=ax.heap.size\/bD.heap.size<=l)->(b0<l\/h'<=b0)->LJ w (fg cn w.heap.size (.slice U Z aM) (.slice bp G.length af) (.slice aa ab aI)) aD U Z aM aa ab aI ins outs G au base ah bp af)):=λax aj=>by
      refine(OB ax U aa Z aM cap ab aI base b0 i us v _ _ _ (bV.o.keep aj).g.own (bV.o.keep aj).g.sz cI.o.1 dc (bw.keep (eG bV.o.g.own (k:=b0) rfl).2 aj yaa) (az 0) (az 1) (az 2) ec (λal=>by unfold ovs;rw[h6 xaa]) (λal=>by unfold ovs;rw[h6 xaa])).mono ?_
      rintro e bD ⟨bp,af,ah,rfl,ew,ex,dv⟩
      rw[<-bv.o]at ew ex⊢
      have ag:∀I,I≠b0->¬((λ_=>False) I\/some b0=some I):=λI a7=>by rintro (c|c);exact c;cases c;exact a7 rfl
      refine⟨_,_,_,_,ah,rfl,λI o a7 aK=>dv.chg.cell a7 (ag I aK),λI o a7 aK=>dv.chg.frozen a7 (ag I aK),dv.chg.size,⟨rfl,rfl⟩,λl h' cn bY ai bx ck=>?_⟩
      refine bV.o.step aj ew ex dv bY ai (λg aK=>?_)
      rcases dv.row with c|⟨r,c,aF⟩
      ·rw[c]at aK;cases aK;exact ck
      ·rw[c]at aK;cases aK
       have:=(eG ew (ex.trans c)).2
       omega
     have H:V (w.heap.size<wr.heap.size/\br<wr.heap.size/\w.heap.size≠b0/\br≠b0/\b0<wr.heap.size):=⟨bV.o.g.lt,aL.o.lt,λc=>bV.o.g.ne (by rw[c]),λc=>dg.o.r (by rw[c]),(eG bV.o.g.own rfl).2⟩
     have ek:=bV.o.g.free;clear ec az bw aJ y2 y3 y4 b5 bv;generalize ovs v _ _ 0=aQ at c0 c8 aL;generalize ovs v _ _ 1=C at c1 c8 aL;generalize ovs v _ _ 2=S at c2 c8 aL;generalize ev:jmv _ i _=M at c8 d;clear ev;obtain⟨el,ej⟩:=M;go_wp2_with fail;refine yaj HO.o ?_;rintro e B ⟨rfl,rfl⟩;clear HO bh;go_upto_region 20 with fail;go_cut [17,18] (λer cX bb=>∃(X:Nat) (G:List Vl) (r:Int) (bp:Option Addr) (af:Nat) (ah:Option Nat),er=hZ X/\cX=h1 r/\V (G=us++el/\r=ej)/\V (RB bb X (.slice U Z aM) (.slice bp G.length af) (.slice aa ab aI)/\((∃u,bb.cell? ⟨w.heap.size,0,none⟩=some u)/\(∃u,bb.cell? ⟨w.heap.size,1,none⟩=some u)/\(∃u,bb.cell? ⟨w.heap.size,2,none⟩=some u))/\(∀o,bb.frozen? ⟨w.heap.size,o,none⟩=false))/\V (LJ w (fg bb w.heap.size (.slice U Z aM) (.slice bp G.length af) (.slice aa ab aI)) aD U Z aM aa ab aI ins outs G au base ah bp af))
     case first=>
      have d7:w.heap.size≠B.heap.size:=ix H.o
      have ga:br≠B.heap.size:=ix H.o
      have bL:V (∀I o,I<B.heap.size->(B.alloc _).drew.cell? ⟨I,o,none⟩=B.cell? _):=λI o a7=>(eA 0 0 _ fH).cell a7 xaa
      go_region_held3 (λW:World=>W.cell? ⟨w.heap.size,0,none⟩=some (.slice U Z aM)/\W.cell? ⟨w.heap.size,1,none⟩=some (h0 b0 us.length cap)/\W.cell? ⟨w.heap.size,2,none⟩=some (.slice aa ab aI)/\W.cell? ⟨br,0,none⟩=some (h1 aQ)/\W.cell? ⟨br,1,none⟩=some (h1 C)/\W.cell? ⟨br,2,none⟩=some (h1 S)) (first|go_keep|(simp only[jK _ _ _ _ _ _ _ d7,jK _ _ _ _ _ _ _ ga];exact⟨cg,a1,J,a3,a4,cu⟩)) (first
       |(go_at_call 140;refine yaj (c8.o _ ((eA 0 0 _ _).trans (eF _))) ?_;rintro e bD ⟨G,r,bp,af,ah,rfl,ce,b3,cC,cx,Y⟩;have cg:=(ce _ 0 (by have:=H.o;simp;omega) H.o.2.2.1).trans ((bL.o _ 0 H.o.1).trans aY);have a1:=(ce _ 1 (by have:=H.o;simp;omega) H.o.2.2.1).trans ((bL.o _ 1 H.o.1).trans ar);have J:=(ce _ 2 (by have:=H.o;simp;omega) H.o.2.2.1).trans ((bL.o _ 2 H.o.1).trans aW);have a3:=(ce br 0 (by have:=H.o;simp;omega) H.o.2.2.2.1).trans ((bL.o br 0 H.o.2.1).trans c0);have a4:=(ce br 1 (by have:=H.o;simp;omega) H.o.2.2.2.1).trans ((bL.o br 1 H.o.2.1).trans c1);have cu:=(ce br 2 (by have:=H.o;simp;omega) H.o.2.2.2.1).trans ((bL.o br 2 H.o.2.1).trans c2);have cz:V _:=b3;have bP:=ce B.heap.size 0 xac (ix H.o);have aR:=ce B.heap.size 1 xac (ix H.o);have bd:=ce B.heap.size 2 xac (ix H.o);have ee:=b3 B.heap.size 0 xac (ix H.o);have ef:=b3 B.heap.size 1 xac (ix H.o);have eg:=b3 B.heap.size 2 xac (ix H.o);have d6:V _:=cC;clear ce b3 cC)
       |(go_at_call 140;refine yaj (c8.o _ (eF _)) ?_;rintro e bD ⟨G,r,bp,af,ah,rfl,ce,b3,cC,cx,Y⟩;have cg:=(ce _ 0 H.o.1 H.o.2.2.1).trans aY;have a1:=(ce _ 1 H.o.1 H.o.2.2.1).trans ar;have J:=(ce _ 2 H.o.1 H.o.2.2.1).trans aW;have a3:=(ce br 0 H.o.2.1 H.o.2.2.2.1).trans c0;have a4:=(ce br 1 H.o.2.1 H.o.2.2.2.1).trans c1;have cu:=(ce br 2 H.o.2.1 H.o.2.2.2.1).trans c2;have cz:V _:=b3;have b5:w.heap.size≠bD.heap.size:=(by have:=H.o;have:B.heap.size<=bD.heap.size:=cC;omega);have cA:br≠bD.heap.size:=(by have:=H.o;have:B.heap.size<=bD.heap.size:=cC;omega);have d6:V _:=cC;clear ce b3 cC))
      ·have di:B.heap.size<=bD.heap.size:=d6.o;have bj:=eA 0 0 bD (.cells #[.slice U Z aM,.slice bp G.length af,.slice aa ab aI] 108);have cF:w.heap.size<bD.heap.size:=by have:=H.o;omega
       have R2:V (RB (bD.alloc (.cells #[.slice U Z aM,.slice bp G.length af,.slice aa ab aI] 108)) bD.heap.size (.slice U Z aM) (.slice bp G.length af) (.slice aa ab aI)/\((∃u,(bD.alloc _).cell? _=some u)/\(∃u,(bD.alloc _).cell? _=some u)/\(∃u,(bD.alloc _).cell? _=some u))/\(∀o,(bD.alloc _).frozen? _=false)):=
        ⟨⟨by simp,by simp,by simp,by simp,by simp,by simp,by simp⟩,⟨⟨_,(bj.cell cF xaa).trans cg⟩,⟨_,(bj.cell cF xaa).trans a1⟩,⟨_,(bj.cell cF xaa).trans J⟩⟩,λo=>(bj.frozen cF xaa).trans ((cz.o _ o H.o.1 H.o.2.2.1).trans (ek o))⟩
       have R3:V _:=Y.o _ bD.heap.size _ (eA _ _ _ (.cells #[.slice U Z aM,.slice bp G.length af,.slice aa ab aI] 108)) di yab (.inl (ix H.o));exact xjd
      have di:=yao (eA 0 0 _ _).size d6.o;have aX:=fk bD B.heap.size (.slice U Z aM) (.slice bp G.length af) (.slice aa ab aI);have cF:w.heap.size<bD.heap.size:=ix H.o
      have fq:B.heap.size<bD.heap.size:=yak xac d6.o;have e7:bD.cell? _=some (.slice none 0 0):=bP.trans xac;have e9:bD.cell? _=some (.slice none 0 0):=aR.trans xac;have fa:bD.cell? _=some (.slice none 0 0):=bd.trans xac;obtain⟨bh,aJ,y2⟩:=fd _ _ _ _ _ e7 e9 fa (.slice U Z aM) (.slice bp G.length af) (.slice aa ab aI);have d9:∀o,bD.frozen? _=false:=λo=>(cz.o B.heap.size o xac (ix H.o)).trans xac;have ba:∀o,_:=λo=>(cz.o _ o (by have:=H.o;simp;omega) H.o.2.2.1).trans (((eA 0 0 _ _).frozen H.o.1 xaa).trans (ek o))
      have R2:V (RB _ _ _ _ _/\((∃u,(((bD.setCell _ (.slice U Z aM)).setCell _ (.slice bp G.length af)).setCell _ (.slice aa ab aI)).cell? _=some u)/\(∃u,(((bD.setCell _ (.slice U Z aM)).setCell _ (.slice bp G.length af)).setCell _ (.slice aa ab aI)).cell? _=some u)/\(∃u,(((bD.setCell _ (.slice U Z aM)).setCell _ (.slice bp G.length af)).setCell _ (.slice aa ab aI)).cell? _=some u))/\(∀o,(((bD.setCell ⟨B.heap.size,0,none⟩ (.slice U Z aM)).setCell ⟨B.heap.size,1,none⟩ (.slice bp G.length af)).setCell ⟨B.heap.size,2,none⟩ (.slice aa ab aI)).frozen? ⟨w.heap.size,o,none⟩=false)):=
       ⟨⟨yak fq aX.size,bh,aJ,y2,by simp[d9 0],by simp[d9 1],by simp[d9 2]⟩,⟨⟨_,(jK _ _ _ _ _ _ _ d7).trans cg⟩,⟨_,(jK _ _ _ _ _ _ _ d7).trans a1⟩,⟨_,(jK _ _ _ _ _ _ _ d7).trans J⟩⟩,λo=>by simp[ba o]⟩
      have R3:V _:=Y.o _ _ _ aX yad (.inl xac) (.inl H.o.2.2.2.2);clear aX e7 e9 fa d9 ba bh aJ y2 bP aR bd ee ef eg;exact xjd
     case rest=>
      clear aY ar aW c0 c1 c2 c8 bV aL ek;obtain⟨X,G,r,bp,af,ah,rfl,rfl,cx,bK,Y⟩:=hcut;obtain⟨⟨_,bl,aS,a9,bF,bB,bG⟩,⟨⟨_,bH⟩,⟨_,bk⟩,⟨_,p2⟩⟩,ba⟩:=bK.o;have gs:=ba 0;have gu:=ba 1;have gv:=ba 2;clear ba bK;go_upto_region 22 with fail;clear bl aS a9 bF bB bG bH bk p2 gs gu gv;unfold fg at Y;generalize ((wc.setCell _ _).setCell ⟨_,1,_⟩ _).setCell _ _=cR at Y⊢;have cm:=Y.o.m.cell i (ix cI.o);have ez:=Y.o.m.free i
      have R1:V (∃R J cap,LJ w (cR.setCell _ (.int _ r)) _ _ _ _ _ _ _ _ _ (jst _ x t _).1 (jst _ x t _).2 _ R J cap):=⟨_,_,_,by
       have:=Y.o.set i r
       rw[d.o]
       rw[cx.o.2]at this⊢
       rw[cx.o.1]at this
       exact this⟩
      clear Y cx;generalize au.getD i 0=z at cm;exact xhe
   obtain rfl:j=s-x:=xaa;have bc:¬((x+1+(s-x):Nat)<=(s:Int)):=xaa;have cM:s<(jst vs x t (s-x)).2.length:=by rw[xM,N.o];exact aw
   have cs:=m.m.cell s cM;have ds:=xX vs x t (s-x) s;have aV:V (jR _ s x t=if (jst _ x t _).2.getD s 0=-1 then ((jst _ x t _).1++[eJ 1 _ 0 0 0],(((jst _ x t _).1.length:Nat):Int))else ((jst _ x t _).1,(jst vs x t _).2.getD s 0)):=rfl;rw[bu.o]at aV
   have cV:s<x->(jst _ x t (s-x)).2.getD s 0=-1:=λal=>by
    rw[show s-x=0 by omega]
    exact GN _ x t s xaa (i1 N.o aw)
   have ai:∀q,q<vs.length->_:=λq aA=>gi (List.all_eq_true.1 cB.o q (List.mem_range.2 (ix N.o)));obtain⟨aR,_,_⟩:=ut _ x t ai (mP _ (λq aA=>ix (ai q aA))) cd.o (s-x) (ix N.o);have b2:(jst vs x t (s-x)).1.length<=800000:=ix N.o
   have HL:V _:=m;clear be m e6 ai aR cM hlt ck;generalize (jst _ x t _).1=us at HL aV b2;generalize (jst _ x t _).2=au at HL aV cs ds cV;generalize au.getD s 0=mm at cs ds aV cV;have aY:=HL.o.g.c0;have ar:=HL.o.g.c1;have aW:=HL.o.g.c2;obtain⟨_,bl,aS,a9,bF,bB,bG⟩:=HL.o.b;have eL:(0:Int)<=s:=xaa;have eP:(s:Int)<k:=xaa;by_cases be:x<=s/\0<=mm
   ·have bJ:V (jR vs s x t=(us,mm)):=by
     show _=_;rw[aV.o,h6 xaa]
    have aQ:((x:Int)<=s):=xaa;have C:=be.2;obtain⟨bh,aJ,y2⟩:=fd _ _ _ _ _ bl aS a9 (.slice U Z aM) (h0 b0 us.length cap) (.slice aa ab aI);have gb:w.heap.size≠w.heap.size+1:=xaa;have e1:aD≠w.heap.size+1:=i0 HL.o.hb HL.o.dM
    have hd:=Ne.symm e1;have cp:V (∀X bo cl:Value,(((wr.setCell _ X).setCell _ bo).setCell _ cl).drew.cell? _=some _):=λX bo cl=>(jK _ _ _ _ X bo cl e1).trans cs;exact qgd
   have bJ:V (jR vs s x t=(us++[eJ 1 a5 0 0 0],(us.length:Int))):=by
    show _=_
    rw[aV.o,h7 (by
     by_cases al:s<x
     ·exact cV al
     ·omega)]
   have ey:(¬(x<=(s:Int)))\/((x:Int)<=s/\¬(0<=mm)):=xaa;clear aV cV bl aS a9 bF bB bG be ds;rcases ey with a8|⟨a8,bQ⟩
   all_goals
    go_upto_region 25 with fail
    clear cs
    go_cut [] (λbb=>∃aC cap',V (LJ w bb aD U Z aM aa ab aI ins outs (us++[eJ 1 a5 0 0 0]) au base (some aC) (some ⟨aC,0,none⟩) cap'))
    case first=>
     go_region_with (first
      |(go_at_call 78;refine yaj (LJ.call HL.o ((eF _).trans an) _ xaa) ?_;rintro e am ⟨aC,cap',rfl,⟨_,bq⟩,⟨_,aq⟩,⟨_,aT⟩,ak,bU⟩;have bR:=ak 0;have bS:=ak 1;have bT:=ak 2;clear ak)
      |(go_at_call 94;refine yaj (pt _ _) ?_;rintro e aH ⟨rfl,an⟩;have bH:=(LJ.keep HL.o ((eF _).trans an)).g.c0;have bk:=(LJ.keep HL.o ((eF _).trans an)).g.c1;have p2:=(LJ.keep HL.o ((eF _).trans an)).g.c2))
     all_goals (go_wp2_with fail;go_meet;exact⟨_,_,bU⟩)
    case rest=>
     obtain⟨aC,cap',bU⟩:=hcut
     have ci:(us++[eJ 1 a5 0 0 0]).length=us.length+1:=by simp
     generalize a6:us++[eJ 1 _ 0 0 0]=G at bU bJ ci
     clear aY ar aW a6 HL
     have aY:=bU.o.g.c0
     have ar:=bU.o.g.c1
     have aW:=bU.o.g.c2
     obtain⟨_,bl,aS,a9,bF,bB,bG⟩:=bU.o.b
     have b:V _:=λW=>iY W U (some ⟨aC,0,none⟩) aa Z aM G.length cap' ab aI xaa
     rw[show(G.length:Int)-1=(us.length:Nat) by omega]at b
     clear ci
     go_wp2_with fail
     go_region_with (first
      |(go_at_call 85;refine yaj (b.o _) ?_;rintro e aU ⟨rfl,aZ⟩;clear bl aS a9 bF bB bG;have aP:=(bU.o.keep ((eF _).trans aZ)).g.c0;have ay:=(bU.o.keep ((eF _).trans aZ)).g.c1;have aB:=(bU.o.keep ((eF _).trans aZ)).g.c2;obtain⟨_,bl,aS,a9,bF,bB,bG⟩:=(bU.o.keep ((eF _).trans aZ)).b))
     all_goals
      have d5:V _:=bU.o.a4
      have R1:V _:=bU.o.fin ((eF _).trans aZ)
      obtain⟨bh,aJ,y2⟩:=fd _ _ _ _ _ bl aS a9 (.slice U Z aM) (h0 aC G.length cap') (.slice aa ab aI)
      go_wp2_with fail
      refine yaz (v:=.tuple #[eX U Z aM (some ⟨aC,0,none⟩) G.length cap' aa ab aI,h1 us.length]) (by simp[results,results136,go_sem,bh,aJ,y2]) rfl ⟨?_,R1.o.2⟩
      rw[bJ.o]
      exact⟨_,_,_,_,_,_,rfl,R1.o.1.1,R1.o.1.2.1,R1.o.1.2.2,d5.o⟩
