import Derived.Test.YtiacbhjphaldlaaGreatDoorP26
import Derived.Test.YtiacbhjphaldlaaGreatDoorP34
import Derived.Test.YtiacbhjphaldlaaGreatDoorP25
import Derived.Test.YtiacbhjphaldlaaGreatDoorP24
namespace Go.Proofs.Z
variable{Zp:Prop}
open Tryz Go.RowKit Flt
set_option maxRecDepth 1000000
set_option maxHeartbeats 0
section
variable{p vs2 q j vs:List Vl}{m1 K m3 ag base cap:Nat}{T aB ad C bv:Int}{L U:Option Addr}
theorem rj{w A aJ}(h:w.ownsRow base 74 6 (hZ aJ vs.length cap) vs.length (f9 vs))(k:Kept 0 0 w A){r}:
  MvP w L m1 K U m3 ag vs base (some aJ) ([],r) (.returned (.tuple #[fj L m1 K (some ⟨aJ,0,none⟩) vs.length cap U m3 ag,h0 r])) A:=by
 unfold MvP;exact xgz
def orM(a n:Int)(N:Nat):List Vl×Int:=if a<0 then ([dL 1 n 0 0 0],(N:Int))else ([],a)
theorem MS.orAny{w W aq a2 v R R'}(h:MS w W L m1 K U m3 ag vs v base R R' a2 cap)(k:Kept 0 0 W aq)(a n)(V:vs.length<=900000):
  Calls prog 120 #[fj L m1 K a2 vs.length cap U m3 ag,h0 a,h0 n] aq λe Z=>∃(vs2:List Vl) (m:Int) (a2':Option Addr) (cap':Nat) (bP:Option Nat),M (vs2=vs++(orM a n vs.length).1/\m=(orM a n vs.length).2)/\vs2.length<=vs.length+1/\e=.returned (.tuple #[fj L m1 K a2' vs2.length cap' U m3 ag,h0 m])/\
   (∃u,Z.cell? ⟨w.heap.size,0,none⟩=some u)/\(∃u,Z.cell? ⟨w.heap.size,1,none⟩=some u)/\(∃u,Z.cell? ⟨w.heap.size,2,none⟩=some u)/\(∀o,Z.frozen? ⟨w.heap.size,o,none⟩=false)/\At Z (w.heap.size+1+1) 0 v/\
   M (MS w (eY Z w.heap.size (.slice L m1 K) (.slice a2' vs2.length cap') (.slice U m3 ag)) L m1 K U m3 ag vs2 v base R bP a2' cap'):=by
 by_cases F:a<0
 ·refine(h.orNone k a n F V).mono ?_;rintro e Z ⟨aY,cap',rfl,b2,r1,bp,au,aD,bH⟩;have ab:(vs++[dL 1 n 0 0 0]).length=vs.length+1:=by simp
  refine⟨vs++[dL 1 n 0 0 0],(vs.length:Nat),some ⟨aY,0,none⟩,cap',some aY,⟨by rw[orM,h3 F],by rw[orM,h3 F]⟩,by rw[ab];exact yac,by rw[ab],b2,r1,bp,au,aD,?_⟩;grind
 refine(h.orSome k a n xaa).mono ?_;rintro e Z ⟨rfl,b2,r1,bp,au,aD,bH⟩;exact⟨vs,a,a2,cap,R',⟨by rw[orM,h2 F,List.append_nil],by rw[orM,h2 F]⟩,by omega,rfl,b2,r1,bp,au,aD,bH⟩
theorem KV{d m3}(z:-1<=ad)(J:-1<=C)(a8:vs2=vs++(orM ad T vs.length).1/\bv=(orM ad T vs.length).2)(bE:q=vs2++(orM C T vs2.length).1/\m3=(orM C T vs2.length).2)(cx:j=q++[dL 8 T d bv m3]):
  j=vs++(chM T d ad C vs.length).1/\(j.length:Int)-1=(chM T d ad C vs.length).2:=by
 grind[chM,orM]
theorem Fb{al m1}(z:-1<=C)(J:-1<=al)(a8:p=vs++(orM C T vs.length).1/\m1=(orM C T vs.length).2)(bE:vs2=p++(orM al T p.length).1/\bv=(orM al T p.length).2)(cx:q=vs2++[dL 8 T aB m1 bv]):
  q=vs++(chM T aB C al vs.length).1/\(q.length:Int)-1=(chM T aB C al vs.length).2:=KV z J a8 bE cx
theorem Fc{aA m3}(z:-1<=ad)(J:-1<=C)(bg:p=vs++[dL 3 T aB aA 0])(a8:vs2=p++(orM ad T p.length).1/\bv=(orM ad T p.length).2)(bE:q=vs2++(orM C T vs2.length).1/\m3=(orM C T vs2.length).2)(cx:j=q++[dL 8 T ((vs.length:Nat):Int) bv m3]):
  j=vs++([dL 3 T aB aA 0]++(chM T ((vs.length:Nat):Int) ad C (vs.length+1)).1)/\(j.length:Int)-1=(chM T ((vs.length:Nat):Int) ad C (vs.length+1)).2:=by
 have ab:p.length=vs.length+1:=by grind
 grind[KV]
variable{w W A:World}{L U a2:Option Addr}{m1 K cap m3 ag base aJ i:Nat}{vs vs0:List Vl}{v:Vl}{ad C al:Int}{R R':Option Nat}{Maa:List Vl×Int}
def MvC(w:World)(b1 b3:Option Addr)(m1 e1 cap m3 e3 base g2 i:Nat)(vs:List Vl)(ta tb tc:Int)(Maa:List Vl×Int):Prop:=
 Calls prog 114 #[fj b1 m1 e1 (some ⟨g2,0,none⟩) vs.length cap b3 m3 e3,.int .i64 (i:Int),.int .i64 ta,.int .i64 tb,.int .i64 tc] w λe w'=>MvP w b1 m1 e1 b3 m3 e3 vs base (some g2) Maa e w'
theorem MS.orX(h:MS w W L m1 K U m3 ag vs v base R R' a2 cap)(a n)(V:vs.length<=900000):
  Calls prog 120 #[fj L m1 K a2 vs.length cap U m3 ag,h0 a,h0 n] W λe Z=>∃(us:List Vl) (m:Int) (a2':Option Addr) (cap':Nat) (bP:Option Nat) (bz:World),M (us=vs++(orM a n vs.length).1/\m=(orM a n vs.length).2)/\us.length<=vs.length+1/\e=.returned (.tuple #[fj L m1 K a2' us.length cap' U m3 ag,h0 m])/\
   (∃u,Z.cell? ⟨w.heap.size,0,none⟩=some u)/\(∃u,Z.cell? ⟨w.heap.size,1,none⟩=some u)/\(∃u,Z.cell? ⟨w.heap.size,2,none⟩=some u)/\Z.frozen? ⟨w.heap.size,0,none⟩=false/\Z.frozen? ⟨w.heap.size,1,none⟩=false/\Z.frozen? ⟨w.heap.size,2,none⟩=false/\
   M (((Z.setCell ⟨w.heap.size,0,none⟩ (.slice L m1 K)).setCell ⟨w.heap.size,1,none⟩ (.slice a2' us.length cap')).setCell ⟨w.heap.size,2,none⟩ (.slice U m3 ag)=bz)/\M (MS w bz L m1 K U m3 ag us v base R bP a2' cap'):=by
 refine(MS.orAny h ib a n V).mono ?_;rintro e Z ⟨us,m,ao,cv,b,cd,I,rfl,bG,bB,bQ,au,_,bH⟩;exact⟨_,m,_,_,_,_,cd,I,rfl,bG,bB,bQ,au 0,au 1,au 2,rfl,bH⟩
theorem MS.finR(h:MS w W L m1 K U m3 ag vs v base R R' a2 cap)(au:∃ao,Kept 0 0 W ao/\A=eY ao (w.heap.size+1) (.slice L m1 K) (.slice a2 vs.length cap) (.slice U m3 ag))(aD:vs=vs0++Maa.1):
  MvP w L m1 K U m3 ag vs0 base R Maa (.returned (.tuple #[fj L m1 K a2 vs.length cap U m3 ag,h0 Maa.2])) A:=by
 grind[MS.fin]
end
section
attribute[local go_sem] dI dG dF
variable{w:World}{L U:Option Addr}{m1 K cap m3 ag base aJ i:Nat}{vs:List Vl}{o T aB aA aL:Int}{a7:Nat}{ad C al:Int}
theorem I9(Y:MvH w cap base aJ i vs ⟨2,T,aB,aA,aL,a7⟩)(F:0<=ad)(i1:0<=C):MvC w L U m1 K cap m3 ag base aJ i vs ad C al ([dL 2 T ad C 0],((vs.length:Nat):Int)):=by
 exact no_implicit_lambda% xbu
theorem Jb(Y:MvH w cap base aJ i vs ⟨2,T,aB,aA,aL,a7⟩)(F:0<=ad)(i1:C<0):MvC w L U m1 K cap m3 ag base aJ i vs ad C al ([],ad):=by
 exact xbg
theorem Jd(Y:MvH w cap base aJ i vs ⟨2,T,aB,aA,aL,a7⟩)(F:ad<0)(i1:0<=C):MvC w L U m1 K cap m3 ag base aJ i vs ad C al ([],C):=by
 exact xbg
theorem Je(Y:MvH w cap base aJ i vs ⟨5,T,aB,aA,aL,a7⟩)(F:0<=ad)(i1:C<0):MvC w L U m1 K cap m3 ag base aJ i vs ad C al ([dL 5 T ad aA 0],((vs.length:Nat):Int)):=by
 exact no_implicit_lambda% xbe
variable{w:World}{L U:Option Addr}{m1 K cap m3 ag base aJ i:Nat}{vs:List Vl}{o T aB aA aL:Int}{a7:Nat}{ad C al:Int}
theorem Jf(Y:MvH w cap base aJ i vs ⟨3,T,aB,aA,aL,a7⟩)(F:0<=ad)(i1:0<=C):MvC w L U m1 K cap m3 ag base aJ i vs ad C al ([dL 3 T ad C 0],((vs.length:Nat):Int)):=by
 exact no_implicit_lambda% xbu
theorem Jg(Y:MvH w cap base aJ i vs ⟨3,T,aB,aA,aL,a7⟩)(F:0<=ad)(i1:C<0):MvC w L U m1 K cap m3 ag base aJ i vs ad C al ([],ad):=by
 exact xbg
theorem I.qau(h:Zp:=by
 exact qep):Zp:=h
theorem I.qeq(h:Zp:=by
 refine eG (LR O xaa ?_);clear O;unfold MfK;intros;rename_i wc au;obtain⟨p,aY,cap',b,G,O⟩:=au;go_wp2_with fail;refine eG (MT O xaa (show(p.length:Int)-1=(vs.length:Nat) by have:=b.o.2;omega) ?_);exact no_implicit_lambda% xbh):Zp:=h
open I in
theorem Jh(Y:MvH w cap base aJ i vs ⟨3,T,aB,aA,aL,a7⟩)(F:ad<0)(i1:0<=C):MvC w L U m1 K cap m3 ag base aJ i vs ad C al ([dL 6 T C 0 0],((vs.length:Nat):Int)):=by
 exact qat
theorem J.qau(h:Zp:=by
 unfold MvC;have bu:=yam av.1;have co:=yam av.2.1;have bs:=yam av.2.2.1;have aZ:=yam av.2.2.2.1;have H:=yam av.2.2.2.2.1;have X:=yam av.2.2.2.2.2.1;have q:=yam av.2.2.2.2.2.2;clear av;go_enter func114,ntmps114;go_wp2_with fail;rw[ax.o];clear bh aH aN aM aS aC ax;refine eG (Mc O xaa ?_);exact no_implicit_lambda% xcr):Zp:=h
open J in
theorem MU(Y:MvH w cap base aJ i vs ⟨o,T,aB,aA,aL,a7⟩)(av:o≠2/\o≠3/\o≠4/\o≠5/\o≠7/\o≠8/\o≠13)(F:0<=ad):MvC w L U m1 K cap m3 ag base aJ i vs ad C al ([dL o T ad 0 aL],((vs.length:Nat):Int)):=by
 exact qat
theorem Jj(Y:MvH w cap base aJ i vs ⟨8,T,aB,aA,aL,a7⟩)(i1:C<0)(aj:al<0):MvC w L U m1 K cap m3 ag base aJ i vs ad C al ([],-1):=by
 exact xbg
variable{w:World}{L U:Option Addr}{m1 K cap m3 ag base aJ i:Nat}{vs:List Vl}{o T aB aA aL:Int}{a7:Nat}{ad C al:Int}
theorem y.qao(h:Zp:=by
 have bh:=O.o.v.c0;go_wp2_with fail;clear bh;refine eG (DQ O xaa ?_);clear O;unfold MfK;exact qdr):Zp:=h
theorem y.qds(h:Zp:=by
 have bh:=O.o.v.c0;have l:(0:Int)<=(vs.length:Nat):=xaa;have n:(0:Int)<=((vs.length:Nat)+1):=xaa;go_wp2_with fail;clear bh;refine eG (DP O xaa ?_);clear O;unfold MfK;intros;rename_i wc au;obtain⟨q,aY,cap',a,m,O⟩:=au;go_wp2_with fail;refine eG (DW O xaa (show(q.length:Int)-1=((vs.length:Nat)+2) by have:=b.o.2;have:=f.o.2;have:=a.o.2;omega) ?_);exact no_implicit_lambda% xed):Zp:=h
open y in
theorem Jk(Y:MvH w cap base aJ i vs ⟨4,T,aB,aA,aL,a7⟩)(F:0<=ad)(i1:0<=C):MvC w L U m1 K cap m3 ag base aJ i vs ad C al ([dL 4 T ad aA 0,dL 4 T aB C 0,dL 2 T ((vs.length:Nat):Int) (((vs.length:Nat):Int)+1) 0],(((vs.length:Nat):Int)+2)):=by
 exact no_implicit_lambda% qek
variable{w:World}{L U:Option Addr}{m1 K cap m3 ag base aJ i:Nat}{vs:List Vl}{o T aB aA aL:Int}{a7:Nat}{ad C al:Int}
theorem Jl(Y:MvH w cap base aJ i vs ⟨4,T,aB,aA,aL,a7⟩)(F:0<=ad)(i1:C<0):MvC w L U m1 K cap m3 ag base aJ i vs ad C al ([dL 4 T ad aA 0],((vs.length:Nat):Int)):=by
 exact no_implicit_lambda% xbe
theorem K.qau(h:Zp:=by
 exact qep):Zp:=h
theorem K.qeq(h:Zp:=by
 refine eG (DQ O xaa ?_);exact no_implicit_lambda% xaq):Zp:=h
open K in
theorem Jm(Y:MvH w cap base aJ i vs ⟨4,T,aB,aA,aL,a7⟩)(F:ad<0)(i1:0<=C):MvC w L U m1 K cap m3 ag base aJ i vs ad C al ([dL 4 T aB C 0],((vs.length:Nat):Int)):=by
 exact qat
theorem L.qau(h:Zp:=by
 exact qep):Zp:=h
theorem L.qeq(h:Zp:=by
 refine eG (Md O xaa ?_);exact no_implicit_lambda% xcr):Zp:=h
open L in
theorem MV(Y:MvH w cap base aJ i vs ⟨13,T,aB,aA,aL,a7⟩)(F:0<=ad):MvC w L U m1 K cap m3 ag base aJ i vs ad C al ([dL 4 T ad (i:Int) 0],((vs.length:Nat):Int)):=by
 exact qat
variable{w:World}{L U:Option Addr}{m1 K cap m3 ag base aJ i:Nat}{vs:List Vl}{o T aB aA aL:Int}{a7:Nat}{ad C al:Int}
theorem M.qau(h:Zp:=by
 unfold MvC;go_enter func114,ntmps114;go_wp2_with fail;rw[ax.o];clear bh aH aN aM aS aC ax;refine eG (E9 O xaa ?_);clear O;unfold MfK;intros;rename_i wc au;obtain⟨p,aY,cap',b,G,O⟩:=au;go_wp2_with fail;refine eG (DX O xaa (show(p.length:Int)-1=(vs.length:Nat) by have:=b.o.2;omega) ?_);clear O;unfold MfK;exact qdr):Zp:=h
theorem M.qds(h:Zp:=by
 have bh:=O.o.v.c0;have l:(0:Int)<=((vs.length:Nat)+1):=xaa;go_wp2_with fail;clear bh;refine eG (Me O xaa ?_);clear O;unfold MfK;intros;rename_i wc au;obtain⟨q,aY,cap',a,m,O⟩:=au;go_wp2_with fail;refine eG (Mf O xaa (show(q.length:Int)-1=((vs.length:Nat)+2) by have:=b.o.2;have:=f.o.2;have:=a.o.2;omega) ?_);exact no_implicit_lambda% xed):Zp:=h
open M in
theorem Jn(Y:MvH w cap base aJ i vs ⟨5,T,aB,aA,aL,a7⟩)(F:ad<0)(i1:0<=C):MvC w L U m1 K cap m3 ag base aJ i vs ad C al ([dL 4 T (i:Int) C 0,dL 5 T ((vs.length:Nat):Int) aA 0,dL 6 T (((vs.length:Nat):Int)+1) 0 0],(((vs.length:Nat):Int)+2)):=by
 exact qat
variable{w:World}{L U:Option Addr}{m1 K cap m3 ag base aJ i:Nat}{vs:List Vl}{o T aB aA aL:Int}{a7:Nat}{ad C al:Int}
theorem z.qao(h:Zp:=by
 have bh:=O.o.v.c0;go_wp2_with fail;clear bh;refine eG (E9 O xaa ?_);clear O;unfold MfK;intros;rename_i wc au;obtain⟨vs2,aY,cap',f,k,O⟩:=au;go_wp2_with fail;refine eG (DX O xaa (show(vs2.length:Int)-1=((vs.length:Nat)+1) by have:=b.o.2;have:=f.o.2;omega) ?_);clear O;unfold MfK;intros;rename_i wc au;obtain⟨q,aY,cap',a,m,O⟩:=au;obtain⟨_,_,bq,ak,az,_,_,_,_⟩:=O.o.g;go_wp2_with fail;refine(MS.lst O.o xaa (show(q.length:Int)-1=((vs.length:Nat)+2) by have:=b.o.2;have:=f.o.2;have:=a.o.2;omega)).mono ?_;clear O bq ak az;rintro e h ⟨rfl,O⟩;have bh:=O.o.v.c0;have l:(0:Int)<=(vs.length:Nat):=xaa;have n:(0:Int)<=((vs.length:Nat)+2):=xaa;go_wp2_with fail;clear bh;refine eG (DP O xaa ?_);clear O;unfold MfK;intros;rename_i wc au;obtain⟨j,aY,cap',c,d4,O⟩:=au;go_wp2_with fail;refine eG (DW O xaa (show(j.length:Int)-1=((vs.length:Nat)+3) by have:=b.o.2;have:=f.o.2;have:=a.o.2;have:=c.o.2;omega) ?_);unfold MfK;intros;rename_i y au;obtain⟨aP,aQ,aU,aF⟩:=au;go_wp2_with fail;exact yax (by simp[results,results114,go_sem,aP,aQ,aU]) rfl (MS.finR O.o aF.o (by rw[c.o.1,a.o.1,f.o.1,b.o.1]<;>simp))):Zp:=h
open z in
theorem Jp(Y:MvH w cap base aJ i vs ⟨5,T,aB,aA,aL,a7⟩)(F:0<=ad)(i1:0<=C):MvC w L U m1 K cap m3 ag base aJ i vs ad C al ([dL 5 T ad aA 0,dL 4 T (i:Int) C 0,dL 5 T (((vs.length:Nat):Int)+1) aA 0,dL 3 T ((vs.length:Nat):Int) (((vs.length:Nat):Int)+2) 0],(((vs.length:Nat):Int)+3)):=by
 exact no_implicit_lambda% qek
variable{w:World}{L U:Option Addr}{m1 K cap m3 ag base aJ i:Nat}{vs:List Vl}{o T aB aA aL:Int}{a7:Nat}{ad C al:Int}
theorem Jq(Y:MvH w cap base aJ i vs ⟨7,T,aB,aA,aL,a7⟩)(F:0<=ad)(i1:-1<=C):MvC w L U m1 K cap m3 ag base aJ i vs ad C al ([dL 3 T aB aA 0]++(chM T ((vs.length:Nat):Int) ad C (vs.length+1)).1,(chM T ((vs.length:Nat):Int) ad C (vs.length+1)).2):=by
 exact no_implicit_lambda% xan
theorem Jr(Y:MvH w cap base aJ i vs ⟨8,T,aB,aA,aL,a7⟩)(i1:0<=C)(aj:-1<=al):MvC w L U m1 K cap m3 ag base aJ i vs ad C al (chM T aB C al vs.length):=by
 exact no_implicit_lambda% xau
variable{w:World}{L U:Option Addr}{m1 K cap m3 ag base aJ i:Nat}{vs:List Vl}{o T aB aA aL:Int}{a7:Nat}{ad C al:Int}
theorem Js(Y:MvH w cap base aJ i vs ⟨7,T,aB,aA,aL,a7⟩)(F:ad<0)(A:-1<=ad)(i1:0<=C):MvC w L U m1 K cap m3 ag base aJ i vs ad C al ([dL 3 T aB aA 0]++(chM T ((vs.length:Nat):Int) ad C (vs.length+1)).1,(chM T ((vs.length:Nat):Int) ad C (vs.length+1)).2):=by
 exact no_implicit_lambda% xan
theorem Jt(Y:MvH w cap base aJ i vs ⟨8,T,aB,aA,aL,a7⟩)(i1:C<0)(ah:-1<=C)(aj:0<=al):MvC w L U m1 K cap m3 ag base aJ i vs ad C al (chM T aB C al vs.length):=by
 exact no_implicit_lambda% xau
end
section
theorem MW(w L U m1 K cap m3 ag base aJ i vs v){ad C al}(h:w.ownsRow base 74 6 (hZ aJ vs.length cap) vs.length (f9 vs))(I:base<=w.heap.size)(V:vs.length<=800000)(hi:i<vs.length)(aD:At w aJ (i*6) v)(g:-1<=ad)(ae:-1<=C)(bx:-1<=al)(ai:¬(ad=-1/\C=-1/\al=-1))(J:cnt v.op<=2->al=-1)(z:cnt v.op<=1->C=-1):
  Calls prog 114 #[fj L m1 K (some ⟨aJ,0,none⟩) vs.length cap U m3 ag,h0 i,h0 ad,h0 C,h0 al] w λe D=>MvP w L m1 K U m3 ag vs base (some aJ) (mvM (i:Int) v ad C al vs.length) e D:=by
 obtain⟨o,T,aB,aA,aL,a7⟩:=v;have Y:MvH w _ _ _ i _ _:=⟨h,I,V,hi,aD⟩
 have F:∀{v:Vl}{Maa:List _×Int},MvC w L U m1 K cap m3 ag base aJ i vs ad C al Maa->mvM i v ad C al vs.length=Maa->_:=λh e=>e ▸ h;clear h I V hi aD;simp only at z J;have f:∀{x:Int},0<=x->¬x=-1:=λh=>by omega
 have aq:∀{x:Int},-1<=x->¬0<=x->x=-1:=λh k=>by omega
 by_cases b6:o=2
 ·subst b6;have aj:=J xab;by_cases a:0<=ad
  ·by_cases b:0<=C
   ·exact F (I9 Y a b) (by simp[mvM,mK,f a,f b])
   exact F (Jb Y a xaa) (by simp[mvM,mK,f a,aq ae b])
  have b:0<=C:=xaa;exact F (Jd Y xaa b) (by simp[mvM,mK,aq g a,f b])
 by_cases aO:o=3
 ·subst aO;have aj:=J xab;by_cases a:0<=ad
  ·by_cases b:0<=C
   ·exact F (Jf Y a b) (by simp[mvM,mL,f a,f b])
   exact F (Jg Y a xaa) (by simp[mvM,mL,f a,aq ae b])
  have b:0<=C:=xaa;exact F (Jh Y xaa b) (by simp[mvM,mL,aq g a,f b])
 by_cases n:o=4
 ·subst n;have aj:=J xab;by_cases a:0<=ad
  ·by_cases b:0<=C
   ·exact F (Jk Y a b) (by simp[mvM,rQ,f a,f b])
   exact F (Jl Y a xaa) (by simp[mvM,rQ,f a,aq ae b])
  have b:0<=C:=xaa;exact F (Jm Y xaa b) (by simp[mvM,rQ,aq g a,f b])
 by_cases t:o=5
 ·subst t;have aj:=J xab;by_cases a:0<=ad
  ·by_cases b:0<=C
   ·exact F (Jp Y a b) (by simp[mvM,tK,f a,f b])
   exact F (Je Y a xaa) (by simp[mvM,tK,f a,aq ae b])
  have b:0<=C:=xaa;exact F (Jn Y xaa b) (by simp[mvM,tK,aq g a,f b])
 by_cases l:o=7
 ·subst l;have aj:=J xab;have e:mvM i ⟨7,T,aB,aA,aL,a7⟩ ad C al vs.length=([dL 3 T aB aA 0]++(chM T (vs.length:Nat) ad C (vs.length+1)).1,(chM T (vs.length:Nat) ad C (vs.length+1)).2):=by grind[mvM]
  rw[e];by_cases a:0<=ad
  ·exact Jq Y a ae
  exact Js Y xaa g xaa
 by_cases aP:o=8
 ·subst aP;by_cases b:0<=C
  ·have e:mvM i ⟨8,T,aB,aA,aL,a7⟩ ad C al vs.length=chM T aB C al vs.length:=by grind[mvM]
   rw[e];exact Jr Y b bx
  by_cases c:0<=al
  ·have e:mvM i ⟨8,T,aB,aA,aL,a7⟩ ad C al vs.length=chM T aB C al vs.length:=by grind[mvM]
   rw[e];exact Jt Y xaa ae c
  have e:mvM i ⟨8,T,aB,aA,aL,a7⟩ ad C al vs.length=([],-1):=by grind[mvM]
  rw[e];exact Jj Y xaa xaa
 have bG:cnt o<=1:=by grind[cnt]
 have b:=z bG;have c:=J xaa;have a:0<=ad:=xaa;by_cases j:o=13
 ·subst j;exact F (MV Y a) (by simp[mvM,f a])
 exact F (MU Y ⟨b6,aO,n,t,l,aP,j⟩ a) (by grind[mvM])
