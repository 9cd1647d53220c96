import Derived.Test.YtaheilbiakhlgaaGreatP16
import Derived.Test.YtaheilbiakhlgaaGreatP15
import Derived.Test.YtaheilbiakhlgaaGreatP14
import Derived.Test.YtaheilbiakhlgaaGreatP13
namespace Go.Proofs.Z
variable{Zp:Prop}
open Tryz Go.RowKit Flt
set_option maxRecDepth 1000000
set_option maxHeartbeats 0
section
attribute[local go_sem] eF eE eD
variable{N ad Z:Option Addr}{m1 af m3 aj base cap m:Nat}{vs:List Vl}{o G g f l:Int}{R R':Option Nat}{c0 c1 c2 c4 x y Y X h j I U O:Value}
theorem Fd{w W S s u v}(ae:V (MS w W N m1 af ad m3 aj vs ⟨o,G,g,f,l,m⟩ base R R' Z cap))(aH:vs.length<=900000):MfC 20 W (MpR w N m1 af ad m3 aj vs ⟨o,G,g,f,l,m⟩ base R (eK 4 G g S 0)) c0 c1 c2 (hF S) c4 (hD w.heap.size) x y Y X h j (hD (w.heap.size+1+1)) (hF G) I U O s u v j:=by
 unfold MfC;intros;rename_i HK;have bg:V (∀ay,Kept 0 0 W ay->_):=λay k=>MS.call ae.o k (eK 4 G g S 0) xaa;have aW:=ae.o.g.c0;have aq:=ae.o.g.c1;have aN:=ae.o.g.c2;have bc:=ae.o.v.c2;exact xad
theorem wJ{w W p q d c3}(ae:V (MS w W N m1 af ad m3 aj vs ⟨o,G,g,f,l,m⟩ base R R' Z cap))(aH:vs.length<=900000):MfC 52 W (MpR w N m1 af ad m3 aj vs ⟨o,G,g,f,l,m⟩ base R (eK 8 G d p q)) c0 c1 c2 c3 c4 (hD w.heap.size) x y Y X h j (hD (w.heap.size+1+1)) (hF G) I U O (hF p) (hF q) (hF d) j:=by
 unfold MfC;intros;rename_i HK;have bg:V (∀ay,Kept 0 0 W ay->_):=λay k=>MS.call ae.o k (eK 8 G d p q) xaa;exact xae
end
section
variable{p vs2 t j vs:List Vl}{m1 af m3 aj base cap:Nat}{G g an S s:Int}{N ad:Option Addr}
theorem sf{w W' aC}(h:w.ownsRow base 40 6 (hE aC vs.length cap) vs.length (fW vs))(k:Kept 0 0 w W')(r):
  MvP w N m1 af ad m3 aj vs base (some aC) ([],r) (.returned (.tuple #[eX N m1 af (some ⟨aC,0,none⟩) vs.length cap ad m3 aj,hF r])) W':=by
 unfold MvP;exact xjl
def orM(a n:Int)(N:Nat):List Vl×Int:=if a<0 then ([eK 1 n 0 0 0],(N:Int))else ([],a)
theorem MS.orAny{w W ay Z v R R'}(h:MS w W N m1 af ad m3 aj vs v base R R' Z cap)(k:Kept 0 0 W ay)(a n)(hn:vs.length<=900000):
  Calls prog 164 #[eX N m1 af Z vs.length cap ad m3 aj,hF a,hF n] ay λe ag=>∃(vs2:List Vl) (m:Int) (a2':Option Addr) (cap':Nat) (R2:Option Nat),V (vs2=vs++(orM a n vs.length).1/\m=(orM a n vs.length).2)/\vs2.length<=vs.length+1/\e=.returned (.tuple #[eX N m1 af a2' vs2.length cap' ad m3 aj,hF m])/\
   (∃u,ag.cell? ⟨w.heap.size,0,none⟩=some u)/\(∃u,ag.cell? ⟨w.heap.size,1,none⟩=some u)/\(∃u,ag.cell? ⟨w.heap.size,2,none⟩=some u)/\(∀o,ag.frozen? ⟨w.heap.size,o,none⟩=false)/\At ag (w.heap.size+1+1) 0 v/\
   V (MS w (fF ag w.heap.size (.slice N m1 af) (.slice a2' vs2.length cap') (.slice ad m3 aj)) N m1 af ad m3 aj vs2 v base R R2 a2' cap'):=by
 by_cases F:a<0
 ·refine(h.orNone k a n F hn).mono ?_;rintro e ag ⟨aA,cap',rfl,bo,az,aZ,ai,aM,C⟩;have ah:(vs++[eK 1 n 0 0 0]).length=vs.length+1:=by simp
  refine⟨vs++[eK 1 n 0 0 0],(vs.length:Nat),some ⟨aA,0,none⟩,cap',some aA,⟨by rw[orM,hI F],by rw[orM,hI F]⟩,by rw[ah];exact yad,by rw[ah],bo,az,aZ,ai,aM,?_⟩;grind
 refine(h.orSome k a n xaa).mono ?_;rintro e ag ⟨rfl,bo,az,aZ,ai,aM,C⟩;exact⟨vs,a,Z,cap,R',⟨by rw[orM,hG F,List.append_nil],by rw[orM,hG F]⟩,by omega,rfl,bo,az,aZ,ai,aM,C⟩
theorem Ls{d m3}(B:-1<=an)(U:-1<=S)(aP:vs2=vs++(orM an G vs.length).1/\s=(orM an G vs.length).2)(b3:t=vs2++(orM S G vs2.length).1/\m3=(orM S G vs2.length).2)(ap:j=t++[eK 8 G d s m3]):
  j=vs++(chM G d an S vs.length).1/\(j.length:Int)-1=(chM G d an S vs.length).2:=by
 grind[chM,orM]
theorem Fe{ar m1}(B:-1<=S)(U:-1<=ar)(aP:p=vs++(orM S G vs.length).1/\m1=(orM S G vs.length).2)(b3:vs2=p++(orM ar G p.length).1/\s=(orM ar G p.length).2)(ap:t=vs2++[eK 8 G g m1 s]):
  t=vs++(chM G g S ar vs.length).1/\(t.length:Int)-1=(chM G g S ar vs.length).2:=Ls B U aP b3 ap
theorem Ff{f m3}(B:-1<=an)(U:-1<=S)(aK:p=vs++[eK 3 G g f 0])(aP:vs2=p++(orM an G p.length).1/\s=(orM an G p.length).2)(b3:t=vs2++(orM S G vs2.length).1/\m3=(orM S G vs2.length).2)(ap:j=t++[eK 8 G ((vs.length:Nat):Int) s m3]):
  j=vs++([eK 3 G g f 0]++(chM G ((vs.length:Nat):Int) an S (vs.length+1)).1)/\(j.length:Int)-1=(chM G ((vs.length:Nat):Int) an S (vs.length+1)).2:=by
 have ah:p.length=vs.length+1:=by grind
 grind[Ls]
variable{w W W':World}{N ad Z:Option Addr}{m1 af cap m3 aj base aC i:Nat}{vs vs0:List Vl}{v:Vl}{an S ar:Int}{R R':Option Nat}{M:List Vl×Int}
def MvC(w:World)(b1 b3:Option Addr)(m1 e1 cap m3 e3 base g2 i:Nat)(vs:List Vl)(ta tb tc:Int)(M:List Vl×Int):Prop:=
 Calls prog 163 #[eX b1 m1 e1 (some ⟨g2,0,none⟩) vs.length cap b3 m3 e3,.int .i64 (i:Int),.int .i64 ta,.int .i64 tb,.int .i64 tc] w λe w'=>MvP w b1 m1 e1 b3 m3 e3 vs base (some g2) M e w'
theorem MS.orX(h:MS w W N m1 af ad m3 aj vs v base R R' Z cap)(a n)(hn:vs.length<=900000):
  Calls prog 164 #[eX N m1 af Z vs.length cap ad m3 aj,hF a,hF n] W λe ag=>∃(us:List Vl) (m:Int) (a2':Option Addr) (cap':Nat) (R2:Option Nat) (c8:World),V (us=vs++(orM a n vs.length).1/\m=(orM a n vs.length).2)/\us.length<=vs.length+1/\e=.returned (.tuple #[eX N m1 af a2' us.length cap' ad m3 aj,hF m])/\
   (∃u,ag.cell? ⟨w.heap.size,0,none⟩=some u)/\(∃u,ag.cell? ⟨w.heap.size,1,none⟩=some u)/\(∃u,ag.cell? ⟨w.heap.size,2,none⟩=some u)/\ag.frozen? ⟨w.heap.size,0,none⟩=false/\ag.frozen? ⟨w.heap.size,1,none⟩=false/\ag.frozen? ⟨w.heap.size,2,none⟩=false/\
   V (((ag.setCell ⟨w.heap.size,0,none⟩ (.slice N m1 af)).setCell ⟨w.heap.size,1,none⟩ (.slice a2' us.length cap')).setCell ⟨w.heap.size,2,none⟩ (.slice ad m3 aj)=c8)/\V (MS w c8 N m1 af ad m3 aj us v base R R2 a2' cap'):=by
 refine(MS.orAny h hN a n hn).mono ?_;rintro e ag ⟨us,m,aT,bT,f,b1,bQ,rfl,bI,bL,bM,ai,_,C⟩;exact⟨_,m,_,_,_,_,b1,bQ,rfl,bI,bL,bM,ai 0,ai 1,ai 2,rfl,C⟩
theorem MS.finR(h:MS w W N m1 af ad m3 aj vs v base R R' Z cap)(C:∃a8,Kept 0 0 W a8/\W'=fF a8 (w.heap.size+1) (.slice N m1 af) (.slice Z vs.length cap) (.slice ad m3 aj))(aM:vs=vs0++M.1):
  MvP w N m1 af ad m3 aj vs0 base R M (.returned (.tuple #[eX N m1 af Z vs.length cap ad m3 aj,hF M.2])) W':=by
 grind[MS.fin]
end
section
attribute[local go_sem] eF eE eD
variable{w:World}{N ad:Option Addr}{m1 af cap m3 aj base aC i:Nat}{vs:List Vl}{o G g f l:Int}{m:Nat}{an S ar:Int}
theorem I0(H:MvH w cap base aC i vs ⟨2,G,g,f,l,m⟩)(F:0<=an)(y:0<=S):MvC w N ad m1 af cap m3 aj base aC i vs an S ar ([eK 2 G an S 0],((vs.length:Nat):Int)):=by
 exact no_implicit_lambda% xct
theorem I1(H:MvH w cap base aC i vs ⟨2,G,g,f,l,m⟩)(F:0<=an)(y:S<0):MvC w N ad m1 af cap m3 aj base aC i vs an S ar ([],an):=by
 exact xbv
theorem I2(H:MvH w cap base aC i vs ⟨2,G,g,f,l,m⟩)(F:an<0)(y:0<=S):MvC w N ad m1 af cap m3 aj base aC i vs an S ar ([],S):=by
 exact xbv
theorem I3(H:MvH w cap base aC i vs ⟨5,G,g,f,l,m⟩)(F:0<=an)(y:S<0):MvC w N ad m1 af cap m3 aj base aC i vs an S ar ([eK 5 G an f 0],((vs.length:Nat):Int)):=by
 exact no_implicit_lambda% xbq
variable{w:World}{N ad:Option Addr}{m1 af cap m3 aj base aC i:Nat}{vs:List Vl}{o G g f l:Int}{m:Nat}{an S ar:Int}
theorem I4(H:MvH w cap base aC i vs ⟨3,G,g,f,l,m⟩)(F:0<=an)(y:0<=S):MvC w N ad m1 af cap m3 aj base aC i vs an S ar ([eK 3 G an S 0],((vs.length:Nat):Int)):=by
 exact no_implicit_lambda% xct
theorem I5(H:MvH w cap base aC i vs ⟨3,G,g,f,l,m⟩)(F:0<=an)(y:S<0):MvC w N ad m1 af cap m3 aj base aC i vs an S ar ([],an):=by
 exact xbv
theorem aC.qay(h:Zp:=by
 unfold MvC;exact qfd):Zp:=h
theorem aC.qfe(h:Zp:=by
 refine fH (Ms ae xaa ?_);clear ae;unfold MfK;intros;rename_i wc C;obtain⟨p,aA,cap',n,J,ae⟩:=C;go_wp2_with fail;refine fH (My ae xaa (show(p.length:Int)-1=(vs.length:Nat) by have:=n.o.2;omega) ?_);exact no_implicit_lambda% xbx):Zp:=h
open aC in
theorem I6(H:MvH w cap base aC i vs ⟨3,G,g,f,l,m⟩)(F:an<0)(y:0<=S):MvC w N ad m1 af cap m3 aj base aC i vs an S ar ([eK 6 G S 0 0],((vs.length:Nat):Int)):=by
 exact qax
theorem aD.qay(h:Zp:=by
 unfold MvC;have aX:=yam ax.1;have ah:=yam ax.2.1;have bg:=yam ax.2.2.1;have a2:=yam ax.2.2.2.1;have ak:=yam ax.2.2.2.2.1;have ao:=yam ax.2.2.2.2.2.1;have aN:=yam ax.2.2.2.2.2.2;clear ax;exact qfd):Zp:=h
theorem aD.qfe(h:Zp:=by
 refine fH (Mt ae xaa ?_);exact no_implicit_lambda% xdq):Zp:=h
open aD in
theorem Mz(H:MvH w cap base aC i vs ⟨o,G,g,f,l,m⟩)(ax:o≠2/\o≠3/\o≠4/\o≠5/\o≠7/\o≠8/\o≠13)(F:0<=an):MvC w N ad m1 af cap m3 aj base aC i vs an S ar ([eK o G an 0 l],((vs.length:Nat):Int)):=by
 exact qax
theorem I7(H:MvH w cap base aC i vs ⟨8,G,g,f,l,m⟩)(y:S<0)(ak:ar<0):MvC w N ad m1 af cap m3 aj base aC i vs an S ar ([],-1):=by
 exact xbv
variable{w:World}{N ad:Option Addr}{m1 af cap m3 aj base aC i:Nat}{vs:List Vl}{o G g f l:Int}{m:Nat}{an S ar:Int}
theorem S.qas(h:Zp:=by
 have av:=ae.o.v.c0;go_wp2_with fail;clear av;refine fH (Fd ae xaa ?_);clear ae;unfold MfK;exact qdt):Zp:=h
theorem S.qdu(h:Zp:=by
 have av:=ae.o.v.c0;have h:(0:Int)<=(vs.length:Nat):=xaa;have u:(0:Int)<=((vs.length:Nat)+1):=xaa;go_wp2_with fail;clear av;refine fH (E7 ae xaa ?_);clear ae;unfold MfK;intros;rename_i wc C;obtain⟨t,aA,cap',q,ah,ae⟩:=C;go_wp2_with fail;refine fH (Fa ae xaa (show(t.length:Int)-1=((vs.length:Nat)+2) by have:=n.o.2;have:=r.o.2;have:=q.o.2;omega) ?_);exact no_implicit_lambda% xfs):Zp:=h
open S in
theorem I8(H:MvH w cap base aC i vs ⟨4,G,g,f,l,m⟩)(F:0<=an)(y:0<=S):MvC w N ad m1 af cap m3 aj base aC i vs an S ar ([eK 4 G an f 0,eK 4 G g S 0,eK 2 G ((vs.length:Nat):Int) (((vs.length:Nat):Int)+1) 0],(((vs.length:Nat):Int)+2)):=by
 exact no_implicit_lambda% qeu
variable{w:World}{N ad:Option Addr}{m1 af cap m3 aj base aC i:Nat}{vs:List Vl}{o G g f l:Int}{m:Nat}{an S ar:Int}
theorem I9(H:MvH w cap base aC i vs ⟨4,G,g,f,l,m⟩)(F:0<=an)(y:S<0):MvC w N ad m1 af cap m3 aj base aC i vs an S ar ([eK 4 G an f 0],((vs.length:Nat):Int)):=by
 exact no_implicit_lambda% xbq
theorem aE.qay(h:Zp:=by
 unfold MvC;exact qfd):Zp:=h
theorem aE.qfe(h:Zp:=by
 refine fH (Fd ae xaa ?_);exact no_implicit_lambda% xba):Zp:=h
open aE in
theorem Ja(H:MvH w cap base aC i vs ⟨4,G,g,f,l,m⟩)(F:an<0)(y:0<=S):MvC w N ad m1 af cap m3 aj base aC i vs an S ar ([eK 4 G g S 0],((vs.length:Nat):Int)):=by
 exact qax
theorem aF.qay(h:Zp:=by
 unfold MvC;exact qfd):Zp:=h
theorem aF.qfe(h:Zp:=by
 refine fH (Mu ae xaa ?_);exact no_implicit_lambda% xdq):Zp:=h
open aF in
theorem MA(H:MvH w cap base aC i vs ⟨13,G,g,f,l,m⟩)(F:0<=an):MvC w N ad m1 af cap m3 aj base aC i vs an S ar ([eK 4 G an (i:Int) 0],((vs.length:Nat):Int)):=by
 exact qax
variable{w:World}{N ad:Option Addr}{m1 af cap m3 aj base aC i:Nat}{vs:List Vl}{o G g f l:Int}{m:Nat}{an S ar:Int}
theorem aG.qay(h:Zp:=by
 unfold MvC;go_enter func163,ntmps163;go_wp2_with fail;rw[aT.o];clear av ba bc z aa ap aT;refine fH (Fb ae xaa ?_);clear ae;unfold MfK;intros;rename_i wc C;obtain⟨p,aA,cap',n,J,ae⟩:=C;go_wp2_with fail;refine fH (Fc ae xaa (show(p.length:Int)-1=(vs.length:Nat) by have:=n.o.2;omega) ?_);clear ae;unfold MfK;exact qdt):Zp:=h
theorem aG.qdu(h:Zp:=by
 have av:=ae.o.v.c0;have h:(0:Int)<=((vs.length:Nat)+1):=xaa;go_wp2_with fail;clear av;refine fH (Mw ae xaa ?_);clear ae;unfold MfK;intros;rename_i wc C;obtain⟨t,aA,cap',q,ah,ae⟩:=C;go_wp2_with fail;refine fH (Mx ae xaa (show(t.length:Int)-1=((vs.length:Nat)+2) by have:=n.o.2;have:=r.o.2;have:=q.o.2;omega) ?_);exact no_implicit_lambda% xfs):Zp:=h
open aG in
theorem Jb(H:MvH w cap base aC i vs ⟨5,G,g,f,l,m⟩)(F:an<0)(y:0<=S):MvC w N ad m1 af cap m3 aj base aC i vs an S ar ([eK 4 G (i:Int) S 0,eK 5 G ((vs.length:Nat):Int) f 0,eK 6 G (((vs.length:Nat):Int)+1) 0 0],(((vs.length:Nat):Int)+2)):=by
 exact qax
variable{w:World}{N ad:Option Addr}{m1 af cap m3 aj base aC i:Nat}{vs:List Vl}{o G g f l:Int}{m:Nat}{an S ar:Int}
theorem T.qas(h:Zp:=by
 have av:=ae.o.v.c0;go_wp2_with fail;clear av;refine fH (Fb ae xaa ?_);clear ae;unfold MfK;intros;rename_i wc C;obtain⟨vs2,aA,cap',r,aw,ae⟩:=C;go_wp2_with fail;refine fH (Fc ae xaa (show(vs2.length:Int)-1=((vs.length:Nat)+1) by have:=n.o.2;have:=r.o.2;omega) ?_);clear ae;unfold MfK;intros;rename_i wc C;obtain⟨t,aA,cap',q,ah,ae⟩:=C;obtain⟨_,_,aW,aq,aN,_,_,_,_⟩:=ae.o.g;go_wp2_with fail;refine(MS.lst ae.o xaa (show(t.length:Int)-1=((vs.length:Nat)+2) by have:=n.o.2;have:=r.o.2;have:=q.o.2;omega)).mono ?_;clear ae aW aq aN;rintro e K ⟨rfl,ae⟩;have av:=ae.o.v.c0;have h:(0:Int)<=(vs.length:Nat):=xaa;have u:(0:Int)<=((vs.length:Nat)+2):=xaa;go_wp2_with fail;clear av;refine fH (E7 ae xaa ?_);clear ae;unfold MfK;intros;rename_i wc C;obtain⟨j,aA,cap',s,bq,ae⟩:=C;go_wp2_with fail;refine fH (Fa ae xaa (show(j.length:Int)-1=((vs.length:Nat)+3) by have:=n.o.2;have:=r.o.2;have:=q.o.2;have:=s.o.2;omega) ?_);unfold MfK;intros;rename_i aF C;obtain⟨bd,aR,aV,HR⟩:=C;go_wp2_with fail;exact yay (by simp[results,results163,go_sem,bd,aR,aV]) rfl (MS.finR ae.o HR.o (by rw[s.o.1,q.o.1,r.o.1,n.o.1]<;>simp))):Zp:=h
open T in
theorem Jc(H:MvH w cap base aC i vs ⟨5,G,g,f,l,m⟩)(F:0<=an)(y:0<=S):MvC w N ad m1 af cap m3 aj base aC i vs an S ar ([eK 5 G an f 0,eK 4 G (i:Int) S 0,eK 5 G (((vs.length:Nat):Int)+1) f 0,eK 3 G ((vs.length:Nat):Int) (((vs.length:Nat):Int)+2) 0],(((vs.length:Nat):Int)+3)):=by
 exact no_implicit_lambda% qeu
variable{w:World}{N ad:Option Addr}{m1 af cap m3 aj base aC i:Nat}{vs:List Vl}{o G g f l:Int}{m:Nat}{an S ar:Int}
theorem Jd(H:MvH w cap base aC i vs ⟨7,G,g,f,l,m⟩)(F:0<=an)(y:-1<=S):MvC w N ad m1 af cap m3 aj base aC i vs an S ar ([eK 3 G g f 0]++(chM G ((vs.length:Nat):Int) an S (vs.length+1)).1,(chM G ((vs.length:Nat):Int) an S (vs.length+1)).2):=by
 exact no_implicit_lambda% xax
theorem Je(H:MvH w cap base aC i vs ⟨8,G,g,f,l,m⟩)(y:0<=S)(ak:-1<=ar):MvC w N ad m1 af cap m3 aj base aC i vs an S ar (chM G g S ar vs.length):=by
 exact no_implicit_lambda% xbe
variable{w:World}{N ad:Option Addr}{m1 af cap m3 aj base aC i:Nat}{vs:List Vl}{o G g f l:Int}{m:Nat}{an S ar:Int}
theorem Jf(H:MvH w cap base aC i vs ⟨7,G,g,f,l,m⟩)(F:an<0)(U:-1<=an)(y:0<=S):MvC w N ad m1 af cap m3 aj base aC i vs an S ar ([eK 3 G g f 0]++(chM G ((vs.length:Nat):Int) an S (vs.length+1)).1,(chM G ((vs.length:Nat):Int) an S (vs.length+1)).2):=by
 exact no_implicit_lambda% xax
theorem Jg(H:MvH w cap base aC i vs ⟨8,G,g,f,l,m⟩)(y:S<0)(ay:-1<=S)(ak:0<=ar):MvC w N ad m1 af cap m3 aj base aC i vs an S ar (chM G g S ar vs.length):=by
 exact no_implicit_lambda% xbe
end
section
theorem MB(w N ad m1 af cap m3 aj base aC i vs v an S ar)(h:w.ownsRow base 40 6 (hE aC vs.length cap) vs.length (fW vs))(hb:base<=w.heap.size)(hn:vs.length<=800000)(hi:i<vs.length)(aM:At w aC (i*6) v)
  (p:-1<=an) (K:-1<=S) (t:-1<=ar) (ae:¬(an=-1/\S=-1/\ar=-1)) (U:cnt v.op<=2->ar=-1) (B:cnt v.op<=1->S=-1):
  Calls prog 163 #[eX N m1 af (some ⟨aC,0,none⟩) vs.length cap ad m3 aj,hF i,hF an,hF S,hF ar] w λe J=>MvP w N m1 af ad m3 aj vs base (some aC) (mvM (i:Int) v an S ar vs.length) e J:=by
 obtain⟨o,G,g,f,l,m⟩:=v;have H:MvH w _ _ _ i _ _:=⟨h,hb,hn,hi,aM⟩
 have F:∀{v:Vl}{M:List _×Int},MvC w N ad m1 af cap m3 aj base aC i vs an S ar M->mvM i v an S ar vs.length=M->_:=λh e=>e ▸ h;clear h hb hn hi aM;simp only at B U;have j:∀{x:Int},0<=x->¬x=-1:=λh=>by omega
 have am:∀{x:Int},-1<=x->¬0<=x->x=-1:=λh k=>by omega
 by_cases bO:o=2
 ·subst bO;have ak:=U xab;by_cases a:0<=an
  ·by_cases b:0<=S
   ·exact F (I0 H a b) (by simp[mvM,yn,j a,j b])
   exact F (I1 H a xaa) (by simp[mvM,yn,j a,am K b])
  have b:0<=S:=xaa;exact F (I2 H xaa b) (by simp[mvM,yn,am p a,j b])
 by_cases cc:o=3
 ·subst cc;have ak:=U xab;by_cases a:0<=an
  ·by_cases b:0<=S
   ·exact F (I4 H a b) (by simp[mvM,yo,j a,j b])
   exact F (I5 H a xaa) (by simp[mvM,yo,j a,am K b])
  have b:0<=S:=xaa;exact F (I6 H xaa b) (by simp[mvM,yo,am p a,j b])
 by_cases n:o=4
 ·subst n;have ak:=U xab;by_cases a:0<=an
  ·by_cases b:0<=S
   ·exact F (I8 H a b) (by simp[mvM,yp,j a,j b])
   exact F (I9 H a xaa) (by simp[mvM,yp,j a,am K b])
  have b:0<=S:=xaa;exact F (Ja H xaa b) (by simp[mvM,yp,am p a,j b])
 by_cases u:o=5
 ·subst u;have ak:=U xab;by_cases a:0<=an
  ·by_cases b:0<=S
   ·exact F (Jc H a b) (by simp[mvM,yq,j a,j b])
   exact F (I3 H a xaa) (by simp[mvM,yq,j a,am K b])
  have b:0<=S:=xaa;exact F (Jb H xaa b) (by simp[mvM,yq,am p a,j b])
 by_cases r:o=7
 ·subst r;have ak:=U xab;have e:mvM i ⟨7,G,g,f,l,m⟩ an S ar vs.length=([eK 3 G g f 0]++(chM G (vs.length:Nat) an S (vs.length+1)).1,(chM G (vs.length:Nat) an S (vs.length+1)).2):=by grind[mvM]
  rw[e];by_cases a:0<=an
  ·exact Jd H a K
  exact Jf H xaa p xaa
 by_cases s:o=8
 ·subst s;by_cases b:0<=S
  ·have e:mvM i ⟨8,G,g,f,l,m⟩ an S ar vs.length=chM G g S ar vs.length:=by grind[mvM]
   rw[e];exact Je H b t
  by_cases c:0<=ar
  ·have e:mvM i ⟨8,G,g,f,l,m⟩ an S ar vs.length=chM G g S ar vs.length:=by grind[mvM]
   rw[e];exact Jg H xaa K c
  have e:mvM i ⟨8,G,g,f,l,m⟩ an S ar vs.length=([],-1):=by grind[mvM]
  rw[e];exact I7 H xaa xaa
 have X:cnt o<=1:=by grind[cnt]
 have b:=B X;have c:=U xaa;have a:0<=an:=xaa;by_cases q:o=13
 ·subst q;exact F (MA H a) (by simp[mvM,j a])
 exact F (Mz H ⟨bO,cc,n,u,r,s,q⟩ a) (by grind[mvM])
