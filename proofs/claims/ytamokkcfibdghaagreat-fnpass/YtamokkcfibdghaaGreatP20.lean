import Derived.Test.YtamokkcfibdghaaGreatP15
import Derived.Test.YtamokkcfibdghaaGreatP13
import Derived.Test.YtamokkcfibdghaaGreatP19
import Derived.Test.YtamokkcfibdghaaGreatP14
namespace Go.Proofs.Z
variable {Zp:Prop}
open Tryz Go.RowKit Flt
set_option maxRecDepth 1000000
set_option maxHeartbeats 0
section
attribute [local go_sem] eG eE eD
variable {N ab a2:Option Addr}{m1 ae m3 ak base cap X:Nat}{vs:List Vl}{o Q y r u:Int}{aa R':Option Nat}{c0 c1 c2 c4 ar av B ah m f az aL aF:Value}
theorem Fx{w W S I R aq}(ad:V (MS w W N m1 ae ab m3 ak vs ⟨o,Q,y,r,u,X⟩ base aa R' a2 cap))(au:vs.length<=900000):MfC 20 W (MpR w N m1 ae ab m3 ak vs ⟨o,Q,y,r,u,X⟩ base aa (eL 4 Q y S 0)) c0 c1 c2 (hI S) c4 (hG w.heap.size) ar av B ah m f (hG (w.heap.size+1+1)) (hI Q) az aL aF I R aq f:=by
 unfold MfC;intros;rename_i HK;have bl:V (∀aD,Kept 0 0 W aD->_):=λaD k=>MS.call ad.o k (eL 4 Q y S 0) xaa;have s0:=ad.o.g.c0;have ax:=ad.o.g.c1;have aN:=ad.o.g.c2;have bd:=ad.o.v.c2;exact xag
theorem xl{w W p q d c3}(ad:V (MS w W N m1 ae ab m3 ak vs ⟨o,Q,y,r,u,X⟩ base aa R' a2 cap))(au:vs.length<=900000):MfC 52 W (MpR w N m1 ae ab m3 ak vs ⟨o,Q,y,r,u,X⟩ base aa (eL 8 Q d p q)) c0 c1 c2 c3 c4 (hG w.heap.size) ar av B ah m f (hG (w.heap.size+1+1)) (hI Q) az aL aF (hI p) (hI q) (hI d) f:=by
 unfold MfC;intros;rename_i HK;have bl:V (∀aD,Kept 0 0 W aD->_):=λaD k=>MS.call ad.o k (eL 8 Q d p q) xaa;exact xah
end
section
variable {q vs2 t j vs:List Vl}{m1 ae m3 ak base cap:Nat}{Q y ao S aJ:Int}{N ab:Option Addr}
theorem sG{w W' ag}(h:w.ownsRow base 53 6 (hH ag vs.length cap) vs.length (fQ vs))(k:Kept 0 0 w W')(r):
  MvP w N m1 ae ab m3 ak vs base (some ag) ([],r) (.returned (.tuple #[eZ N m1 ae (some ⟨ag,0,none⟩) vs.length cap ab m3 ak,hI r])) W':=by
 unfold MvP;exact xjr
def orM (a n:Int)(N:Nat):List Vl×Int:=if a<0 then ([eL 1 n 0 0 0],(N:Int))else ([],a)
theorem MS.orAny{w W aD a2 v aa R'}(h:MS w W N m1 ae ab m3 ak vs v base aa R' a2 cap)(k:Kept 0 0 W aD)(a n)(hn:vs.length<=900000):
  Calls prog 148 #[eZ N m1 ae a2 vs.length cap ab m3 ak,hI a,hI n] aD λe af=>∃(vs2:List Vl) (m:Int) (a2':Option Addr) (cap':Nat) (R2:Option Nat),V (vs2=vs++(orM a n vs.length).1/\m=(orM a n vs.length).2)/\vs2.length<=vs.length+1/\e=.returned (.tuple #[eZ N m1 ae a2' vs2.length cap' ab m3 ak,hI m])/\
   (∃u,af.cell? ⟨w.heap.size,0,none⟩=some u)/\(∃u,af.cell? ⟨w.heap.size,1,none⟩=some u)/\(∃u,af.cell? ⟨w.heap.size,2,none⟩=some u)/\(∀o,af.frozen? ⟨w.heap.size,o,none⟩=false)/\At af (w.heap.size+1+1) 0 v/\
   V (MS w (fB af w.heap.size (.slice N m1 ae) (.slice a2' vs2.length cap') (.slice ab m3 ak)) N m1 ae ab m3 ak vs2 v base aa R2 a2' cap'):=by
 by_cases G:a<0
 ·refine(h.orNone k a n G hn).mono ?_;rintro e af ⟨aG,cap',rfl,bn,aC,a0,aj,aL,C⟩;have ah:(vs++[eL 1 n 0 0 0]).length=vs.length+1:=by simp
  refine⟨vs++[eL 1 n 0 0 0],(vs.length:Nat),some ⟨aG,0,none⟩,cap',some aG,⟨by rw[orM,hK G],by rw[orM,hK G]⟩,by rw[ah];exact yad,by rw[ah],bn,aC,a0,aj,aL,?_⟩;grind
 refine(h.orSome k a n xaa).mono ?_;rintro e af ⟨rfl,bn,aC,a0,aj,aL,C⟩;exact⟨vs,a,a2,cap,R',⟨by rw[orM,hJ G,List.append_nil],by rw[orM,hJ G]⟩,by omega,rfl,bn,aC,a0,aj,aL,C⟩
theorem LH{d m3}(B:-1<=ao)(R:-1<=S)(aR:vs2=vs++(orM ao Q vs.length).1/\aJ=(orM ao Q vs.length).2)(b2:t=vs2++(orM S Q vs2.length).1/\m3=(orM S Q vs2.length).2)(a0:j=t++[eL 8 Q d aJ m3]):
  j=vs++(chM Q d ao S vs.length).1/\(j.length:Int)-1=(chM Q d ao S vs.length).2:=by
 grind [chM,orM]
theorem Fy{aH m1}(B:-1<=S)(R:-1<=aH)(aR:q=vs++(orM S Q vs.length).1/\m1=(orM S Q vs.length).2)(b2:vs2=q++(orM aH Q q.length).1/\aJ=(orM aH Q q.length).2)(a0:t=vs2++[eL 8 Q y m1 aJ]):
  t=vs++(chM Q y S aH vs.length).1/\(t.length:Int)-1=(chM Q y S aH vs.length).2:=LH B R aR b2 a0
theorem Fz{r m3}(B:-1<=ao)(R:-1<=S)(aO:q=vs++[eL 3 Q y r 0])(aR:vs2=q++(orM ao Q q.length).1/\aJ=(orM ao Q q.length).2)(b2:t=vs2++(orM S Q vs2.length).1/\m3=(orM S Q vs2.length).2)(a0:j=t++[eL 8 Q ((vs.length:Nat):Int) aJ m3]):
  j=vs++([eL 3 Q y r 0]++(chM Q ((vs.length:Nat):Int) ao S (vs.length+1)).1)/\(j.length:Int)-1=(chM Q ((vs.length:Nat):Int) ao S (vs.length+1)).2:=by
 have ah:q.length=vs.length+1:=by grind
 grind [LH]
variable {w W W':World}{N ab a2:Option Addr}{m1 ae cap m3 ak base ag i:Nat}{vs vs0:List Vl}{v:Vl}{ao S aH:Int}{aa R':Option Nat}{M:List Vl×Int}
def MvC (w:World)(b1 b3:Option Addr)(m1 e1 cap m3 e3 base g2 i:Nat)(vs:List Vl)(ta tb tc:Int)(M:List Vl×Int):Prop:=
 Calls prog 146 #[eZ b1 m1 e1 (some ⟨g2,0,none⟩) vs.length cap b3 m3 e3,.int .i64 (i:Int),.int .i64 ta,.int .i64 tb,.int .i64 tc] w λe w'=>MvP w b1 m1 e1 b3 m3 e3 vs base (some g2) M e w'
theorem MS.orX(h:MS w W N m1 ae ab m3 ak vs v base aa R' a2 cap)(a n)(hn:vs.length<=900000):
  Calls prog 148 #[eZ N m1 ae a2 vs.length cap ab m3 ak,hI a,hI n] W λe af=>∃(us:List Vl) (m:Int) (a2':Option Addr) (cap':Nat) (R2:Option Nat) (cX:World),V (us=vs++(orM a n vs.length).1/\m=(orM a n vs.length).2)/\us.length<=vs.length+1/\e=.returned (.tuple #[eZ N m1 ae a2' us.length cap' ab m3 ak,hI m])/\
   (∃u,af.cell? ⟨w.heap.size,0,none⟩=some u)/\(∃u,af.cell? ⟨w.heap.size,1,none⟩=some u)/\(∃u,af.cell? ⟨w.heap.size,2,none⟩=some u)/\af.frozen? ⟨w.heap.size,0,none⟩=false/\af.frozen? ⟨w.heap.size,1,none⟩=false/\af.frozen? ⟨w.heap.size,2,none⟩=false/\
   V (((af.setCell ⟨w.heap.size,0,none⟩ (.slice N m1 ae)).setCell ⟨w.heap.size,1,none⟩ (.slice a2' us.length cap')).setCell ⟨w.heap.size,2,none⟩ (.slice ab m3 ak)=cX)/\V (MS w cX N m1 ae ab m3 ak us v base aa R2 a2' cap'):=by
 refine(MS.orAny h hQ a n hn).mono ?_;rintro e af ⟨us,m,aS,b3,f,bT,bO,rfl,bL,bI,bJ,aj,_,C⟩;exact⟨_,m,_,_,_,_,bT,bO,rfl,bL,bI,bJ,aj 0,aj 1,aj 2,rfl,C⟩
theorem MS.finR(h:MS w W N m1 ae ab m3 ak vs v base aa R' a2 cap)(C:∃aX,Kept 0 0 W aX/\W'=fB aX (w.heap.size+1) (.slice N m1 ae) (.slice a2 vs.length cap) (.slice ab m3 ak))(aL:vs=vs0++M.1):
  MvP w N m1 ae ab m3 ak vs0 base aa M (.returned (.tuple #[eZ N m1 ae a2 vs.length cap ab m3 ak,hI M.2])) W':=by
 grind [MS.fin]
end
section
attribute [local go_sem] eG eE eD
variable {w:World}{N ab:Option Addr}{m1 ae cap m3 ak base ag i:Nat}{vs:List Vl}{o Q y r u:Int}{X:Nat}{ao S aH:Int}
theorem Jj(H:MvH w cap base ag i vs ⟨2,Q,y,r,u,X⟩)(G:0<=ao)(K:0<=S):MvC w N ab m1 ae cap m3 ak base ag i vs ao S aH ([eL 2 Q ao S 0],((vs.length:Nat):Int)):=by
 exact no_implicit_lambda% xcx
theorem Jk(H:MvH w cap base ag i vs ⟨2,Q,y,r,u,X⟩)(G:0<=ao)(K:S<0):MvC w N ab m1 ae cap m3 ak base ag i vs ao S aH ([],ao):=by
 exact xby
theorem Jl(H:MvH w cap base ag i vs ⟨2,Q,y,r,u,X⟩)(G:ao<0)(K:0<=S):MvC w N ab m1 ae cap m3 ak base ag i vs ao S aH ([],S):=by
 exact xby
theorem Jm(H:MvH w cap base ag i vs ⟨5,Q,y,r,u,X⟩)(G:0<=ao)(K:S<0):MvC w N ab m1 ae cap m3 ak base ag i vs ao S aH ([eL 5 Q ao r 0],((vs.length:Nat):Int)):=by
 exact no_implicit_lambda% xbt
variable {w:World}{N ab:Option Addr}{m1 ae cap m3 ak base ag i:Nat}{vs:List Vl}{o Q y r u:Int}{X:Nat}{ao S aH:Int}
theorem Jn(H:MvH w cap base ag i vs ⟨3,Q,y,r,u,X⟩)(G:0<=ao)(K:0<=S):MvC w N ab m1 ae cap m3 ak base ag i vs ao S aH ([eL 3 Q ao S 0],((vs.length:Nat):Int)):=by
 exact no_implicit_lambda% xcx
theorem Jo(H:MvH w cap base ag i vs ⟨3,Q,y,r,u,X⟩)(G:0<=ao)(K:S<0):MvC w N ab m1 ae cap m3 ak base ag i vs ao S aH ([],ao):=by
 exact xby
theorem aC.qay(h:Zp:=by
 unfold MvC;exact qev):Zp:=h
theorem aC.qew(h:Zp:=by
 refine fC (MB ad xaa ?_);clear ad;unfold MfK;intros;rename_i wc C;obtain⟨q,aG,cap',f,J,ad⟩:=C;go_wp2_with fail;refine fC (MA ad xaa (show(q.length:Int)-1=(vs.length:Nat) by have:=f.o.2;omega) ?_);exact no_implicit_lambda% xcb):Zp:=h
open aC in
theorem Jp(H:MvH w cap base ag i vs ⟨3,Q,y,r,u,X⟩)(G:ao<0)(K:0<=S):MvC w N ab m1 ae cap m3 ak base ag i vs ao S aH ([eL 6 Q S 0 0],((vs.length:Nat):Int)):=by
 exact qax
theorem aD.qay(h:Zp:=by
 unfold MvC;have a6:=yam av.1;have bK:=yam av.2.1;have b1:=yam av.2.2.1;have bY:=yam av.2.2.2.1;have ai:=yam av.2.2.2.2.1;have ax:=yam av.2.2.2.2.2.1;have aM:=yam av.2.2.2.2.2.2;clear av;exact qev):Zp:=h
theorem aD.qew(h:Zp:=by
 refine fC (MC ad xaa ?_);exact no_implicit_lambda% xds):Zp:=h
open aD in
theorem MR(H:MvH w cap base ag i vs ⟨o,Q,y,r,u,X⟩)(av:o≠2/\o≠3/\o≠4/\o≠5/\o≠7/\o≠8/\o≠13)(G:0<=ao):MvC w N ab m1 ae cap m3 ak base ag i vs ao S aH ([eL o Q ao 0 u],((vs.length:Nat):Int)):=by
 exact qax
theorem Jq(H:MvH w cap base ag i vs ⟨8,Q,y,r,u,X⟩)(K:S<0)(ai:aH<0):MvC w N ab m1 ae cap m3 ak base ag i vs ao S aH ([],-1):=by
 exact xby
variable {w:World}{N ab:Option Addr}{m1 ae cap m3 ak base ag i:Nat}{vs:List Vl}{o Q y r u:Int}{X:Nat}{ao S aH:Int}
theorem S.qas(h:Zp:=by
 have ay:=ad.o.v.c0;go_wp2_with fail;clear ay;refine fC (Fx ad xaa ?_);clear ad;unfold MfK;exact qdl):Zp:=h
theorem S.qdm(h:Zp:=by
 have ay:=ad.o.v.c0;have m:(0:Int)<=(vs.length:Nat):=xaa;have v:(0:Int)<=((vs.length:Nat)+1):=xaa;go_wp2_with fail;clear ay;refine fC (Fi ad xaa ?_);clear ad;unfold MfK;intros;rename_i wc C;obtain⟨t,aG,cap',g,n,ad⟩:=C;go_wp2_with fail;refine fC (Fw ad xaa (show(t.length:Int)-1=((vs.length:Nat)+2) by have:=f.o.2;have:=p.o.2;have:=g.o.2;omega) ?_);exact no_implicit_lambda% xft):Zp:=h
open S in
theorem Jr(H:MvH w cap base ag i vs ⟨4,Q,y,r,u,X⟩)(G:0<=ao)(K:0<=S):MvC w N ab m1 ae cap m3 ak base ag i vs ao S aH ([eL 4 Q ao r 0,eL 4 Q y S 0,eL 2 Q ((vs.length:Nat):Int) (((vs.length:Nat):Int)+1) 0],(((vs.length:Nat):Int)+2)):=by
 exact no_implicit_lambda% qeo
variable {w:World}{N ab:Option Addr}{m1 ae cap m3 ak base ag i:Nat}{vs:List Vl}{o Q y r u:Int}{X:Nat}{ao S aH:Int}
theorem Js(H:MvH w cap base ag i vs ⟨4,Q,y,r,u,X⟩)(G:0<=ao)(K:S<0):MvC w N ab m1 ae cap m3 ak base ag i vs ao S aH ([eL 4 Q ao r 0],((vs.length:Nat):Int)):=by
 exact no_implicit_lambda% xbt
theorem aE.qay(h:Zp:=by
 unfold MvC;exact qev):Zp:=h
theorem aE.qew(h:Zp:=by
 refine fC (Fx ad xaa ?_);exact no_implicit_lambda% xbe):Zp:=h
open aE in
theorem Jt(H:MvH w cap base ag i vs ⟨4,Q,y,r,u,X⟩)(G:ao<0)(K:0<=S):MvC w N ab m1 ae cap m3 ak base ag i vs ao S aH ([eL 4 Q y S 0],((vs.length:Nat):Int)):=by
 exact qax
theorem aF.qay(h:Zp:=by
 unfold MvC;exact qev):Zp:=h
theorem aF.qew(h:Zp:=by
 refine fC (MD ad xaa ?_);exact no_implicit_lambda% xds):Zp:=h
open aF in
theorem MT(H:MvH w cap base ag i vs ⟨13,Q,y,r,u,X⟩)(G:0<=ao):MvC w N ab m1 ae cap m3 ak base ag i vs ao S aH ([eL 4 Q ao (i:Int) 0],((vs.length:Nat):Int)):=by
 exact qax
variable {w:World}{N ab:Option Addr}{m1 ae cap m3 ak base ag i:Nat}{vs:List Vl}{o Q y r u:Int}{X:Nat}{ao S aH:Int}
theorem aG.qay(h:Zp:=by
 unfold MvC;go_enter func146,ntmps146;go_wp2_with fail;rw[aS.o];clear ay bc bd bg Z s aS;refine fC (Fh ad xaa ?_);clear ad;unfold MfK;intros;rename_i wc C;obtain⟨q,aG,cap',f,J,ad⟩:=C;go_wp2_with fail;refine fC (Fk ad xaa (show(q.length:Int)-1=(vs.length:Nat) by have:=f.o.2;omega) ?_);clear ad;unfold MfK;exact qdl):Zp:=h
theorem aG.qdm(h:Zp:=by
 have ay:=ad.o.v.c0;have m:(0:Int)<=((vs.length:Nat)+1):=xaa;go_wp2_with fail;clear ay;refine fC (MP ad xaa ?_);clear ad;unfold MfK;intros;rename_i wc C;obtain⟨t,aG,cap',g,n,ad⟩:=C;go_wp2_with fail;refine fC (MQ ad xaa (show(t.length:Int)-1=((vs.length:Nat)+2) by have:=f.o.2;have:=p.o.2;have:=g.o.2;omega) ?_);exact no_implicit_lambda% xft):Zp:=h
open aG in
theorem Ju(H:MvH w cap base ag i vs ⟨5,Q,y,r,u,X⟩)(G:ao<0)(K:0<=S):MvC w N ab m1 ae cap m3 ak base ag i vs ao S aH ([eL 4 Q (i:Int) S 0,eL 5 Q ((vs.length:Nat):Int) r 0,eL 6 Q (((vs.length:Nat):Int)+1) 0 0],(((vs.length:Nat):Int)+2)):=by
 exact qax
variable {w:World}{N ab:Option Addr}{m1 ae cap m3 ak base ag i:Nat}{vs:List Vl}{o Q y r u:Int}{X:Nat}{ao S aH:Int}
theorem T.qas(h:Zp:=by
 have ay:=ad.o.v.c0;go_wp2_with fail;clear ay;refine fC (Fh ad xaa ?_);clear ad;unfold MfK;intros;rename_i wc C;obtain⟨vs2,aG,cap',p,Y,ad⟩:=C;go_wp2_with fail;refine fC (Fk ad xaa (show(vs2.length:Int)-1=((vs.length:Nat)+1) by have:=f.o.2;have:=p.o.2;omega) ?_);clear ad;unfold MfK;intros;rename_i wc C;obtain⟨t,aG,cap',g,n,ad⟩:=C;obtain⟨_,_,s0,ax,aN,_,_,_,_⟩:=ad.o.g;go_wp2_with fail;refine(MS.lst ad.o xaa (show(t.length:Int)-1=((vs.length:Nat)+2) by have:=f.o.2;have:=p.o.2;have:=g.o.2;omega)).mono ?_;clear ad s0 ax aN;rintro e h ⟨rfl,ad⟩;have ay:=ad.o.v.c0;have m:(0:Int)<=(vs.length:Nat):=xaa;have v:(0:Int)<=((vs.length:Nat)+2):=xaa;go_wp2_with fail;clear ay;refine fC (Fi ad xaa ?_);clear ad;unfold MfK;intros;rename_i wc C;obtain⟨j,aG,cap',l,bz,ad⟩:=C;go_wp2_with fail;refine fC (Fw ad xaa (show(j.length:Int)-1=((vs.length:Nat)+3) by have:=f.o.2;have:=p.o.2;have:=g.o.2;have:=l.o.2;omega) ?_);unfold MfK;intros;rename_i aT C;obtain⟨bh,aU,aY,HR⟩:=C;go_wp2_with fail;exact yay (by simp[results,results146,go_sem,bh,aU,aY]) rfl (MS.finR ad.o HR.o (by rw[l.o.1,g.o.1,p.o.1,f.o.1]<;>simp))):Zp:=h
open T in
theorem Jv(H:MvH w cap base ag i vs ⟨5,Q,y,r,u,X⟩)(G:0<=ao)(K:0<=S):MvC w N ab m1 ae cap m3 ak base ag i vs ao S aH ([eL 5 Q ao r 0,eL 4 Q (i:Int) S 0,eL 5 Q (((vs.length:Nat):Int)+1) r 0,eL 3 Q ((vs.length:Nat):Int) (((vs.length:Nat):Int)+2) 0],(((vs.length:Nat):Int)+3)):=by
 exact no_implicit_lambda% qeo
variable {w:World}{N ab:Option Addr}{m1 ae cap m3 ak base ag i:Nat}{vs:List Vl}{o Q y r u:Int}{X:Nat}{ao S aH:Int}
theorem Jw(H:MvH w cap base ag i vs ⟨7,Q,y,r,u,X⟩)(G:0<=ao)(K:-1<=S):MvC w N ab m1 ae cap m3 ak base ag i vs ao S aH ([eL 3 Q y r 0]++(chM Q ((vs.length:Nat):Int) ao S (vs.length+1)).1,(chM Q ((vs.length:Nat):Int) ao S (vs.length+1)).2):=by
 exact no_implicit_lambda% xbb
theorem Jx(H:MvH w cap base ag i vs ⟨8,Q,y,r,u,X⟩)(K:0<=S)(ai:-1<=aH):MvC w N ab m1 ae cap m3 ak base ag i vs ao S aH (chM Q y S aH vs.length):=by
 exact no_implicit_lambda% xbi
variable {w:World}{N ab:Option Addr}{m1 ae cap m3 ak base ag i:Nat}{vs:List Vl}{o Q y r u:Int}{X:Nat}{ao S aH:Int}
theorem Jy(H:MvH w cap base ag i vs ⟨7,Q,y,r,u,X⟩)(G:ao<0)(R:-1<=ao)(K:0<=S):MvC w N ab m1 ae cap m3 ak base ag i vs ao S aH ([eL 3 Q y r 0]++(chM Q ((vs.length:Nat):Int) ao S (vs.length+1)).1,(chM Q ((vs.length:Nat):Int) ao S (vs.length+1)).2):=by
 exact no_implicit_lambda% xbb
theorem Jz(H:MvH w cap base ag i vs ⟨8,Q,y,r,u,X⟩)(K:S<0)(U:-1<=S)(ai:0<=aH):MvC w N ab m1 ae cap m3 ak base ag i vs ao S aH (chM Q y S aH vs.length):=by
 exact no_implicit_lambda% xbi
end
section
theorem MU(w N ab m1 ae cap m3 ak base ag i vs v ao S aH)(h:w.ownsRow base 53 6 (hH ag vs.length cap) vs.length (fQ vs))(hb:base<=w.heap.size)(hn:vs.length<=800000)(hi:i<vs.length)(aL:At w ag (i*6) v)
  (g:-1<=ao) (K:-1<=S) (p:-1<=aH) (ad:¬(ao=-1/\S=-1/\aH=-1)) (R:cnt v.op<=2->aH=-1) (B:cnt v.op<=1->S=-1):
  Calls prog 146 #[eZ N m1 ae (some ⟨ag,0,none⟩) vs.length cap ab m3 ak,hI i,hI ao,hI S,hI aH] w λe J=>MvP w N m1 ae ab m3 ak vs base (some ag) (mvM (i:Int) v ao S aH vs.length) e J:=by
 obtain⟨o,Q,y,r,u,X⟩:=v;have H:MvH w _ _ _ i _ _:=⟨h,hb,hn,hi,aL⟩
 have F:∀{v:Vl}{M:List _×Int},MvC w N ab m1 ae cap m3 ak base ag i vs ao S aH M->mvM i v ao S aH vs.length=M->_:=λh e=>e ▸ h;clear h hb hn hi aL;simp only at B R;have f:∀{x:Int},0<=x->¬x=-1:=λh=>by omega
 have an:∀{x:Int},-1<=x->¬0<=x->x=-1:=λh k=>by omega
 by_cases bS:o=2
 ·subst bS;have ai:=R xab;by_cases a:0<=ao
  ·by_cases b:0<=S
   ·exact F (Jj H a b) (by simp[mvM,yJ,f a,f b])
   exact F (Jk H a xaa) (by simp[mvM,yJ,f a,an K b])
  have b:0<=S:=xaa;exact F (Jl H xaa b) (by simp[mvM,yJ,an g a,f b])
 by_cases b5:o=3
 ·subst b5;have ai:=R xab;by_cases a:0<=ao
  ·by_cases b:0<=S
   ·exact F (Jn H a b) (by simp[mvM,yK,f a,f b])
   exact F (Jo H a xaa) (by simp[mvM,yK,f a,an K b])
  have b:0<=S:=xaa;exact F (Jp H xaa b) (by simp[mvM,yK,an g a,f b])
 by_cases n:o=4
 ·subst n;have ai:=R xab;by_cases a:0<=ao
  ·by_cases b:0<=S
   ·exact F (Jr H a b) (by simp[mvM,yL,f a,f b])
   exact F (Js H a xaa) (by simp[mvM,yL,f a,an K b])
  have b:0<=S:=xaa;exact F (Jt H xaa b) (by simp[mvM,yL,an g a,f b])
 by_cases C:o=5
 ·subst C;have ai:=R xab;by_cases a:0<=ao
  ·by_cases b:0<=S
   ·exact F (Jv H a b) (by simp[mvM,yM,f a,f b])
   exact F (Jm H a xaa) (by simp[mvM,yM,f a,an K b])
  have b:0<=S:=xaa;exact F (Ju H xaa b) (by simp[mvM,yM,an g a,f b])
 by_cases l:o=7
 ·subst l;have ai:=R xab;have e:mvM i ⟨7,Q,y,r,u,X⟩ ao S aH vs.length=([eL 3 Q y r 0]++(chM Q (vs.length:Nat) ao S (vs.length+1)).1,(chM Q (vs.length:Nat) ao S (vs.length+1)).2):=by grind [mvM]
  rw[e];by_cases a:0<=ao
  ·exact Jw H a K
  exact Jy H xaa g xaa
 by_cases m:o=8
 ·subst m;by_cases b:0<=S
  ·have e:mvM i ⟨8,Q,y,r,u,X⟩ ao S aH vs.length=chM Q y S aH vs.length:=by grind [mvM]
   rw[e];exact Jx H b p
  by_cases c:0<=aH
  ·have e:mvM i ⟨8,Q,y,r,u,X⟩ ao S aH vs.length=chM Q y S aH vs.length:=by grind [mvM]
   rw[e];exact Jz H xaa K c
  have e:mvM i ⟨8,Q,y,r,u,X⟩ ao S aH vs.length=([],-1):=by grind [mvM]
  rw[e];exact Jq H xaa xaa
 have ar:cnt o<=1:=by grind [cnt]
 have b:=B ar;have c:=R xaa;have a:0<=ao:=xaa;by_cases j:o=13
 ·subst j;exact F (MT H a) (by simp[mvM,f a])
 exact F (MR H ⟨bS,b5,n,C,l,m,j⟩ a) (by grind [mvM])
