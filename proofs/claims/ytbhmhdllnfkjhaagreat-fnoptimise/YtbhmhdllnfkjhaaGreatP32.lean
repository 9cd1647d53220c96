import Derived.Test.YtbhmhdllnfkjhaaGreatP12
import Derived.Test.YtbhmhdllnfkjhaaGreatP31
import Derived.Test.YtbhmhdllnfkjhaaGreatP11
import Derived.Test.YtbhmhdllnfkjhaaGreatP10
namespace Go.Proofs.Z
variable{Zp:Prop}
open Tryz Go.RowKit Flt
set_option maxRecDepth 1000000
set_option maxHeartbeats 0
section
attribute[local go_sem] eG eE eD
variable{O Z Y:Option Addr}{m1 m3 af base cap aq:Nat}{vs:List Vl}{o G am r ak:Int}{U R':Option Nat}{c0 c1 c2 c4 aX aC ad X x c aN a2 aU:Value}
theorem Ii{w W e1 S Q ar aw}(aa:V (MS w W O m1 e1 Z m3 af vs ⟨o,G,am,r,ak,aq⟩ base U R' Y cap))(an:vs.length<=900000):MfC 20 W (MpR w O m1 e1 Z m3 af vs ⟨o,G,am,r,ak,aq⟩ base U (eL 4 G am S 0)) c0 c1 c2 (hD S) c4 (hB w.heap.size) aX aC ad X x c (hB (w.heap.size+1+1)) (hD G) aN a2 aU Q ar aw c:=by
 unfold MfC;intros;rename_i HK;have bc:V (∀az,Kept 0 0 W az->_):=λaz k=>MS.call aa.o k (eL 4 G am S 0) xaa;have aT:=aa.o.g.c0;have ao:=aa.o.g.c1;have aG:=aa.o.g.c2;have ba:=aa.o.v.c2;exact xad
theorem x7{w W e1 p q d c3}(aa:V (MS w W O m1 e1 Z m3 af vs ⟨o,G,am,r,ak,aq⟩ base U R' Y cap))(an:vs.length<=900000):MfC 52 W (MpR w O m1 e1 Z m3 af vs ⟨o,G,am,r,ak,aq⟩ base U (eL 8 G d p q)) c0 c1 c2 c3 c4 (hB w.heap.size) aX aC ad X x c (hB (w.heap.size+1+1)) (hD G) aN a2 aU (hD p) (hD q) (hD d) c:=by
 unfold MfC;intros;rename_i HK;have bc:V (∀az,Kept 0 0 W az->_):=λaz k=>MS.call aa.o k (eL 8 G d p q) xaa;exact xae
end
section
variable{c vs2 t j vs:List Vl}{m1 m3 af base cap:Nat}{G am ah S b2:Int}{O Z:Option Addr}
theorem sV{w W' e1 ap}(h:w.ownsRow base 60 6 (hC ap vs.length cap) vs.length (fK vs))(k:Kept 0 0 w W')(r):
  MvP w O m1 e1 Z m3 af vs base (some ap) ([],r) (.returned (.tuple #[eV O m1 e1 (some ⟨ap,0,none⟩) vs.length cap Z m3 af,hD r])) W':=by
 unfold MvP;exact xig
def orM(a n:Int)(N:Nat):List Vl×Int:=if a<0 then ([eL 1 n 0 0 0],(N:Int))else ([],a)
theorem MS.orAny{w W az e1 Y v U R'}(h:MS w W O m1 e1 Z m3 af vs v base U R' Y cap)(k:Kept 0 0 W az)(a n)(hn:vs.length<=900000):
  Calls prog 166 #[eV O m1 e1 Y vs.length cap Z m3 af,hD a,hD n] az λe ag=>∃(vs2:List Vl) (m:Int) (a2':Option Addr) (cap':Nat) (R2:Option Nat),V (vs2=vs++(orM a n vs.length).1/\m=(orM a n vs.length).2)/\vs2.length<=vs.length+1/\e=.returned (.tuple #[eV O m1 e1 a2' vs2.length cap' Z m3 af,hD m])/\
   (∃u,ag.cell? ⟨w.heap.size,0,none⟩=some u)/\(∃u,ag.cell? ⟨w.heap.size,1,none⟩=some u)/\(∃u,ag.cell? ⟨w.heap.size,2,none⟩=some u)/\(∀o,ag.frozen? ⟨w.heap.size,o,none⟩=false)/\At ag (w.heap.size+1+1) 0 v/\
   V (MS w (fw ag w.heap.size (.slice O m1 e1) (.slice a2' vs2.length cap') (.slice Z m3 af)) O m1 e1 Z m3 af vs2 v base U R2 a2' cap'):=by
 by_cases F:a<0
 ·refine(h.orNone k a n F hn).mono ?_;rintro e ag ⟨aB,cap',rfl,bm,ay,aW,ae,aD,C⟩;have ab:(vs++[eL 1 n 0 0 0]).length=vs.length+1:=by simp
  refine⟨vs++[eL 1 n 0 0 0],(vs.length:Nat),some ⟨aB,0,none⟩,cap',some aB,⟨by rw[orM,hG F],by rw[orM,hG F]⟩,by rw[ab];exact yad,by rw[ab],bm,ay,aW,ae,aD,?_⟩;grind
 refine(h.orSome k a n xaa).mono ?_;rintro e ag ⟨rfl,bm,ay,aW,ae,aD,C⟩;exact⟨vs,a,Y,cap,R',⟨by rw[orM,hF F,List.append_nil],by rw[orM,hF F]⟩,by omega,rfl,bm,ay,aW,ae,aD,C⟩
theorem Mj{d m3}(B:-1<=ah)(J:-1<=S)(aJ:vs2=vs++(orM ah G vs.length).1/\b2=(orM ah G vs.length).2)(bS:t=vs2++(orM S G vs2.length).1/\m3=(orM S G vs2.length).2)(au:j=t++[eL 8 G d b2 m3]):
  j=vs++(chM G d ah S vs.length).1/\(j.length:Int)-1=(chM G d ah S vs.length).2:=by
 grind[chM,orM]
theorem Ij{an m1}(B:-1<=S)(J:-1<=an)(aJ:c=vs++(orM S G vs.length).1/\m1=(orM S G vs.length).2)(bS:vs2=c++(orM an G c.length).1/\b2=(orM an G c.length).2)(au:t=vs2++[eL 8 G am m1 b2]):
  t=vs++(chM G am S an vs.length).1/\(t.length:Int)-1=(chM G am S an vs.length).2:=Mj B J aJ bS au
theorem Ik{r m3}(B:-1<=ah)(J:-1<=S)(aL:c=vs++[eL 3 G am r 0])(aJ:vs2=c++(orM ah G c.length).1/\b2=(orM ah G c.length).2)(bS:t=vs2++(orM S G vs2.length).1/\m3=(orM S G vs2.length).2)(au:j=t++[eL 8 G ((vs.length:Nat):Int) b2 m3]):
  j=vs++([eL 3 G am r 0]++(chM G ((vs.length:Nat):Int) ah S (vs.length+1)).1)/\(j.length:Int)-1=(chM G ((vs.length:Nat):Int) ah S (vs.length+1)).2:=by
 have ab:c.length=vs.length+1:=by grind
 grind[Mj]
variable{w W W':World}{O Z Y:Option Addr}{m1 e1 cap m3 af base ap i:Nat}{vs vs0:List Vl}{v:Vl}{ah S an:Int}{U R':Option Nat}{M:List Vl×Int}
def MvC(w:World)(b1 b3:Option Addr)(m1 e1 cap m3 e3 base g2 i:Nat)(vs:List Vl)(ta tb tc:Int)(M:List Vl×Int):Prop:=
 Calls prog 165 #[eV b1 m1 e1 (some ⟨g2,0,none⟩) vs.length cap b3 m3 e3,.int .i64 (i:Int),.int .i64 ta,.int .i64 tb,.int .i64 tc] w λe w'=>MvP w b1 m1 e1 b3 m3 e3 vs base (some g2) M e w'
theorem MS.orX(h:MS w W O m1 e1 Z m3 af vs v base U R' Y cap)(a n)(hn:vs.length<=900000):
  Calls prog 166 #[eV O m1 e1 Y vs.length cap Z m3 af,hD a,hD n] W λe ag=>∃(us:List Vl) (m:Int) (a2':Option Addr) (cap':Nat) (R2:Option Nat) (dd:World),V (us=vs++(orM a n vs.length).1/\m=(orM a n vs.length).2)/\us.length<=vs.length+1/\e=.returned (.tuple #[eV O m1 e1 a2' us.length cap' Z m3 af,hD m])/\
   (∃u,ag.cell? ⟨w.heap.size,0,none⟩=some u)/\(∃u,ag.cell? ⟨w.heap.size,1,none⟩=some u)/\(∃u,ag.cell? ⟨w.heap.size,2,none⟩=some u)/\ag.frozen? ⟨w.heap.size,0,none⟩=false/\ag.frozen? ⟨w.heap.size,1,none⟩=false/\ag.frozen? ⟨w.heap.size,2,none⟩=false/\
   V (((ag.setCell ⟨w.heap.size,0,none⟩ (.slice O m1 e1)).setCell ⟨w.heap.size,1,none⟩ (.slice a2' us.length cap')).setCell ⟨w.heap.size,2,none⟩ (.slice Z m3 af)=dd)/\V (MS w dd O m1 e1 Z m3 af us v base U R2 a2' cap'):=by
 refine(MS.orAny h hL a n hn).mono ?_;rintro e ag ⟨us,m,bq,bK,f,bL,bJ,rfl,bI,bB,bE,ae,_,C⟩;exact⟨_,m,_,_,_,_,bL,bJ,rfl,bI,bB,bE,ae 0,ae 1,ae 2,rfl,C⟩
theorem MS.finR(h:MS w W O m1 e1 Z m3 af vs v base U R' Y cap)(C:∃a7,Kept 0 0 W a7/\W'=fw a7 (w.heap.size+1) (.slice O m1 e1) (.slice Y vs.length cap) (.slice Z m3 af))(aD:vs=vs0++M.1):
  MvP w O m1 e1 Z m3 af vs0 base U M (.returned (.tuple #[eV O m1 e1 Y vs.length cap Z m3 af,hD M.2])) W':=by
 grind[MS.fin]
end
section
attribute[local go_sem] eG eE eD
variable{w:World}{O Z:Option Addr}{m1 e1 cap m3 af base ap i:Nat}{vs:List Vl}{o G am r ak:Int}{aq:Nat}{ah S an:Int}
theorem KF(H:MvH w cap base ap i vs ⟨2,G,am,r,ak,aq⟩)(F:0<=ah)(y:0<=S):MvC w O Z m1 e1 cap m3 af base ap i vs ah S an ([eL 2 G ah S 0],((vs.length:Nat):Int)):=by
 exact no_implicit_lambda% xcb
theorem KG(H:MvH w cap base ap i vs ⟨2,G,am,r,ak,aq⟩)(F:0<=ah)(y:S<0):MvC w O Z m1 e1 cap m3 af base ap i vs ah S an ([],ah):=by
 exact xbi
theorem KH(H:MvH w cap base ap i vs ⟨2,G,am,r,ak,aq⟩)(F:ah<0)(y:0<=S):MvC w O Z m1 e1 cap m3 af base ap i vs ah S an ([],S):=by
 exact xbi
theorem KJ(H:MvH w cap base ap i vs ⟨5,G,am,r,ak,aq⟩)(F:0<=ah)(y:S<0):MvC w O Z m1 e1 cap m3 af base ap i vs ah S an ([eL 5 G ah r 0],((vs.length:Nat):Int)):=by
 exact no_implicit_lambda% xbf
variable{w:World}{O Z:Option Addr}{m1 e1 cap m3 af base ap i:Nat}{vs:List Vl}{o G am r ak:Int}{aq:Nat}{ah S an:Int}
theorem KK(H:MvH w cap base ap i vs ⟨3,G,am,r,ak,aq⟩)(F:0<=ah)(y:0<=S):MvC w O Z m1 e1 cap m3 af base ap i vs ah S an ([eL 3 G ah S 0],((vs.length:Nat):Int)):=by
 exact no_implicit_lambda% xcb
theorem KL(H:MvH w cap base ap i vs ⟨3,G,am,r,ak,aq⟩)(F:0<=ah)(y:S<0):MvC w O Z m1 e1 cap m3 af base ap i vs ah S an ([],ah):=by
 exact xbi
theorem aA.qaw(h:Zp:=by
 unfold MvC;exact qen):Zp:=h
theorem aA.qeo(h:Zp:=by
 refine fx (MO aa xaa ?_);clear aa;unfold MfK;intros;rename_i wc C;obtain⟨c,aB,cap',f,I,aa⟩:=C;go_wp2_with fail;refine fx (NO aa xaa (show(c.length:Int)-1=(vs.length:Nat) by have:=f.o.2;omega) ?_);exact no_implicit_lambda% xbk):Zp:=h
open aA in
theorem KM(H:MvH w cap base ap i vs ⟨3,G,am,r,ak,aq⟩)(F:ah<0)(y:0<=S):MvC w O Z m1 e1 cap m3 af base ap i vs ah S an ([eL 6 G S 0 0],((vs.length:Nat):Int)):=by
 exact qav
theorem aB.qaw(h:Zp:=by
 unfold MvC;have aY:=yan al.1;have bW:=yan al.2.1;have b3:=yan al.2.2.1;have b2:=yan al.2.2.2.1;have Y:=yan al.2.2.2.2.1;have l:=yan al.2.2.2.2.2.1;have j:=yan al.2.2.2.2.2.2;clear al;exact qen):Zp:=h
theorem aB.qeo(h:Zp:=by
 refine fx (MP aa xaa ?_);exact no_implicit_lambda% xcv):Zp:=h
open aB in
theorem NP(H:MvH w cap base ap i vs ⟨o,G,am,r,ak,aq⟩)(al:o≠2/\o≠3/\o≠4/\o≠5/\o≠7/\o≠8/\o≠13)(F:0<=ah):MvC w O Z m1 e1 cap m3 af base ap i vs ah S an ([eL o G ah 0 ak],((vs.length:Nat):Int)):=by
 exact qav
theorem KN(H:MvH w cap base ap i vs ⟨8,G,am,r,ak,aq⟩)(y:S<0)(ad:an<0):MvC w O Z m1 e1 cap m3 af base ap i vs ah S an ([],-1):=by
 exact xbi
variable{w:World}{O Z:Option Addr}{m1 e1 cap m3 af base ap i:Nat}{vs:List Vl}{o G am r ak:Int}{aq:Nat}{ah S an:Int}
theorem Q.qaq(h:Zp:=by
 have bF:=aa.o.v.c0;go_wp2_with fail;clear bF;refine fx (Ii aa xaa ?_);clear aa;unfold MfK;exact qdh):Zp:=h
theorem Q.qdi(h:Zp:=by
 have bF:=aa.o.v.c0;have n:(0:Int)<=(vs.length:Nat):=xaa;have q:(0:Int)<=((vs.length:Nat)+1):=xaa;go_wp2_with fail;clear bF;refine fx (FE aa xaa ?_);clear aa;unfold MfK;intros;rename_i wc C;obtain⟨t,aB,cap',h,k,aa⟩:=C;go_wp2_with fail;refine fx (FH aa xaa (show(t.length:Int)-1=((vs.length:Nat)+2) by have:=f.o.2;have:=p.o.2;have:=h.o.2;omega) ?_);exact no_implicit_lambda% xel):Zp:=h
open Q in
theorem KO(H:MvH w cap base ap i vs ⟨4,G,am,r,ak,aq⟩)(F:0<=ah)(y:0<=S):MvC w O Z m1 e1 cap m3 af base ap i vs ah S an ([eL 4 G ah r 0,eL 4 G am S 0,eL 2 G ((vs.length:Nat):Int) (((vs.length:Nat):Int)+1) 0],(((vs.length:Nat):Int)+2)):=by
 exact no_implicit_lambda% qee
variable{w:World}{O Z:Option Addr}{m1 e1 cap m3 af base ap i:Nat}{vs:List Vl}{o G am r ak:Int}{aq:Nat}{ah S an:Int}
theorem KP(H:MvH w cap base ap i vs ⟨4,G,am,r,ak,aq⟩)(F:0<=ah)(y:S<0):MvC w O Z m1 e1 cap m3 af base ap i vs ah S an ([eL 4 G ah r 0],((vs.length:Nat):Int)):=by
 exact no_implicit_lambda% xbf
theorem aC.qaw(h:Zp:=by
 unfold MvC;exact qen):Zp:=h
theorem aC.qeo(h:Zp:=by
 refine fx (Ii aa xaa ?_);exact no_implicit_lambda% xat):Zp:=h
open aC in
theorem KQ(H:MvH w cap base ap i vs ⟨4,G,am,r,ak,aq⟩)(F:ah<0)(y:0<=S):MvC w O Z m1 e1 cap m3 af base ap i vs ah S an ([eL 4 G am S 0],((vs.length:Nat):Int)):=by
 exact qav
theorem aD.qaw(h:Zp:=by
 unfold MvC;exact qen):Zp:=h
theorem aD.qeo(h:Zp:=by
 refine fx (MQ aa xaa ?_);exact no_implicit_lambda% xcv):Zp:=h
open aD in
theorem NQ(H:MvH w cap base ap i vs ⟨13,G,am,r,ak,aq⟩)(F:0<=ah):MvC w O Z m1 e1 cap m3 af base ap i vs ah S an ([eL 4 G ah (i:Int) 0],((vs.length:Nat):Int)):=by
 exact qav
variable{w:World}{O Z:Option Addr}{m1 e1 cap m3 af base ap i:Nat}{vs:List Vl}{o G am r ak:Int}{aq:Nat}{ah S an:Int}
theorem aE.qaw(h:Zp:=by
 unfold MvC;go_enter func165,ntmps165;go_wp2_with fail;rw[aS.o];clear bF a9 ba be bi s aS;refine fx (Ih aa xaa ?_);clear aa;unfold MfK;intros;rename_i wc C;obtain⟨c,aB,cap',f,I,aa⟩:=C;go_wp2_with fail;refine fx (FJ aa xaa (show(c.length:Int)-1=(vs.length:Nat) by have:=f.o.2;omega) ?_);clear aa;unfold MfK;exact qdh):Zp:=h
theorem aE.qdi(h:Zp:=by
 have bF:=aa.o.v.c0;have n:(0:Int)<=((vs.length:Nat)+1):=xaa;go_wp2_with fail;clear bF;refine fx (MR aa xaa ?_);clear aa;unfold MfK;intros;rename_i wc C;obtain⟨t,aB,cap',h,k,aa⟩:=C;go_wp2_with fail;refine fx (MT aa xaa (show(t.length:Int)-1=((vs.length:Nat)+2) by have:=f.o.2;have:=p.o.2;have:=h.o.2;omega) ?_);exact no_implicit_lambda% xel):Zp:=h
open aE in
theorem KR(H:MvH w cap base ap i vs ⟨5,G,am,r,ak,aq⟩)(F:ah<0)(y:0<=S):MvC w O Z m1 e1 cap m3 af base ap i vs ah S an ([eL 4 G (i:Int) S 0,eL 5 G ((vs.length:Nat):Int) r 0,eL 6 G (((vs.length:Nat):Int)+1) 0 0],(((vs.length:Nat):Int)+2)):=by
 exact qav
variable{w:World}{O Z:Option Addr}{m1 e1 cap m3 af base ap i:Nat}{vs:List Vl}{o G am r ak:Int}{aq:Nat}{ah S an:Int}
theorem R.qaq(h:Zp:=by
 have bF:=aa.o.v.c0;go_wp2_with fail;clear bF;refine fx (Ih aa xaa ?_);clear aa;unfold MfK;intros;rename_i wc C;obtain⟨vs2,aB,cap',p,aA,aa⟩:=C;go_wp2_with fail;refine fx (FJ aa xaa (show(vs2.length:Int)-1=((vs.length:Nat)+1) by have:=f.o.2;have:=p.o.2;omega) ?_);clear aa;unfold MfK;intros;rename_i wc C;obtain⟨t,aB,cap',h,k,aa⟩:=C;obtain⟨_,_,aT,ao,aG,_,_,_,_⟩:=aa.o.g;go_wp2_with fail;refine(MS.lst aa.o xaa (show(t.length:Int)-1=((vs.length:Nat)+2) by have:=f.o.2;have:=p.o.2;have:=h.o.2;omega)).mono ?_;clear aa aT ao aG;rintro e m ⟨rfl,aa⟩;have bF:=aa.o.v.c0;have n:(0:Int)<=(vs.length:Nat):=xaa;have q:(0:Int)<=((vs.length:Nat)+2):=xaa;go_wp2_with fail;clear bF;refine fx (FE aa xaa ?_);clear aa;unfold MfK;intros;rename_i wc C;obtain⟨j,aB,cap',l,al,aa⟩:=C;go_wp2_with fail;refine fx (FH aa xaa (show(j.length:Int)-1=((vs.length:Nat)+3) by have:=f.o.2;have:=p.o.2;have:=h.o.2;have:=l.o.2;omega) ?_);unfold MfK;intros;rename_i ab C;obtain⟨bb,aM,aQ,HR⟩:=C;go_wp2_with fail;exact yaz (by simp[results,results165,go_sem,bb,aM,aQ]) rfl (MS.finR aa.o HR.o (by rw[l.o.1,h.o.1,p.o.1,f.o.1]<;>simp))):Zp:=h
open R in
theorem KT(H:MvH w cap base ap i vs ⟨5,G,am,r,ak,aq⟩)(F:0<=ah)(y:0<=S):MvC w O Z m1 e1 cap m3 af base ap i vs ah S an ([eL 5 G ah r 0,eL 4 G (i:Int) S 0,eL 5 G (((vs.length:Nat):Int)+1) r 0,eL 3 G ((vs.length:Nat):Int) (((vs.length:Nat):Int)+2) 0],(((vs.length:Nat):Int)+3)):=by
 exact no_implicit_lambda% qee
variable{w:World}{O Z:Option Addr}{m1 e1 cap m3 af base ap i:Nat}{vs:List Vl}{o G am r ak:Int}{aq:Nat}{ah S an:Int}
theorem KU(H:MvH w cap base ap i vs ⟨7,G,am,r,ak,aq⟩)(F:0<=ah)(y:-1<=S):MvC w O Z m1 e1 cap m3 af base ap i vs ah S an ([eL 3 G am r 0]++(chM G ((vs.length:Nat):Int) ah S (vs.length+1)).1,(chM G ((vs.length:Nat):Int) ah S (vs.length+1)).2):=by
 exact no_implicit_lambda% xap
theorem KV(H:MvH w cap base ap i vs ⟨8,G,am,r,ak,aq⟩)(y:0<=S)(ad:-1<=an):MvC w O Z m1 e1 cap m3 af base ap i vs ah S an (chM G am S an vs.length):=by
 exact no_implicit_lambda% xaw
variable{w:World}{O Z:Option Addr}{m1 e1 cap m3 af base ap i:Nat}{vs:List Vl}{o G am r ak:Int}{aq:Nat}{ah S an:Int}
theorem KY(H:MvH w cap base ap i vs ⟨7,G,am,r,ak,aq⟩)(F:ah<0)(K:-1<=ah)(y:0<=S):MvC w O Z m1 e1 cap m3 af base ap i vs ah S an ([eL 3 G am r 0]++(chM G ((vs.length:Nat):Int) ah S (vs.length+1)).1,(chM G ((vs.length:Nat):Int) ah S (vs.length+1)).2):=by
 exact no_implicit_lambda% xap
theorem KZ(H:MvH w cap base ap i vs ⟨8,G,am,r,ak,aq⟩)(y:S<0)(au:-1<=S)(ad:0<=an):MvC w O Z m1 e1 cap m3 af base ap i vs ah S an (chM G am S an vs.length):=by
 exact no_implicit_lambda% xaw
end
section
theorem NR(w O Z m1 e1 cap m3 af base ap i vs v ah S an)(h:w.ownsRow base 60 6 (hC ap vs.length cap) vs.length (fK vs))(hb:base<=w.heap.size)(hn:vs.length<=800000)(hi:i<vs.length)(aD:At w ap (i*6) v)
  (g:-1<=ah) (K:-1<=S) (p:-1<=an) (ar:¬(ah=-1/\S=-1/\an=-1)) (J:cnt v.op<=2->an=-1) (B:cnt v.op<=1->S=-1):
  Calls prog 165 #[eV O m1 e1 (some ⟨ap,0,none⟩) vs.length cap Z m3 af,hD i,hD ah,hD S,hD an] w λe I=>MvP w O m1 e1 Z m3 af vs base (some ap) (mvM (i:Int) v ah S an vs.length) e I:=by
 obtain⟨o,G,am,r,ak,aq⟩:=v;have H:MvH w _ _ _ i _ _:=⟨h,hb,hn,hi,aD⟩
 have F:∀{v:Vl}{M:List _×Int},MvC w O Z m1 e1 cap m3 af base ap i vs ah S an M->mvM i v ah S an vs.length=M->_:=λh e=>e ▸ h;clear h hb hn hi aD;simp only at B J;have f:∀{x:Int},0<=x->¬x=-1:=λh=>by omega
 have aj:∀{x:Int},-1<=x->¬0<=x->x=-1:=λh k=>by omega
 by_cases bO:o=2
 ·subst bO;have ad:=J xab;by_cases a:0<=ah
  ·by_cases b:0<=S
   ·exact F (KF H a b) (by simp[mvM,yD,f a,f b])
   exact F (KG H a xaa) (by simp[mvM,yD,f a,aj K b])
  have b:0<=S:=xaa;exact F (KH H xaa b) (by simp[mvM,yD,aj g a,f b])
 by_cases a5:o=3
 ·subst a5;have ad:=J xab;by_cases a:0<=ah
  ·by_cases b:0<=S
   ·exact F (KK H a b) (by simp[mvM,yE,f a,f b])
   exact F (KL H a xaa) (by simp[mvM,yE,f a,aj K b])
  have b:0<=S:=xaa;exact F (KM H xaa b) (by simp[mvM,yE,aj g a,f b])
 by_cases n:o=4
 ·subst n;have ad:=J xab;by_cases a:0<=ah
  ·by_cases b:0<=S
   ·exact F (KO H a b) (by simp[mvM,yG,f a,f b])
   exact F (KP H a xaa) (by simp[mvM,yG,f a,aj K b])
  have b:0<=S:=xaa;exact F (KQ H xaa b) (by simp[mvM,yG,aj g a,f b])
 by_cases C:o=5
 ·subst C;have ad:=J xab;by_cases a:0<=ah
  ·by_cases b:0<=S
   ·exact F (KT H a b) (by simp[mvM,yH,f a,f b])
   exact F (KJ H a xaa) (by simp[mvM,yH,f a,aj K b])
  have b:0<=S:=xaa;exact F (KR H xaa b) (by simp[mvM,yH,aj g a,f b])
 by_cases l:o=7
 ·subst l;have ad:=J xab;have e:mvM i ⟨7,G,am,r,ak,aq⟩ ah S an vs.length=([eL 3 G am r 0]++(chM G (vs.length:Nat) ah S (vs.length+1)).1,(chM G (vs.length:Nat) ah S (vs.length+1)).2):=by grind[mvM]
  rw[e];by_cases a:0<=ah
  ·exact KU H a K
  exact KY H xaa g xaa
 by_cases m:o=8
 ·subst m;by_cases b:0<=S
  ·have e:mvM i ⟨8,G,am,r,ak,aq⟩ ah S an vs.length=chM G am S an vs.length:=by grind[mvM]
   rw[e];exact KV H b p
  by_cases c:0<=an
  ·have e:mvM i ⟨8,G,am,r,ak,aq⟩ ah S an vs.length=chM G am S an vs.length:=by grind[mvM]
   rw[e];exact KZ H xaa K c
  have e:mvM i ⟨8,G,am,r,ak,aq⟩ ah S an vs.length=([],-1):=by grind[mvM]
  rw[e];exact KN H xaa xaa
 have aA:cnt o<=1:=by grind[cnt]
 have b:=B aA;have c:=J xaa;have a:0<=ah:=xaa;by_cases j:o=13
 ·subst j;exact F (NQ H a) (by simp[mvM,f a])
 exact F (NP H ⟨bO,a5,n,C,l,m,j⟩ a) (by grind[mvM])
