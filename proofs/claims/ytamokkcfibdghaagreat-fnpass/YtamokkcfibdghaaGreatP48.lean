import Derived.Test.YtamokkcfibdghaaGreatP47
namespace Go.Proofs.Z
variable {Zp:Prop}
open Tryz Go.RowKit Flt
set_option maxRecDepth 1000000
set_option maxHeartbeats 0
section
attribute [local go_sem] eG eE eD
variable {w0 w aD W2:World}{P n cap i c1 c2 c3:Nat}{a a1 a2 a3:Option Addr}{bs ins outs:List Int}{vs S:List Vl}
theorem j.qab(h:Zp:=by
 obtain⟨g,bR,ag,_,a5,bg⟩:=ie HD.o.dg.r2 rfl h;cases ag;exact qdh):Zp:=h
theorem j.qdi(h:Zp:=by
 have ae:(nv bs i:Int)%12=1:=hR s.o
 clear s;obtain⟨z,x⟩:∃z,(vd vs j).b=z:=⟨_,rfl⟩
 rw[show(vs.getD j hM).b=z from x]at bW;have cd:V _:=x;clear x;have U:V _:=HD.o.setV (q:=3) (x:=hI (IntKind.i64.wrap (z-1))) (v':=⟨(vd vs j).op,(vd vs j).len,(vd vs j).a,IntKind.i64.wrap (z-1),(vd vs j).c,(vd vs j).k⟩) h xab (by rw[<-cd.o];rfl) HK.o;replace U:V _:=U.o.keep (eF _);have av:V _:=U.o.finS (S':=S.set (nv bs (ni bs i)%S.length) ({vd S (nv bs (ni bs i)%S.length) with b:=IntKind.i64.wrap ((vd S (nv bs (ni bs i)%S.length)).b-1)})) (List.length_set ..) (by rw[List.map_set,HSV.o,<-p.o];exact congrArg (S.set j) (by rw[<-HSV.o,svd,<-cd.o];rfl));have bp:=r (j*6+3);go_upto_region 9 with fail;go_region_law (fail)
 all_goals
  generalize (W2.setCell ⟨g,j*6+3,none⟩ (hI (IntKind.i64.wrap (z-1)))).drew=b4 at U av⊢
  obtain⟨_,bj,aQ,a6,_,_,_⟩:=U.o.bx
  obtain⟨_,bn,aC,a0,bq,br,bC⟩:=U.o.rs
  go_wp2_with fail
  obtain⟨bk,a8,p2⟩:=fj _ (w.heap.size+1) _ _ _ bn aC a0 (.slice a1 ins.length c1) (hH g vs.length c2) (.slice a3 outs.length c3)
  exact yay (v:=eZ a1 ins.length c1 (some ⟨g,0,none⟩) vs.length c2 a3 outs.length c3) (by simp[results,results52,go_sem,bk,a8,p2]) rfl av.o):Zp:=h
open j in
theorem Oy(f:DG w w0.heap.size (.slice a1 ins.length c1) (.slice a2 vs.length c2) (.slice a3 outs.length c3) ins vs outs)(C:RdF w P a n cap i bs)(hP:P<w0.heap.size)(H:Kept P (P+1) w0 w)(ad:vs.map sv=S)(hn:vs.length<=100000)(B:0<S.length)(O:nv bs i%12=1):
  Calls prog 52 #[eZ a1 ins.length c1 a2 vs.length c2 a3 outs.length c3,hG P] w (DgF w0 P a n cap bs ins (S.set (nv bs (ni bs i)%S.length) ({vd S (nv bs (ni bs i)%S.length) with b:=IntKind.i64.wrap ((vd S (nv bs (ni bs i)%S.length)).b-1)})) outs (ni bs (ni bs i))):=by
 exact qaa
theorem k.qab(h:Zp:=by
 obtain⟨g,bR,ag,_,a5,bg⟩:=ie HD.o.dg.r2 rfl h;cases ag;exact qdh):Zp:=h
theorem k.qdi(h:Zp:=by
 have ae:(nv bs i:Int)%12=2:=hR s.o
 clear s;obtain⟨z,x⟩:∃z,(vd vs j).c=z:=⟨_,rfl⟩
 rw[show(vs.getD j hM).c=z from x]at b9;have cd:V _:=x;clear x;have U:V _:=HD.o.setV (q:=4) (x:=hI (IntKind.i64.wrap (z+1))) (v':=⟨(vd vs j).op,(vd vs j).len,(vd vs j).a,(vd vs j).b,IntKind.i64.wrap (z+1),(vd vs j).k⟩) h xab (by rw[<-cd.o];rfl) HK.o;replace U:V _:=U.o.keep (eF _);have av:V _:=U.o.finS (S':=S.set (nv bs (ni bs i)%S.length) ({vd S (nv bs (ni bs i)%S.length) with c:=IntKind.i64.wrap ((vd S (nv bs (ni bs i)%S.length)).c+1)})) (List.length_set ..) (by rw[List.map_set,HSV.o,<-p.o];exact congrArg (S.set j) (by rw[<-HSV.o,svd,<-cd.o];rfl));have bp:=r (j*6+4);go_upto_region 11 with fail;go_region_law (fail)
 all_goals
  generalize (W2.setCell ⟨g,j*6+4,none⟩ (hI (IntKind.i64.wrap (z+1)))).drew=b4 at U av⊢
  obtain⟨_,bj,aQ,a6,_,_,_⟩:=U.o.bx
  obtain⟨_,bn,aC,a0,bq,br,bC⟩:=U.o.rs
  go_wp2_with fail
  obtain⟨bk,a8,p2⟩:=fj _ (w.heap.size+1) _ _ _ bn aC a0 (.slice a1 ins.length c1) (hH g vs.length c2) (.slice a3 outs.length c3)
  exact yay (v:=eZ a1 ins.length c1 (some ⟨g,0,none⟩) vs.length c2 a3 outs.length c3) (by simp[results,results52,go_sem,bk,a8,p2]) rfl av.o):Zp:=h
open k in
theorem Oz(f:DG w w0.heap.size (.slice a1 ins.length c1) (.slice a2 vs.length c2) (.slice a3 outs.length c3) ins vs outs)(C:RdF w P a n cap i bs)(hP:P<w0.heap.size)(H:Kept P (P+1) w0 w)(ad:vs.map sv=S)(hn:vs.length<=100000)(B:0<S.length)(O:nv bs i%12=2):
  Calls prog 52 #[eZ a1 ins.length c1 a2 vs.length c2 a3 outs.length c3,hG P] w (DgF w0 P a n cap bs ins (S.set (nv bs (ni bs i)%S.length) ({vd S (nv bs (ni bs i)%S.length) with c:=IntKind.i64.wrap ((vd S (nv bs (ni bs i)%S.length)).c+1)})) outs (ni bs (ni bs i))):=by
 exact qaa
theorem l.qab(h:Zp:=by
 obtain⟨g,bR,ag,_,a5,bg⟩:=ie HD.o.dg.r2 rfl h;cases ag;exact qdh):Zp:=h
theorem l.qdi(h:Zp:=by
 have ae:(nv bs i:Int)%12=3:=hR s.o
 clear s;obtain⟨z,x⟩:∃z,(vd vs j).len=z:=⟨_,rfl⟩
 rw[show(vs.getD j hM).len=z from x]at aU;have cd:V _:=x;clear x;have U:V _:=HD.o.setV (q:=1) (x:=hI (IntKind.i64.wrap (z+1))) (v':=⟨(vd vs j).op,IntKind.i64.wrap (z+1),(vd vs j).a,(vd vs j).b,(vd vs j).c,(vd vs j).k⟩) h xab (by rw[<-cd.o];rfl) HK.o;replace U:V _:=U.o.keep (eF _);have av:V _:=U.o.finS (S':=S.set (nv bs (ni bs i)%S.length) ({vd S (nv bs (ni bs i)%S.length) with len:=IntKind.i64.wrap ((vd S (nv bs (ni bs i)%S.length)).len+1)})) (List.length_set ..) (by rw[List.map_set,HSV.o,<-p.o];exact congrArg (S.set j) (by rw[<-HSV.o,svd,<-cd.o];rfl));have bp:=r (j*6+1);go_upto_region 13 with fail;go_region_law (fail)
 all_goals
  generalize (W2.setCell ⟨g,j*6+1,none⟩ (hI (IntKind.i64.wrap (z+1)))).drew=b4 at U av⊢
  obtain⟨_,bj,aQ,a6,_,_,_⟩:=U.o.bx
  obtain⟨_,bn,aC,a0,bq,br,bC⟩:=U.o.rs
  go_wp2_with fail
  obtain⟨bk,a8,p2⟩:=fj _ (w.heap.size+1) _ _ _ bn aC a0 (.slice a1 ins.length c1) (hH g vs.length c2) (.slice a3 outs.length c3)
  exact yay (v:=eZ a1 ins.length c1 (some ⟨g,0,none⟩) vs.length c2 a3 outs.length c3) (by simp[results,results52,go_sem,bk,a8,p2]) rfl av.o):Zp:=h
open l in
theorem OA(f:DG w w0.heap.size (.slice a1 ins.length c1) (.slice a2 vs.length c2) (.slice a3 outs.length c3) ins vs outs)(C:RdF w P a n cap i bs)(hP:P<w0.heap.size)(H:Kept P (P+1) w0 w)(ad:vs.map sv=S)(hn:vs.length<=100000)(B:0<S.length)(O:nv bs i%12=3):
  Calls prog 52 #[eZ a1 ins.length c1 a2 vs.length c2 a3 outs.length c3,hG P] w (DgF w0 P a n cap bs ins (S.set (nv bs (ni bs i)%S.length) ({vd S (nv bs (ni bs i)%S.length) with len:=IntKind.i64.wrap ((vd S (nv bs (ni bs i)%S.length)).len+1)})) outs (ni bs (ni bs i))):=by
 exact qaa
def spM (ins:List Int)(S:List Vl)(outs:List Int)(bs:List Int)(i:Nat):List Int×List Vl×List Int:=
 if S.length=0 then (ins,S,outs)
 else if nv bs i%12=0 then (ins,S.set (nv bs (ni bs i)%S.length) {vd S (nv bs (ni bs i)%S.length) with a:=((nv bs (ni bs i)%S.length:Nat):Int)},outs)
 else if nv bs i%12=1 then (ins,S.set (nv bs (ni bs i)%S.length) {vd S (nv bs (ni bs i)%S.length) with b:=IntKind.i64.wrap ((vd S (nv bs (ni bs i)%S.length)).b-1)},outs)
 else if nv bs i%12=2 then (ins,S.set (nv bs (ni bs i)%S.length) {vd S (nv bs (ni bs i)%S.length) with c:=IntKind.i64.wrap ((vd S (nv bs (ni bs i)%S.length)).c+1)},outs)
 else if nv bs i%12=3 then (ins,S.set (nv bs (ni bs i)%S.length) {vd S (nv bs (ni bs i)%S.length) with len:=IntKind.i64.wrap ((vd S (nv bs (ni bs i)%S.length)).len+1)},outs)
 else if nv bs i%12=4 then (ins,S.set (nv bs (ni bs i)%S.length) {vd S (nv bs (ni bs i)%S.length) with op:=(nv bs (ni bs i):Int)%17},outs)
 else if nv bs i%12=5 then (ins,S,outs++[(S.length:Int)-(nv bs (ni bs i):Int)%2])
 else if nv bs i%12=6 then (ins++[(nv bs (ni bs i):Int)%3*500],S,outs)
 else if nv bs i%12=7 then (ins,S,outs++[-1])
 else if nv bs i%12=8 then (ins,S.set (nv bs (ni bs i)%S.length) {vd S (nv bs (ni bs i)%S.length) with k:=fbz 4619567317775286272},outs)
 else if nv bs i%12=9 then (ins,S.set (nv bs (ni bs i)%S.length) {vd S (nv bs (ni bs i)%S.length) with op:=-1},outs)
 else if nv bs i%12=10 then (ins,S,outs++List.replicate (50+nv bs (ni bs i)%2-outs.length) (((nv bs (ni bs i)%S.length:Nat)):Int))
 else (ins++List.replicate (20+nv bs (ni bs i)%2-ins.length) 2,S,outs)
theorem OB(f:DG w w0.heap.size (.slice a1 ins.length c1) (.slice a2 vs.length c2) (.slice a3 outs.length c3) ins vs outs)(C:RdF w P a n cap i bs)(hP:P<w0.heap.size)(H:Kept P (P+1) w0 w)(ad:vs.map sv=S)(hn:vs.length<=100000)(hi:ins.length<=1000)(av:outs.length<=1000):
  Calls prog 52 #[eZ a1 ins.length c1 a2 vs.length c2 a3 outs.length c3,hG P] w (DgF w0 P a n cap bs (spM ins S outs bs i).1 (spM ins S outs bs i).2.1 (spM ins S outs bs i).2.2 (ni bs (ni bs i))):=by
 unfold spM;by_cases aj:S.length=0
 ·rw[hK aj];exact Ox f C hP H ad hn aj
 have B:0<S.length:=xaa;have au:nv bs i%12<12:=Nat.mod_lt _ xaa;rw[hJ aj];by_cases c:nv bs i%12=0
 ·rw[hK c];exact On f C hP H ad hn B c
 rw[hJ c];by_cases c:nv bs i%12=1
 ·rw[hK c];exact Oy f C hP H ad hn B c
 rw[hJ c];by_cases c:nv bs i%12=2
 ·rw[hK c];exact Oz f C hP H ad hn B c
 rw[hJ c];by_cases c:nv bs i%12=3
 ·rw[hK c];exact OA f C hP H ad hn B c
 rw[hJ c];by_cases c:nv bs i%12=4
 ·rw[hK c];exact Oo f C hP H ad hn B c
 rw[hJ c];by_cases c:nv bs i%12=5
 ·rw[hK c];exact Ou f C hP H ad hn B av c
 rw[hJ c];by_cases c:nv bs i%12=6
 ·rw[hK c];exact Ow f C hP H ad hn B hi c
 rw[hJ c];by_cases c:nv bs i%12=7
 ·rw[hK c];exact Ov f C hP H ad hn B av c
 rw[hJ c];by_cases c:nv bs i%12=8
 ·rw[hK c];exact Oq f C hP H ad hn B c
 rw[hJ c];by_cases c:nv bs i%12=9
 ·rw[hK c];exact Ot f C hP H ad hn B c
 rw[hJ c];by_cases c:nv bs i%12=10
 ·rw[hK c];exact Lo f C hP H ad hn B av c
 rw[hJ c];exact Lp f C hP H ad hn B hi xaa
theorem Dy.fresh{am al ar}(ay:RB aD w.heap.size iR iR iR)(hP:P<w.heap.size)(an:Kept P (P+1) w aD)(d:DG W2 aD.heap.size am al ar ins vs outs)(Z:RdF W2 P a n cap i bs)(ao:Kept P (P+1) aD W2):
  Dy w (W2.alloc (.cells #[am,al,ar] 26)) P a n cap i bs w.heap.size W2.heap.size am al ar ins vs outs:=by
 have bH:=ez 0 0 W2 (.cells #[am,al,ar] 26);have hb:=sH (S:=λ_=>False) W2 _ #[am,al,ar] 26 (hQ).chg (λc=>c);have B:=ay.sz;have R:=ao.size;refine⟨Z.keep0 bH,(d.keep bH).mono xaa,⟨hb.2.2,hb.1 0,hb.1 1,hb.1 2,hb.2.1 0,hb.2.1 1,hb.2.1 2⟩,(ay.kept ao xaa).keep bH,hP,⟨yad,by omega,by omega⟩,?_,(an.trans ao).trans (fw bH)⟩;rintro b (h|h|h)
 ·have:=eI d.r1 h;omega
 ·have:=eI d.r2 h;omega
 have:=eI d.r3 h;omega
theorem DgF.up(ay:RB aD w.heap.size iR iR iR)(hP:P<w.heap.size)(an:Kept P (P+1) w aD)(ad:vs.map sv=S)(d:DG W2 aD.heap.size (.slice a1 ins.length c1) (.slice a2 vs.length c2) (.slice a3 outs.length c3) ins vs outs)(Z:RdF W2 P a n cap i bs)(ao:Kept P (P+1) aD W2):
  RB W2 w.heap.size iR iR iR/\DgF w P a n cap bs ins S outs i (.returned (eZ a1 ins.length c1 a2 vs.length c2 a3 outs.length c3)) (fB W2 w.heap.size (.slice a1 ins.length c1) (.slice a2 vs.length c2) (.slice a3 outs.length c3)):=by
 have ap:=ft W2 w.heap.size (.slice a1 ins.length c1) (.slice a2 vs.length c2) (.slice a3 outs.length c3);have B:=ay.sz;have R:=an.size;have h3:=ao.size;refine⟨ay.kept ao xaa,a1,c1,a2,c2,a3,c3,vs,rfl,ad,(d.kept ap xaa).mono xaa,Z.keep ap (.inl xaa),⟨ap.os.trans (ao.os.trans an.os),ap.tape.trans (ao.tape.trans an.tape),ap.output.trans (ao.output.trans an.output),yan R (yan h3 ap.size),λb hb hn=>?_⟩⟩;refine(ap.block b xaa xaa).trans ?_;exact(an.trans ao).block b hb hn
theorem CA(bs ins m):∀f k S p,(gwL bs ins m f k S p).1.length<=S.length+f
 |0,_,S,_=>by rw[gwL];exact yad
 |f+1,k,S,p=>by
  rw[gwL]
  split
  ·have:=CA bs ins m f (k+1) (S++[(gwM ins S bs p).1]) (gwM ins S bs p).2
   rw[yak]at this
   simp at this
   omega
  ·simp only;omega
theorem Ap(bs i):(dgI bs i).1.length<=3/\(dgG bs i).1.length<=28/\(dgO bs i).1.length<=4:=by
 have B:=qR bs (ni bs i) (nv bs i%4);have R:=CA bs (dgI bs i).1 (2+nv bs (dgI bs i).2.2%24) (2+nv bs (dgI bs i).2.2%24) 0 (dgI bs i).2.1 (ni bs (dgI bs i).2.2);have h3:=uw bs (dgG bs i).1.length (ni bs (dgG bs i).2) (nv bs (dgG bs i).2%5);have ae:(dgI bs i).1.length=nv bs i%4:=B.1;have a9:(dgI bs i).2.1.length=nv bs i%4:=B.2;have ak:(dgO bs i).1.length=nv bs (dgG bs i).2%5:=h3;have e4:(dgG bs i).1.length<=(dgI bs i).2.1.length+(2+nv bs (dgI bs i).2.2%24):=R;omega
def qS (bs:List Int)(i:Nat):List Int×List Vl×List Int×Nat:=
 if nv bs i%40=0 then ([],mZ 1 (1999+nv bs (ni bs i)%3),[0],ni bs (ni bs i))
 else if nv bs i%40=1 then (if nv bs (ni bs i)%2=1 then ([],mZ 1000 50++[⟨1,1,0,0,0,0⟩],[0],ni bs (ni bs i))else ([],mZ 1000 50,[0],ni bs (ni bs i)))
 else if nv bs i%40<8 then ((spM (dgI bs (ni bs i)).1 (dgG bs (ni bs i)).1 (dgO bs (ni bs i)).1 bs (dgO bs (ni bs i)).2).1,(spM (dgI bs (ni bs i)).1 (dgG bs (ni bs i)).1 (dgO bs (ni bs i)).1 bs (dgO bs (ni bs i)).2).2.1,(spM (dgI bs (ni bs i)).1 (dgG bs (ni bs i)).1 (dgO bs (ni bs i)).1 bs (dgO bs (ni bs i)).2).2.2,ni bs (ni bs (dgO bs (ni bs i)).2))
 else ((dgI bs (ni bs i)).1,(dgG bs (ni bs i)).1,(dgO bs (ni bs i)).1,(dgO bs (ni bs i)).2)
abbrev DgT (w:World)(P:Nat)(a:Option Addr)(n cap:Nat)(bs:List Int)(T:List Int×List Vl×List Int×Nat):Ending->World->Prop:=DgF w P a n cap bs T.1 T.2.1 T.2.2.1 T.2.2.2
theorem Qg(C:RdF w P a n cap i bs):
  Calls prog 28 #[hG P] w (DgT w P a n cap bs (qS bs i)):=by
 have au:=fK C.ys i;have cg:=fK C.ys (ni bs i);have hP:=C.lt;have bH:=ez 0 0 w fp;have bD:V _:=jp _ P a n cap i bs (C.keep0 bH);have bf:V (∀T,qS bs i=T->∀e J,DgT w P a n cap bs T e J->DgT w P a n cap bs (qS bs i) e J):=λT h e J d=>hU h d
 have bo:V _:=bH;clear C bH;go_enter func28,ntmps28;go_wp2_with fail;refine yai bD.o ?_;rintro e aD ⟨rfl,(aK:V _),an,bO⟩;have bW:V (Kept P (P+1) w aD):=(fw bo.o).trans an;have aq:V (RB aD w.heap.size iR iR iR):=(fY w).kept an xaa;clear an bO bo bD;by_cases c0:nv bs i%40=0
 ·have HE:V (qS bs i=([],mZ 1 (1999+nv bs (ni bs i)%3),[0],ni bs (ni bs i))):=by show _=_;unfold qS;rw[hK c0]
  have aa:(nv bs i:Int)%40=0:=xaa;have aV:(1999:Int)+(nv bs (ni bs i):Int)%3=((1999+nv bs (ni bs i)%3:Nat):Int):=xaa;have t:1999+nv bs (ni bs i)%3<=3000:=xaa;clear c0;go_wp2_with fail;refine yai (jp _ _ _ _ _ _ _ aK.o) ?_;rintro e W2 ⟨rfl,R2,ao,b9⟩;have bN:V (Kept P (P+1) w W2):=bW.o.trans ao;have y:V (RB W2 w.heap.size iR iR iR):=aq.o.kept ao xaa;have bx:V _:=L6 R2 (1999+nv bs (ni bs i)%3) 1 t;clear R2 ao b9;generalize 1999+nv bs (ni bs i)%3=m at aV bx HE t;go_wp2_with fail;refine yai bx.o ?_;rintro e aT ⟨a1,c1,a2,c2,a3,c3,vs,rfl,aj,d,Z,aM⟩;obtain⟨hb,(aP:V _)⟩:=DgF.up y.o hP bN.o aj d Z aM;obtain⟨_,bn,aC,a0,bq,br,bC⟩:=hb;clear aj d Z aM;rw[show([]:List Int).length=0 from rfl,show([0]:List Int).length=1 from rfl]at aP⊢;go_wp2_with fail;obtain⟨bk,a8,p2⟩:=fj aT w.heap.size _ _ _ bn aC a0 (.slice a1 0 c1) (.slice a2 vs.length c2) (.slice a3 1 c3);exact yay (v:=eZ a1 0 c1 a2 vs.length c2 a3 1 c3) (by simp[results,results28,go_sem,bk,a8,p2]) rfl (bf.o _ HE.o _ _ aP.o)
 by_cases c1:nv bs i%40=1
 ·have ak:(nv bs i:Int)%40=1:=xaa;have bx:V _:=L6 aK.o 50 1000 xaa;have g:V (nv bs (ni bs i)%2=1->qS bs i=([],mZ 1000 50++[⟨1,1,0,0,0,0⟩],[0],ni bs (ni bs i))):=λh=>by unfold qS;rw[hJ c0,hK c1,hK h]
  have o:V (¬nv bs (ni bs i)%2=1->qS bs i=([],mZ 1000 50,[0],ni bs (ni bs i))):=λh=>by unfold qS;rw[hJ c0,hK c1,hJ h]
  clear c0 c1;go_wp2_with fail;refine yai bx.o ?_;rintro e aT ⟨a1,c1,a2,c2,a3,c3,vs,rfl,(HSV:V _),d,Z,aM⟩;have HD:V _:=Dy.fresh aq.o hP bW.o d Z aM;have cl:vs.length<=100000:=by have bm:=congrArg List.length HSV.o;rw[List.length_map,rR]at bm;omega
  clear d Z aM;rw[show([]:List Int).length=0 from rfl,show([0]:List Int).length=1 from rfl]at HD⊢;go_wp2_with fail;generalize aT.alloc (.cells #[.slice a1 0 c1,.slice a2 vs.length c2,.slice a3 1 c3] 26)=b4 at HD⊢;generalize aT.heap.size=Q at HD⊢;refine yai HD.o.next ?_;rintro e b1 ⟨rfl,ah⟩;replace HD:V _:=ah;clear ah;by_cases R:nv bs (ni bs i)%2=1
  ·have ce:(nv bs (ni bs i):Int)%2=1:=xaa;have aP:V (∀ar,Kept 0 0 b1 ar->_):=λar b6=>HD.o.put b6 (eL 1 1 0 0 0) (Nat.zero_lt_succ _) cl;obtain⟨_,bM,aZ,be,bG,f1,f2⟩:=HD.o.bx;go_upto_region 8 with fail
   go_region_with (first
    |(go_at_call 32;refine yai (aP.o _ ((eF _).trans bc)) ?_;rintro e af ⟨aG,cap',rfl,aB,aX⟩;obtain⟨_,bn,aC,a0,bq,br,bC⟩:=aB)
    |(go_at_call 51;refine yai (oV _ _) ?_;rintro e ar ⟨rfl,bc⟩;obtain⟨_,s0,ax,aN,_,_,_⟩:=(HD.o.keep ((eF _).trans bc)).bx))
   all_goals
    have j:V _:=aX
    have av:V _:=aX.finS (S':=mZ 1000 50++[⟨1,1,0,0,0,0⟩]) (by rw[yak];rfl) (by rw[List.map_append,HSV.o];rfl)
    clear aX
    go_upto_region 9 with fail
    rw[show((af.setCell ⟨Q,0,none⟩ (.slice a1 0 c1)).setCell ⟨Q,1,none⟩ (hH aG (vs.length+1) cap')).setCell ⟨Q,2,none⟩ (.slice a3 1 c3)=fB af Q (.slice a1 0 c1) (hH aG (vs.length+1) cap') (.slice a3 1 c3) from rfl]
    generalize fB af Q (.slice a1 0 c1) (hH aG (vs.length+1) cap') (.slice a3 1 c3)=O at j av⊢
    obtain⟨_,bj,aQ,a6,_,_,_⟩:=j.o.bx
    obtain⟨_,a9,am,al,p,q,r⟩:=j.o.rs
    go_wp2_with fail
    obtain⟨bk,a8,p2⟩:=fj O w.heap.size _ _ _ a9 am al (.slice a1 0 c1) (hH aG (vs.length+1) cap') (.slice a3 1 c3)
    exact yay (v:=eZ a1 0 c1 (some ⟨aG,0,none⟩) (vs.length+1) cap' a3 1 c3) (by simp[results,results28,go_sem,bk,a8,p2]) rfl (bf.o _ (g.o R) _ _ av.o)
  have ce:¬(nv bs (ni bs i):Int)%2=1:=xaa;have av:V _:=HD.o.fin HSV.o;obtain⟨_,bj,aQ,a6,_,_,_⟩:=HD.o.bx;obtain⟨_,a9,am,al,p,q,r⟩:=HD.o.rs;go_wp2_with fail;obtain⟨bk,a8,p2⟩:=fj b1 w.heap.size _ _ _ a9 am al (.slice a1 0 c1) (.slice a2 vs.length c2) (.slice a3 1 c3);exact yay (v:=eZ a1 0 c1 a2 vs.length c2 a3 1 c3) (by simp[results,results28,go_sem,bk,a8,p2]) rfl (bf.o _ (o.o R) _ _ av.o)
 have aa:¬(nv bs i:Int)%40=0:=xaa;have ak:¬(nv bs i:Int)%40=1:=xaa;have a5:V _:=ID aK.o;have ad:V _:=Ap bs (ni bs i);have g:V (nv bs i%40<8->qS bs i=((spM (dgI bs (ni bs i)).1 (dgG bs (ni bs i)).1 (dgO bs (ni bs i)).1 bs (dgO bs (ni bs i)).2).1,(spM (dgI bs (ni bs i)).1 (dgG bs (ni bs i)).1 (dgO bs (ni bs i)).1 bs (dgO bs (ni bs i)).2).2.1,(spM (dgI bs (ni bs i)).1 (dgG bs (ni bs i)).1 (dgO bs (ni bs i)).1 bs (dgO bs (ni bs i)).2).2.2,ni bs (ni bs (dgO bs (ni bs i)).2))):=λh=>by unfold qS;rw[hJ c0,hJ c1,hK h]
 have o:V (¬nv bs i%40<8->qS bs i=((dgI bs (ni bs i)).1,(dgG bs (ni bs i)).1,(dgO bs (ni bs i)).1,(dgO bs (ni bs i)).2)):=λh=>by unfold qS;rw[hJ c0,hJ c1,hJ h]
 clear c0 c1;generalize (dgI bs (ni bs i)).1=ay at a5 ad g o;generalize (dgG bs (ni bs i)).1=aU at a5 ad g o;generalize dgO bs (ni bs i)=Y at a5 ad g o;go_wp2_with fail;refine yai a5.o ?_;rintro e aT ⟨a1,c1,a2,c2,a3,c3,vs,rfl,(HSV:V _),d,Z,aM⟩;have HD:V _:=Dy.fresh aq.o hP bW.o d Z aM;have cl:vs.length<=100000:=by have bm:=congrArg List.length HSV.o;have:=ad.o;rw[List.length_map]at bm;omega
 have F:=ez 0 0 aT (.cells #[.slice a1 ay.length c1,.slice a2 vs.length c2,.slice a3 Y.1.length c3] 26);have f:V _:=OB (w0:=aD) (d.keep F) (Z.keep0 F) (yaj hP bW.o.size) (aM.trans (fw F)) HSV.o cl (hR ad.o) (hR ad.o);clear d Z aM F a5;by_cases B:nv bs i%40<8
 ·have s:(nv bs i:Int)%40<8:=xaa;obtain⟨_,bj,aQ,a6,_,_,_⟩:=HD.o.bx;generalize bi:spM ay aU Y.1 bs Y.2=T at f g;clear bi;go_wp2_with fail;refine yai f.o ?_;rintro e ar ⟨N,d1,aA,d2,ab,d3,us,rfl,l,d,Z,b6⟩;obtain⟨hb,(aP:V _)⟩:=DgF.up aq.o hP bW.o l d Z b6;obtain⟨_,bn,aC,a0,bq,br,bC⟩:=hb;clear l d Z b6 bj aQ a6;go_wp2_with fail;obtain⟨bk,a8,p2⟩:=fj ar w.heap.size _ _ _ bn aC a0 (.slice N T.1.length d1) (.slice aA us.length d2) (.slice ab T.2.2.length d3);exact yay (v:=eZ N T.1.length d1 aA us.length d2 ab T.2.2.length d3) (by simp[results,results28,go_sem,bk,a8,p2]) rfl (bf.o _ (g.o B) _ _ aP.o)
 have s:¬(nv bs i:Int)%40<8:=xaa;have av:V _:=HD.o.fin HSV.o;obtain⟨_,bj,aQ,a6,_,_,_⟩:=HD.o.bx;obtain⟨_,a9,am,al,p,q,r⟩:=HD.o.rs;clear f;go_wp2_with fail;obtain⟨bk,a8,p2⟩:=fj _ w.heap.size _ _ _ a9 am al (.slice a1 ay.length c1) (.slice a2 vs.length c2) (.slice a3 Y.1.length c3);exact yay (v:=eZ a1 ay.length c1 a2 vs.length c2 a3 Y.1.length c3) (by simp[results,results28,go_sem,bk,a8,p2]) rfl (bf.o _ (o.o B) _ _ av.o)
end
section
def IF (ins:List Int):Prop:=∀k,k<ins.length->1<=ins.getD k 0/\ins.getD k 0<=1000
theorem Aq{bs ins}(hi:IF ins)(m):∀f k S p,LenS S->LenS (gwL bs ins m f k S p).1
 |0,_,S,_,h=>by rw[gwL];exact h
 |f+1,k,S,p,h=>by
  rw[gwL]
  split
  ·exact Aq hi m f (k+1) _ _ (h.snoc (yg hi h))
  ·exact h
theorem IG(bs i):LenS (dgG bs i).1/\IF (dgI bs i).1:=
 have h:=rQ bs (ni bs i) (nv bs i%4)
 ⟨Aq h.2 _ _ _ _ _ h.1,h.2⟩
def stM (ins:List Int)(base:Nat)(bs:List Int)(s:List Vl×Nat):List Vl×Nat:=
 let c:=nv bs s.2
 let d:=nv bs (ni bs s.2)
 let j:=ni bs (ni bs s.2)
 let x:=d%s.1.length
 let m:=(vd s.1 x).len
 if c%8=0 then (s.1++[eL 6 m x 0 0],j)
 else if c%8=1 then (s.1++[eL 6 m x 0 0]++[eL 6 m s.1.length 0 0],j)
 else if c%8=2 then (s.1++[vd s.1 x],j)
 else if m=1/\c%8<6 then (s.1++[if c%2=1 then eL ([2,3,4,5,7].getD (c/8%5) 0) 1 x ((base+d/8%6:Nat):Int) 0 else eL ([2,3,4,5,7].getD (c/8%5) 0) 1 ((base+d/8%6:Nat):Int) x 0],j)
 else if c%8=6 then (s.1++[eL 10 2 ((base+d/8%6:Nat):Int) 0 0]++[eL 12 2 ((base+d/4%6:Nat):Int) 0 ((d%2:Nat):Int)],j)
 else (s.1++[(gwM ins s.1 bs j).1],(gwM ins s.1 bs j).2)
def lpM (ins:List Int)(base:Nat)(bs:List Int)(s:List Vl×Nat):Nat->List Vl×Nat
 |0=>s
 |k+1=>if (lpM ins base bs s k).2<bs.length then stM ins base bs (lpM ins base bs s k)else lpM ins base bs s k
def ksM (k:Nat):Nat:=fb (([4607182418800017408,0,9223372036854775808,4611686018427387904,cop .quo 0 0,cop .quo 4607182418800017408 0]:List Nat).getD k 0)
def csM (S:List Vl)(k:Nat):List Vl:=S++(List.range k).map λj=>⟨1,1,0,0,0,ksM j⟩
def rsL (bs:List Int)(i:Nat):List Vl×Nat:=lpM (dgI bs i).1 (dgG bs i).1.length bs (csM (dgG bs i).1 6,(dgO bs i).2) 14
def rsT (bs:List Int)(i:Nat):List Int×List Vl×List Int×Nat:=((dgI bs i).1,(rsL bs i).1,(dgO bs i).1++[((rsL bs i).1.length:Int)-1]++[((rsL bs i).1.length:Int)-2],(rsL bs i).2)
theorem Lq(ins base bs s):(stM ins base bs s).1.length<=s.1.length+2/\s.1.length<=(stM ins base bs s).1.length:=by
 unfold stM;simp only;(repeat' split)<;>simp
theorem BC(ins base bs s):∀k,(lpM ins base bs s k).1.length<=s.1.length+2*k/\s.1.length<=(lpM ins base bs s k).1.length
 |0=>⟨yad,yad⟩
 |k+1=>by
  have h:=BC ins base bs s k
  have g:=Lq ins base bs (lpM ins base bs s k)
  rw[lpM]
  split<;>omega
theorem Lr(ins base bs s){k}(O:k<=14)(h:k=14\/¬(lpM ins base bs s k).2<bs.length):lpM ins base bs s 14=lpM ins base bs s k:=by
 rcases h with rfl|h
 ·rfl
 have:∀m,lpM ins base bs s (k+m)=lpM ins base bs s k:=by
  intro m;induction m with
  |zero=>rfl
  |succ m ag=>rw[<-Nat.add_assoc,lpM,ag,hJ h]
 have e:=this (14-k);rwa [Nat.add_sub_cancel' O]at e
theorem Ar(S k):csM S (k+1)=csM S k++[⟨1,1,0,0,0,ksM k⟩]:=by rw[csM,csM,List.range_succ,List.map_append,List.append_assoc];rfl
theorem CB{S}(h:LenS S):∀k,LenS (csM S k)
 |0=>by rw[csM];simpa using h
 |k+1=>by rw[Ar];exact(CB h k).snoc ⟨show(1:Int)<=1 by decide,show(1:Int)<=1000 by decide⟩
theorem Ls{ins bs base s}(hi:IF ins)(h:LenS s.1)(aj:0<s.1.length):LenS (stM ins base bs s).1:=by
 have au:=h (nv bs (ni bs s.2)%s.1.length) (Nat.mod_lt _ aj);have B:1<=(1:Int)/\(1:Int)<=1000:=xab;have R:1<=(2:Int)/\(2:Int)<=1000:=xab;unfold stM;simp only;(repeat' split)<;>simp only
 ·exact h.snoc (v:=eL 6 _ _ 0 0) au
 ·exact(h.snoc (v:=eL 6 _ _ 0 0) au).snoc (v:=eL 6 _ _ 0 0) au
 ·exact h.snoc au
 ·exact h.snoc B
 ·exact h.snoc B
 ·exact(h.snoc R).snoc R
 exact h.snoc (yg hi h)
theorem yo{ins bs base s}(hi:IF ins)(h:LenS s.1)(aj:0<s.1.length):∀k,LenS (lpM ins base bs s k).1
 |0=>h
 |k+1=>by
  rw[lpM]
  split
  ·exact Ls hi (yo hi h aj k) (yaj aj (BC ins base bs s k).2)
  ·exact yo hi h aj k
