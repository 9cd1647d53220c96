import Derived.Test.YtkjahdegnkmejaaGreatP31
import Derived.Test.YtkjahdegnkmejaaGreatP34
namespace Go.Proofs.Z
variable{Zp:Prop}
open Tryz Go.RowKit Flt
set_option maxRecDepth 1000000
set_option maxHeartbeats 0
section
attribute[local go_sem] eE eC eB
variable{w0 w aq bU:World}{P n cap i c1 c2 c3:Nat}{a a1 K a3:Option Addr}{bs ins outs:List Int}{vs S:List Vl}
theorem j.qab(h:Zp:=by
 obtain⟨g,ce,aX,_,bx,bf⟩:=gQ HD.o.dg.r2 rfl u;cases aX;exact qda):Zp:=h
theorem j.qdb(h:Zp:=by
 have C:(nv bs i:Int)%12=1:=i4 b.o
 clear b;obtain⟨z,k⟩:∃z,(vd vs j).b=z:=⟨_,rfl⟩
 rw[show(vs.getD j _).b=z from k]at bw;have b9:V _:=k;clear k;have ae:V _:=HD.o.setV (q:=3) (x:=.int _ (IntKind.i64.wrap (z-1))) (v':=⟨(vd _ j).op,(vd _ j).len,(vd _ j).a,IntKind.i64.wrap (z-1),(vd _ j).c,(vd _ j).k⟩) u xab (by rw[<-b9.o];rfl) HK.o;replace ae:V _:=ae.o.keep (eD _);have am:V _:=ae.o.finS (S':=S.set (nv bs _%S.length) ({vd S (nv bs _%S.length) with b:=IntKind.i64.wrap ((vd S (nv bs _%S.length)).b-1)})) (List.length_set ..) (by rw[List.map_set,HSV.o,<-t.o];exact congrArg _ (by rw[<-HSV.o,svd,<-b9.o];rfl));have b5:=af (j*6+3);go_upto_region 9 with fail;exact xbc):Zp:=h
open j in
theorem NQ(f:DG w w0.heap.size (.slice a1 ins.length c1) (.slice K vs.length c2) (.slice a3 outs.length c3) ins vs outs)(X:RdF w P a n cap i bs)(hP:P<w0.heap.size)(bF:Kept P (P+1) w0 w)(aw:vs.map sv=S)(hn:vs.length<=100000)(B:0<S.length)(J:nv bs i%12=1):
  Calls prog 84 #[eX a1 ins.length c1 K vs.length c2 a3 outs.length c3,ge P] w (DgF w0 P a n cap bs ins (S.set (nv bs (ni bs i)%S.length) ({vd S (nv bs (ni bs i)%S.length) with b:=IntKind.i64.wrap ((vd S (nv bs (ni bs i)%S.length)).b-1)})) outs (ni bs (ni bs i))):=by
 exact qaa
theorem k.qab(h:Zp:=by
 obtain⟨g,ce,aX,_,bx,bf⟩:=gQ HD.o.dg.r2 rfl u;cases aX;exact qda):Zp:=h
theorem k.qdb(h:Zp:=by
 have C:(nv bs i:Int)%12=2:=i4 b.o
 clear b;obtain⟨z,k⟩:∃z,(vd vs j).c=z:=⟨_,rfl⟩
 rw[show(vs.getD j _).c=z from k]at b3;have b9:V _:=k;clear k;have ae:V _:=HD.o.setV (q:=4) (x:=.int _ (IntKind.i64.wrap (z+1))) (v':=⟨(vd _ j).op,(vd _ j).len,(vd _ j).a,(vd _ j).b,IntKind.i64.wrap (z+1),(vd _ j).k⟩) u xab (by rw[<-b9.o];rfl) HK.o;replace ae:V _:=ae.o.keep (eD _);have am:V _:=ae.o.finS (S':=S.set (nv bs _%S.length) ({vd S (nv bs _%S.length) with c:=IntKind.i64.wrap ((vd S (nv bs _%S.length)).c+1)})) (List.length_set ..) (by rw[List.map_set,HSV.o,<-t.o];exact congrArg _ (by rw[<-HSV.o,svd,<-b9.o];rfl));have b5:=af (j*6+4);go_upto_region 11 with fail;exact xbc):Zp:=h
open k in
theorem NR(f:DG w w0.heap.size (.slice a1 ins.length c1) (.slice K vs.length c2) (.slice a3 outs.length c3) ins vs outs)(X:RdF w P a n cap i bs)(hP:P<w0.heap.size)(bF:Kept P (P+1) w0 w)(aw:vs.map sv=S)(hn:vs.length<=100000)(B:0<S.length)(J:nv bs i%12=2):
  Calls prog 84 #[eX a1 ins.length c1 K vs.length c2 a3 outs.length c3,ge P] w (DgF w0 P a n cap bs ins (S.set (nv bs (ni bs i)%S.length) ({vd S (nv bs (ni bs i)%S.length) with c:=IntKind.i64.wrap ((vd S (nv bs (ni bs i)%S.length)).c+1)})) outs (ni bs (ni bs i))):=by
 exact qaa
theorem l.qab(h:Zp:=by
 obtain⟨g,ce,aX,_,bx,bf⟩:=gQ HD.o.dg.r2 rfl u;cases aX;exact qda):Zp:=h
theorem l.qdb(h:Zp:=by
 have C:(nv bs i:Int)%12=3:=i4 b.o
 clear b;obtain⟨z,k⟩:∃z,(vd vs j).len=z:=⟨_,rfl⟩
 rw[show(vs.getD j _).len=z from k]at aJ;have b9:V _:=k;clear k;have ae:V _:=HD.o.setV (q:=1) (x:=.int _ (IntKind.i64.wrap (z+1))) (v':=⟨(vd _ j).op,IntKind.i64.wrap (z+1),(vd _ j).a,(vd _ j).b,(vd _ j).c,(vd _ j).k⟩) u xab (by rw[<-b9.o];rfl) HK.o;replace ae:V _:=ae.o.keep (eD _);have am:V _:=ae.o.finS (S':=S.set (nv bs _%S.length) ({vd S (nv bs _%S.length) with len:=IntKind.i64.wrap ((vd S (nv bs _%S.length)).len+1)})) (List.length_set ..) (by rw[List.map_set,HSV.o,<-t.o];exact congrArg _ (by rw[<-HSV.o,svd,<-b9.o];rfl));have b5:=af (j*6+1);go_upto_region 13 with fail;exact xbc):Zp:=h
open l in
theorem NS(f:DG w w0.heap.size (.slice a1 ins.length c1) (.slice K vs.length c2) (.slice a3 outs.length c3) ins vs outs)(X:RdF w P a n cap i bs)(hP:P<w0.heap.size)(bF:Kept P (P+1) w0 w)(aw:vs.map sv=S)(hn:vs.length<=100000)(B:0<S.length)(J:nv bs i%12=3):
  Calls prog 84 #[eX a1 ins.length c1 K vs.length c2 a3 outs.length c3,ge P] w (DgF w0 P a n cap bs ins (S.set (nv bs (ni bs i)%S.length) ({vd S (nv bs (ni bs i)%S.length) with len:=IntKind.i64.wrap ((vd S (nv bs (ni bs i)%S.length)).len+1)})) outs (ni bs (ni bs i))):=by
 exact qaa
def spM(ins:List Int)(S:List Vl)(outs:List Int)(bs:List Int)(i:Nat):List Int×List Vl×List Int:=
 if S.length=0 then (ins,S,outs)
 else if nv bs i%12=0 then (ins,S.set (nv bs (ni bs i)%S.length) {vd S (nv bs (ni bs i)%S.length) with a:=((nv bs (ni bs i)%S.length:Nat):Int)},outs)
 else if nv bs i%12=1 then (ins,S.set (nv bs (ni bs i)%S.length) {vd S (nv bs (ni bs i)%S.length) with b:=IntKind.i64.wrap ((vd S (nv bs (ni bs i)%S.length)).b-1)},outs)
 else if nv bs i%12=2 then (ins,S.set (nv bs (ni bs i)%S.length) {vd S (nv bs (ni bs i)%S.length) with c:=IntKind.i64.wrap ((vd S (nv bs (ni bs i)%S.length)).c+1)},outs)
 else if nv bs i%12=3 then (ins,S.set (nv bs (ni bs i)%S.length) {vd S (nv bs (ni bs i)%S.length) with len:=IntKind.i64.wrap ((vd S (nv bs (ni bs i)%S.length)).len+1)},outs)
 else if nv bs i%12=4 then (ins,S.set (nv bs (ni bs i)%S.length) {vd S (nv bs (ni bs i)%S.length) with op:=(nv bs (ni bs i):Int)%17},outs)
 else if nv bs i%12=5 then (ins,S,outs++[(S.length:Int)-(nv bs (ni bs i):Int)%2])
 else if nv bs i%12=6 then (ins++[(nv bs (ni bs i):Int)%3*500],S,outs)
 else if nv bs i%12=7 then (ins,S,outs++[-1])
 else if nv bs i%12=8 then (ins,S.set (nv bs (ni bs i)%S.length) {vd S (nv bs (ni bs i)%S.length) with k:=fbz 4619567317775286272},outs)
 else if nv bs i%12=9 then (ins,S.set (nv bs (ni bs i)%S.length) {vd S (nv bs (ni bs i)%S.length) with op:=-1},outs)
 else if nv bs i%12=10 then (ins,S,outs++List.replicate (50+nv bs (ni bs i)%2-outs.length) (((nv bs (ni bs i)%S.length:Nat)):Int))
 else (ins++List.replicate (20+nv bs (ni bs i)%2-ins.length) 2,S,outs)
theorem NU(f:DG w w0.heap.size (.slice a1 ins.length c1) (.slice K vs.length c2) (.slice a3 outs.length c3) ins vs outs)(X:RdF w P a n cap i bs)(hP:P<w0.heap.size)(bF:Kept P (P+1) w0 w)(aw:vs.map sv=S)(hn:vs.length<=100000)(hi:ins.length<=1000)(aR:outs.length<=1000):
  Calls prog 84 #[eX a1 ins.length c1 K vs.length c2 a3 outs.length c3,ge P] w (DgF w0 P a n cap bs (spM ins S outs bs i).1 (spM ins S outs bs i).2.1 (spM ins S outs bs i).2.2 (ni bs (ni bs i))):=by
 unfold spM;by_cases aj:S.length=0
 ·rw[iv aj];exact NB f X hP bF aw hn aj
 have B:0<S.length:=xaa;have aH:nv bs i%12<12:=Nat.mod_lt _ xaa;rw[ip aj];by_cases c:nv bs i%12=0
 ·rw[iv c];exact Nu f X hP bF aw hn B c
 rw[ip c];by_cases c:nv bs i%12=1
 ·rw[iv c];exact NQ f X hP bF aw hn B c
 rw[ip c];by_cases c:nv bs i%12=2
 ·rw[iv c];exact NR f X hP bF aw hn B c
 rw[ip c];by_cases c:nv bs i%12=3
 ·rw[iv c];exact NS f X hP bF aw hn B c
 rw[ip c];by_cases c:nv bs i%12=4
 ·rw[iv c];exact Nv f X hP bF aw hn B c
 rw[ip c];by_cases c:nv bs i%12=5
 ·rw[iv c];exact Ny f X hP bF aw hn B aR c
 rw[ip c];by_cases c:nv bs i%12=6
 ·rw[iv c];exact NA f X hP bF aw hn B hi c
 rw[ip c];by_cases c:nv bs i%12=7
 ·rw[iv c];exact Nz f X hP bF aw hn B aR c
 rw[ip c];by_cases c:nv bs i%12=8
 ·rw[iv c];exact Nw f X hP bF aw hn B c
 rw[ip c];by_cases c:nv bs i%12=9
 ·rw[iv c];exact Nx f X hP bF aw hn B c
 rw[ip c];by_cases c:nv bs i%12=10
 ·rw[iv c];exact JX f X hP bF aw hn B aR c
 rw[ip c];exact JY f X hP bF aw hn B hi xaa
theorem Dy.fresh{u1 u2 u3}(au:RB aq w.heap.size iM iM iM)(hP:P<w.heap.size)(ap:Kept P (P+1) w aq)(d:DG bU aq.heap.size u1 u2 u3 ins vs outs)(F:RdF bU P a n cap i bs)(aC:Kept P (P+1) aq bU):
  Dy w (bU.alloc (.cells #[u1,u2,u3] 73)) P a n cap i bs w.heap.size bU.heap.size u1 u2 u3 ins vs outs:=by
 have bj:=eA 0 0 bU (.cells #[u1,u2,u3] 73);have hb:=rZ (S:=λ_=>False) bU _ #[u1,u2,u3] 73 (i3).chg (λc=>c);have B:=au.sz;have N:=aC.size;refine⟨F.keep0 bj,(d.keep bj).mono xaa,⟨hb.2.2,hb.1 0,hb.1 1,hb.1 2,hb.2.1 0,hb.2.1 1,hb.2.1 2⟩,(au.kept aC xaa).keep bj,hP,⟨yad,by omega,by omega⟩,?_,(ap.trans aC).trans (eZ bj)⟩;rintro b (h|h|h)
 ·have:=eF d.r1 h;omega
 ·have:=eF d.r2 h;omega
 have:=eF d.r3 h;omega
theorem DgF.up(au:RB aq w.heap.size iM iM iM)(hP:P<w.heap.size)(ap:Kept P (P+1) w aq)(aw:vs.map sv=S)(d:DG bU aq.heap.size (.slice a1 ins.length c1) (.slice K vs.length c2) (.slice a3 outs.length c3) ins vs outs)(F:RdF bU P a n cap i bs)(aC:Kept P (P+1) aq bU):
  RB bU w.heap.size iM iM iM/\DgF w P a n cap bs ins S outs i (.returned (eX a1 ins.length c1 K vs.length c2 a3 outs.length c3)) (fk bU w.heap.size (.slice a1 ins.length c1) (.slice K vs.length c2) (.slice a3 outs.length c3)):=by
 have al:=fy bU w.heap.size (.slice a1 ins.length c1) (.slice K vs.length c2) (.slice a3 outs.length c3);have B:=au.sz;have N:=ap.size;have h3:=aC.size;refine⟨au.kept aC xaa,_,_,_,_,_,_,_,rfl,aw,(d.kept al xaa).mono xaa,F.keep al (.inl xaa),⟨al.os.trans (aC.os.trans ap.os),al.tape.trans (aC.tape.trans ap.tape),al.output.trans (aC.output.trans ap.output),yao N (yao h3 al.size),λb hb hn=>?_⟩⟩;refine(al.block b xaa xaa).trans ?_;exact(ap.trans aC).block b hb hn
theorem BQ(bs ins m):∀f k S p,(gwL bs ins m f k S p).1.length<=S.length+f
 |0,_,S,_=>by rw[gwL];exact yad
 |f+1,k,S,p=>by
  rw[gwL]
  split
  ·have:=BQ bs ins m f (k+1) (S++[(gwM ins S bs p).1]) (gwM ins S bs p).2
   rw[yal]at this
   simp at this
   omega
  ·simp only;omega
theorem zm(bs i):(dgI bs i).1.length<=3/\(dgG bs i).1.length<=28/\(dgO bs i).1.length<=4:=by
 have B:=lT bs (ni bs i) (nv bs i%4);have N:=BQ bs (dgI bs i).1 (2+nv bs (dgI bs i).2.2%24) (2+nv bs (dgI bs i).2.2%24) 0 (dgI bs i).2.1 (ni bs (dgI bs i).2.2);have h3:=qq bs (dgG bs i).1.length (ni bs (dgG bs i).2) (nv bs (dgG bs i).2%5);have ad:(dgI _ i).1.length=nv _ i%4:=B.1;have be:(dgI _ i).2.1.length=nv _ i%4:=B.2;have ah:(dgO _ i).1.length=nv bs _%5:=h3;have e4:(dgG _ i).1.length<=(dgI _ i).2.1.length+(2+nv bs _%24):=N;omega
def qu(bs:List Int)(i:Nat):List Int×List Vl×List Int×Nat:=
 if nv bs i%40=0 then ([],mK 1 (1999+nv bs (ni bs i)%3),[0],ni bs (ni bs i))
 else if nv bs i%40=1 then (if nv bs (ni bs i)%2=1 then ([],mK 1000 50++[⟨1,1,0,0,0,0⟩],[0],ni bs (ni bs i))else ([],mK 1000 50,[0],ni bs (ni bs i)))
 else if nv bs i%40<8 then ((spM (dgI bs (ni bs i)).1 (dgG bs (ni bs i)).1 (dgO bs (ni bs i)).1 bs (dgO bs (ni bs i)).2).1,(spM (dgI bs (ni bs i)).1 (dgG bs (ni bs i)).1 (dgO bs (ni bs i)).1 bs (dgO bs (ni bs i)).2).2.1,(spM (dgI bs (ni bs i)).1 (dgG bs (ni bs i)).1 (dgO bs (ni bs i)).1 bs (dgO bs (ni bs i)).2).2.2,ni bs (ni bs (dgO bs (ni bs i)).2))
 else ((dgI bs (ni bs i)).1,(dgG bs (ni bs i)).1,(dgO bs (ni bs i)).1,(dgO bs (ni bs i)).2)
abbrev DgT(w:World)(P:Nat)(a:Option Addr)(n cap:Nat)(bs:List Int)(T:List Int×List Vl×List Int×Nat):Ending->World->Prop:=DgF w P a n cap bs T.1 T.2.1 T.2.2.1 T.2.2.2
theorem Qf(X:RdF w P a n cap i bs):
  Calls prog 63 #[ge P] w (DgT w P a n cap bs (qu bs i)):=by
 have aH:=fD X.ys i;have bZ:=fD X.ys (ni bs i);have hP:=X.lt;have bj:=eA 0 0 w fO;have bu:V _:=iD _ P a n _ i _ (X.keep0 bj);have bM:V (∀T,qu _ i=T->∀e O,DgT w P a n cap bs T e _->DgT w P a n _ _ (qu bs i) e O):=λT h e O d=>jn h d
 have x:V _:=bj;clear X bj;go_enter func63,ntmps63;go_wp2_with fail;refine yaj bu.o ?_;rintro e aq ⟨rfl,(cg:V _),ap,cN⟩;have aA:V _:=(eZ x.o).trans ap;have ao:V (RB _ _ iM iM iM):=(iU w).kept ap xaa;clear ap cN x bu;by_cases c0:nv bs i%40=0
 ·have HE:V (qu bs i=([],mK 1 (1999+nv bs (ni bs i)%3),[0],ni bs (ni bs i))):=by show _=_;unfold qu;rw[iv c0]
  have H:(nv bs i:Int)%40=0:=xaa;have aN:1999+(nv bs (ni bs i):Int)%3=(1999+nv bs (ni bs i)%3:Nat):=xaa;have k:1999+nv bs (ni bs i)%3<=3000:=xaa;clear c0;go_wp2_with fail;refine yaj (iD _ _ _ _ _ _ _ cg.o) ?_;rintro e bU ⟨rfl,R2,aC,cb⟩;have bN:V _:=aA.o.trans aC;have y:V _:=ao.o.kept aC xaa;have bF:V _:=LX R2 _ 1 k;clear R2 aC cb;generalize 1999+nv bs _%3=m at aN bF HE k;go_wp2_with fail;refine yaj bF.o ?_;rintro e aM ⟨a1,c1,K,c2,a3,c3,vs,rfl,bc,d,F,a9⟩;obtain⟨hb,(aO:V _)⟩:=DgF.up y.o hP bN.o bc d F a9;obtain⟨_,bo,ar,aQ,bR,bV,bW⟩:=hb;clear bc d F a9;rw[show([]:List _).length=0 from rfl,show([0]:List Int).length=1 from rfl]at aO⊢;go_wp2_with fail;obtain⟨bG,bn,p2⟩:=fd _ _ _ _ _ bo ar aQ (.slice a1 0 c1) (.slice K vs.length c2) (.slice a3 1 c3);exact yaz (v:=eX a1 0 c1 K vs.length c2 a3 1 c3) (by simp[results,results63,go_sem,bG,bn,p2]) rfl (bM.o _ HE.o _ _ aO.o)
 by_cases c1:nv bs i%40=1
 ·have Z:(nv bs i:Int)%40=1:=xaa;have bF:V _:=LX cg.o 50 1000 xaa;have f:V (nv bs _%2=1->qu _ i=([],mK _ _++[⟨1,1,0,0,0,0⟩],[0],ni bs _)):=λh=>by unfold qu;rw[ip c0,iv c1,iv h]
  have aB:V (¬nv bs _%2=1->qu _ i=([],mK _ _,[0],ni bs _)):=λh=>by unfold qu;rw[ip c0,iv c1,ip h]
  clear c0 c1;go_wp2_with fail;refine yaj bF.o ?_;rintro e aM ⟨a1,c1,K,c2,a3,c3,vs,rfl,(HSV:V _),d,F,a9⟩;have HD:V _:=Dy.fresh ao.o hP aA.o d F a9;have cI:vs.length<=100000:=by have aG:=congrArg List.length HSV.o;rw[List.length_map,qT]at aG;omega
  clear d F a9;rw[show([]:List _).length=0 from rfl,show([0]:List Int).length=1 from rfl]at HD⊢;go_wp2_with fail;generalize aM.alloc _=cd at HD⊢;generalize aM.heap.size=Q at HD⊢;refine yaj HD.o.next ?_;rintro e bP ⟨rfl,ag⟩;replace HD:V _:=ag;clear ag;by_cases N:nv bs (ni bs i)%2=1
  ·have da:(nv bs (ni bs i):Int)%2=1:=xaa;have aO:V (∀ch,Kept 0 0 _ ch->_):=λch b6=>HD.o.put b6 (eK 1 1 0 0 0) (Nat.zero_lt_succ _) cI;obtain⟨_,bX,aV,bg,bT,f1,f2⟩:=HD.o.bx;go_upto_region 8 with fail
   go_region_with (first
    |(go_at_call 59;refine yaj (aO.o _ ((eD _).trans a5)) ?_;rintro e an ⟨aI,cap',rfl,aK,ak⟩;obtain⟨_,bo,ar,aQ,bR,bV,bW⟩:=aK)
    |(go_at_call 83;refine yaj (oJ _ _) ?_;rintro e ch ⟨rfl,a5⟩;obtain⟨_,a0,av,aT,_,_,_⟩:=(HD.o.keep ((eD _).trans a5)).bx))
   all_goals
    have g:V _:=ak
    have am:V _:=ak.finS (S':=mK _ _++[⟨1,1,0,0,0,0⟩]) (by rw[yal];rfl) (by rw[List.map_append,HSV.o];rfl)
    clear ak
    go_upto_region 9 with fail
    rw[show((an.setCell _ _).setCell ⟨Q,1,_⟩ _).setCell _ _=fk _ Q _ _ _ from rfl]
    generalize fk _ Q _ _ _=f7 at g am⊢
    obtain⟨_,bm,aW,bd,_,_,_⟩:=g.o.bx
    obtain⟨_,u0,u1,u2,l,q,r⟩:=g.o.rs
    go_wp2_with fail
    obtain⟨bG,bn,p2⟩:=fd _ _ _ _ _ u0 u1 u2 (.slice a1 0 c1) (ia aI (vs.length+1) cap') (.slice a3 1 c3)
    exact yaz (v:=eX a1 0 c1 (some ⟨aI,0,none⟩) (vs.length+1) cap' a3 1 c3) (by simp[results,results63,go_sem,bG,bn,p2]) rfl (bM.o _ (f.o N) _ _ am.o)
  have da:¬(nv bs (ni bs i):Int)%2=1:=xaa;have am:V _:=HD.o.fin HSV.o;obtain⟨_,bm,aW,bd,_,_,_⟩:=HD.o.bx;obtain⟨_,u0,u1,u2,l,q,r⟩:=HD.o.rs;go_wp2_with fail;obtain⟨bG,bn,p2⟩:=fd _ _ _ _ _ u0 u1 u2 (.slice a1 0 c1) (.slice K vs.length c2) (.slice a3 1 c3);exact yaz (v:=eX a1 0 c1 K vs.length c2 a3 1 c3) (by simp[results,results63,go_sem,bG,bn,p2]) rfl (bM.o _ (aB.o N) _ _ am.o)
 have H:¬(nv bs i:Int)%40=0:=xaa;have Z:¬(nv bs i:Int)%40=1:=xaa;have bD:V _:=AP cg.o;have B:V _:=zm bs (ni bs i);have f:V (nv _ i%40<8->qu _ i=((spM _ _ _ _ _).1,(spM _ _ _ _ _).2.1,(spM _ _ _ _ _).2.2,ni bs _)):=λh=>by unfold qu;rw[ip c0,ip c1,iv h]
 have aB:V (¬nv _ i%40<8->qu _ i=((dgI bs _).1,(dgG bs _).1,(dgO bs _).1,(dgO bs _).2)):=λh=>by unfold qu;rw[ip c0,ip c1,ip h]
 clear c0 c1;generalize (dgI bs _).1=bf at bD B f aB;generalize (dgG bs _).1=bl at bD B f aB;generalize dgO bs _=aD at bD B f aB;go_wp2_with fail;refine yaj bD.o ?_;rintro e aM ⟨a1,c1,K,c2,a3,c3,vs,rfl,(HSV:V _),d,F,a9⟩;have HD:V _:=Dy.fresh ao.o hP aA.o d F a9;have cI:vs.length<=100000:=by have aG:=congrArg List.length HSV.o;have:=B.o;rw[List.length_map]at aG;omega
 have bb:=eA 0 0 aM (.cells #[.slice a1 bf.length c1,.slice K vs.length c2,.slice a3 aD.1.length c3] 73);have b:V _:=NU (d.keep bb) (F.keep0 bb) (yak hP aA.o.size) (a9.trans (eZ bb)) HSV.o cI (i4 B.o) (i4 B.o);clear d F a9 bb bD;by_cases Y:nv bs i%40<8
 ·have t:(nv bs i:Int)%40<8:=xaa;obtain⟨_,bm,aW,bd,_,_,_⟩:=HD.o.bx;generalize bh:spM _ _ _ _ _=T at b f;clear bh;go_wp2_with fail;refine yaj b.o ?_;rintro e ch ⟨R,aX,a6,bk,U,ab,us,rfl,j,d,F,b6⟩;obtain⟨hb,(aO:V _)⟩:=DgF.up ao.o hP aA.o j d F b6;obtain⟨_,bo,ar,aQ,bR,bV,bW⟩:=hb;clear j d F b6 bm aW bd;go_wp2_with fail;obtain⟨bG,bn,p2⟩:=fd _ _ _ _ _ bo ar aQ (.slice R T.1.length aX) (.slice a6 us.length bk) (.slice U T.2.2.length ab);exact yaz (v:=eX R T.1.length aX a6 us.length bk U T.2.2.length ab) (by simp[results,results63,go_sem,bG,bn,p2]) rfl (bM.o _ (f.o Y) _ _ aO.o)
 have t:¬(nv bs i:Int)%40<8:=xaa;have am:V _:=HD.o.fin HSV.o;obtain⟨_,bm,aW,bd,_,_,_⟩:=HD.o.bx;obtain⟨_,u0,u1,u2,l,q,r⟩:=HD.o.rs;clear b;go_wp2_with fail;obtain⟨bG,bn,p2⟩:=fd _ _ _ _ _ u0 u1 u2 (.slice a1 bf.length c1) (.slice K vs.length c2) (.slice a3 aD.1.length c3);exact yaz (v:=eX a1 bf.length c1 K vs.length c2 a3 aD.1.length c3) (by simp[results,results63,go_sem,bG,bn,p2]) rfl (bM.o _ (aB.o Y) _ _ am.o)
end
section
variable{ins bs:List Int}{S:List Vl}
def AU(ins:List Int):Prop:=∀k,k<ins.length->1<=ins.getD k 0/\ins.getD k 0<=1000
theorem zn{bs ins}(hi:AU ins)(m):∀f k S p,LenS S->LenS (gwL bs ins m f k S p).1
 |0,_,S,_,h=>by rw[gwL];exact h
 |f+1,k,S,p,h=>by
  rw[gwL]
  split
  ·exact zn hi m f _ _ _ (h.snoc (qp hi h))
  ·exact h
theorem zo(bs i):LenS (dgG bs i).1/\AU (dgI bs i).1:=
 have h:=lK bs (ni bs i) (nv bs i%4)
 ⟨zn h.2 _ _ _ _ _ h.1,h.2⟩
def stM(ins:List Int)(base:Nat)(bs:List Int)(s:List Vl×Nat):List Vl×Nat:=
 let c:=nv bs s.2
 let d:=nv bs (ni bs s.2)
 let j:=ni bs (ni bs s.2)
 let x:=d%s.1.length
 let m:=(vd s.1 x).len
 if c%8=0 then (s.1++[eK 6 m x 0 0],j)
 else if c%8=1 then (s.1++[eK 6 m x 0 0]++[eK 6 m s.1.length 0 0],j)
 else if c%8=2 then (s.1++[vd s.1 x],j)
 else if m=1/\c%8<6 then (s.1++[if c%2=1 then eK ([2,3,4,5,7].getD (c/8%5) 0) 1 x ((base+d/8%6:Nat):Int) 0 else eK ([2,3,4,5,7].getD (c/8%5) 0) 1 ((base+d/8%6:Nat):Int) x 0],j)
 else if c%8=6 then (s.1++[eK 10 2 ((base+d/8%6:Nat):Int) 0 0]++[eK 12 2 ((base+d/4%6:Nat):Int) 0 ((d%2:Nat):Int)],j)
 else (s.1++[(gwM ins s.1 bs j).1],(gwM ins s.1 bs j).2)
def lpM(ins:List Int)(base:Nat)(bs:List Int)(s:List Vl×Nat):Nat->List Vl×Nat
 |0=>s
 |k+1=>if (lpM ins base bs s k).2<bs.length then stM ins base bs (lpM ins base bs s k)else lpM ins base bs s k
def ksM(k:Nat):Nat:=fb (([4607182418800017408,0,9223372036854775808,4611686018427387904,cop .quo 0 0,cop .quo 4607182418800017408 0]:List Nat).getD k 0)
def csM(S:List Vl)(k:Nat):List Vl:=S++(List.range k).map λj=>⟨1,1,0,0,0,ksM j⟩
def rsL(bs:List Int)(i:Nat):List Vl×Nat:=lpM (dgI bs i).1 (dgG bs i).1.length bs (csM (dgG bs i).1 6,(dgO bs i).2) 14
def rsT(bs:List Int)(i:Nat):List Int×List Vl×List Int×Nat:=((dgI bs i).1,(rsL bs i).1,(dgO bs i).1++[((rsL bs i).1.length:Int)-1]++[((rsL bs i).1.length:Int)-2],(rsL bs i).2)
theorem Kk(ins base bs s):(stM ins base bs s).1.length<=s.1.length+2/\s.1.length<=(stM ins base bs s).1.length:=by
 unfold stM;simp only;(repeat' split)<;>simp
theorem AV(ins base bs s):∀k,(lpM ins base bs s k).1.length<=s.1.length+2*k/\s.1.length<=(lpM ins base bs s k).1.length
 |0=>⟨yad,yad⟩
 |k+1=>by
  have h:=AV ins base bs s k
  have g:=Kk ins base bs (lpM ins base bs s k)
  rw[lpM]
  split<;>omega
theorem Kl(ins base bs s){k}(J:k<=14)(h:k=14\/¬(lpM ins base bs s k).2<bs.length):lpM ins base bs s 14=lpM ins base bs s k:=by
 rcases h with rfl|h
 ·rfl
 have:∀m,lpM ins base bs s (k+m)=lpM ins base bs s k:=by
  intro m;induction m with
  |zero=>rfl
  |succ m Z=>rw[<-Nat.add_assoc,lpM,Z,ip h]
 have e:=this (14-k);rwa [Nat.add_sub_cancel' J]at e
theorem zp(S k):csM S (k+1)=csM S k++[⟨1,1,0,0,0,ksM k⟩]:=by rw[csM,csM,List.range_succ,List.map_append,List.append_assoc];rfl
theorem BS{S}(h:LenS S):∀k,LenS (csM S k)
 |0=>by rw[csM];simpa using h
 |k+1=>by rw[zp];exact(BS h k).snoc ⟨show 1<=1 by decide,show 1<=1000 by decide⟩
theorem Km{base s}(hi:AU ins)(h:LenS s.1)(aj:0<s.1.length):LenS (stM ins base bs s).1:=by
 have aH:=h (nv bs (ni bs s.2)%s.1.length) (Nat.mod_lt _ aj);have B:1<=(1:Int)/\(1:Int)<=1000:=xab;have N:1<=(2:Int)/\(2:Int)<=1000:=xab;unfold stM;simp only;(repeat' split)<;>simp only
 ·exact h.snoc aH
 ·exact(h.snoc (v:=eK 6 _ _ 0 0) aH).snoc aH
 ·exact h.snoc aH
 ·exact h.snoc B
 ·exact h.snoc B
 ·exact(h.snoc N).snoc N
 exact h.snoc (qp hi h)
theorem xF{ins bs base s}(hi:AU ins)(h:LenS s.1)(aj:0<s.1.length):∀k,LenS (lpM ins base bs s k).1
 |0=>h
 |k+1=>by
  rw[lpM]
  split
  ·exact Km hi (xF hi h aj k) (yak aj (AV _ _ _ s k).2)
  ·exact xF hi h aj k
theorem tR(vs n fr):∀m k,(lS vs n fr m k=-1/\∀j,j<m->(vd vs ((fr+(k+j))%vs.length)).len≠n)\/∃q,lS vs n fr m k=((q%vs.length:Nat):Int)/\(vd vs (q%vs.length)).len=n
 |0,_=>.inl ⟨rfl,λ_ h=>xaa⟩
 |m+1,k=>by
  rw[lS]
  by_cases c:(vs.getD ((fr+k)%vs.length) i0).len=n
  ·rw[iv c];exact .inr ⟨_,rfl,c⟩
  ·rw[ip c]
   rcases tR vs n fr m (k+1) with⟨B,N⟩|h
   ·refine .inl ⟨B,λj hj=>?_⟩
    rcases j with _|j
    ·exact c
    ·have:=N j xaa
     rwa [show fr+(k+1+j)=fr+(k+(j+1)) by omega]at this
   ·exact .inr h
theorem tS(vs n fr)(aj:0<vs.length):i9 vs n fr=-1/\(∀x,x<vs.length->(vd vs x).len≠n)\/∃q:Nat,i9 vs n fr=(q:Int)/\q<vs.length/\(vd vs q).len=n:=by
 rcases tR vs n fr vs.length 0 with⟨B,N⟩|⟨q,B,N⟩
 ·refine .inl ⟨B,λx aH=>?_⟩;have:=N ((x+(vs.length-fr%vs.length))%vs.length) (Nat.mod_lt _ aj);rw[Nat.zero_add,Nat.add_mod,Nat.mod_mod,<-Nat.add_mod]at this
  have e:(fr+(x+(vs.length-fr%vs.length)))%vs.length=x:=by
   have au:=Nat.mod_lt fr aj;rw[Nat.add_mod,show fr%vs.length=fr%vs.length from rfl,Nat.add_mod x];have:=Nat.mod_add_div fr vs.length;rw[<-Nat.add_mod x,<-Nat.add_mod,show fr+(x+(vs.length-fr%vs.length))=x+vs.length*(fr/vs.length)+vs.length by omega,Nat.add_mod_right,Nat.add_mul_mod_self_left,Nat.mod_eq_of_lt aH]
  rwa [e]at this
 exact .inr ⟨_,B,Nat.mod_lt _ aj,N⟩
theorem BT{c:Nat}{m}(h:(c:Int)<m):gn c m=true:=decide_eq_true ⟨by omega,h⟩
def OkS(ins:List Int)(S:List Vl):Prop:=∀j,j<S.length->okV ins S j=true
theorem OkS.snoc{v}(h:OkS ins S)(aL:okV ins (S++[v]) S.length=true):OkS ins (S++[v]):=λj hj=>by
 rw[yal]at hj
 by_cases c:j<S.length
 ·exact rS c (h j c)
 ·have e:j=S.length:=by simp at hj;omega
  rw[e];exact aL
theorem Gq(ins S n a)(aB:a<ins.length)(hn:ins.getD a 0=n)(ag:1<=n/\n<=1000):okV ins (S++[⟨0,n,a,0,0,0⟩]) S.length=true:=by
 have aL:(S++[(⟨0,n,a,0,0,0⟩:Vl)]).getD S.length i0=⟨0,n,a,0,0,0⟩:=by simp
 simp only[okV,aL,fL,cnt,gH,lenB,gn];simp only[yai]at hn;simp[hn,ag];omega
theorem kx{v}(xs:List Nat)(aj:v.op≠0)(ag:1<=v.len/\v.len<=1000)(aw:fL v=true)(aR:fp v=xs.map (Int.ofNat ·))(aH:∀x∈xs,x<S.length)(d:eV v.op v.len v.c (xs.map λx=>(vd S x).len)=true):okV ins (S++[v]) S.length=true:=by
 refine xv _ _ _ aj ag aw (λo h=>?_) ?_
 ·rw[aR]at h;obtain⟨x,aD,rfl⟩:=List.mem_map.1 h;exact⟨Int.natCast_nonneg _,Int.ofNat_lt.2 (aH x aD)⟩
 rw[aR,List.map_map];exact d
theorem NV{i}(hi:AU ins)(bI:LenS S):okV ins (S++[(gwM ins S bs i).1]) S.length=true:=by
 have aK:=qp (bs:=bs) (i:=i) hi bI;unfold gwM at aK⊢;by_cases aj:nv bs i%16=0\/S.length=0
 ·rw[iv aj]at aK⊢;split at aK
  ·rename_i B;rw[iv B];exact Gq _ _ _ _ (Nat.mod_lt _ B.1) rfl aK
  rename_i B;rw[ip B];exact kx [] (by show(1:Int)≠0;decide) aK rfl rfl xac rfl
 have b:0<S.length:=xaa;rw[ip aj]at aK⊢;generalize aH:nv bs (ni bs i)%S.length=x at aK⊢;have bG:x<S.length:=by rw[<-aH];exact Nat.mod_lt _ b
 have aD:=bI x bG;obtain⟨m,u⟩:∃m,(vd S x).len=m:=⟨_,rfl⟩
 rw[u]at aD aK⊢;have P:∀f,_:=λf=>(tS S m f b).resolve_left λh=>h.2 x bG u;obtain⟨ax,ad,cj,m1⟩:=P (nv bs (ni bs (ni bs i)));obtain⟨aF,be,cw,b6⟩:=P (nv bs (ni bs (ni bs (ni bs i))));have db:=tS S 1 (nv bs (ni bs (ni bs i))) b;rw[ad,be]at aK⊢;have cy:nv bs i%16≠0:=λc=>aj (.inl c);clear P aH aj;have G:=jX aD.1 aD.2;have e:nv bs i%16<16:=Nat.mod_lt _ xaa;generalize nv bs i%16=k at aK e cy⊢;generalize i9 S 1 _=bb at aK db⊢;by_cases aX:k<9
 ·rw[iv aX]at aK⊢;rcases (by omega:k=0\/k=1\/k=2\/k=3\/k=4\/k=5\/k=6\/k=7\/k=8) with rfl|rfl|rfl|rfl|rfl|rfl|rfl|rfl|rfl
  ·exact absurd rfl cy
  all_goals exact kx [x,ax] (by simp[opT]) aK rfl rfl (by simp[bG,cj]) (by simp only[List.map_cons,List.map_nil,u,m1];simp[eV,opT])
 rw[ip aX]at aK⊢;rcases (by omega:k=9\/k=10\/k=11\/k=12\/k=13\/k=14\/k=15) with rfl|rfl|rfl|rfl|rfl|rfl|rfl
 ·exact kx [x] xac aK rfl rfl (by simp[bG]) (by simp only[List.map_cons,List.map_nil,u];simp[eV])
 ·exact kx [x,ax,aF] xac aK rfl rfl (by simp[bG,cj,cw]) (by simp only[List.map_cons,List.map_nil,u,m1,b6];simp[eV])
 ·exact kx [x] xac aK rfl rfl (by simp[bG]) (by simp only[List.map_cons,List.map_nil,u];simp[eV,G])
 ·refine kx [x] xac aK rfl rfl (by simp[bG]) ?_;have h:nv bs (ni bs (ni bs i))%m.toNat<m.toNat:=Nat.mod_lt _ xaa;generalize nv bs (ni bs (ni bs i))%m.toNat=c at h aK⊢;simp only[List.map_cons,List.map_nil,u];simp[eV,G,BT (show(c:Int)<m by omega)]
 ·exact kx [x] xac aK rfl rfl (by simp[bG]) (by simp only[List.map_cons,List.map_nil,u];simp[eV])
 ·rcases db with⟨ah,-⟩|⟨bv,ah,cK,m3⟩
  ·exact xgz
  rw[ah]at aK⊢;have h3:¬(bv:Int)<0:=xaa;simp only[Nat.reduceEqDiff,if_false,ip h3]at aK⊢;exact kx [bv] xac aK rfl rfl (by simp[cK]) (by simp only[List.map_cons,List.map_nil,m3];simp[eV])
 rcases db with⟨ah,-⟩|⟨bv,ah,cK,m3⟩
 ·exact xgz
 rw[ah]at aK⊢;have h3:¬(bv:Int)<0:=xaa;simp only[Nat.reduceEqDiff,if_false,ip h3]at aK⊢;generalize nv bs (ni bs (ni bs (ni bs i)))%4=d at aK⊢;have h:nv bs (ni bs (ni bs (ni bs (ni bs i))))%(1+d)<1+d:=Nat.mod_lt _ xaa;generalize nv bs (ni bs (ni bs (ni bs (ni bs i))))%(1+d)=c at h aK⊢;refine kx [bv] xac aK rfl rfl (by simp[cK]) ?_;simp only[List.map_cons,List.map_nil,m3];simp[eV];exact BT xaa
theorem Gt{bs ins}(hi:AU ins)(m):∀f k S p,OkS ins S->LenS S->OkS ins (gwL bs ins m f k S p).1/\S.length<=(gwL bs ins m f k S p).1.length/\(gwL bs ins m f k S p).1.length<=S.length+f/\(k=0->0<m->0<f->S.length+1<=(gwL bs ins m f k S p).1.length)
 |0,_,S,_,h,_=>by rw[gwL];exact⟨h,yad,yad,λ_ _ c=>by omega⟩
 |f+1,k,S,p,h,ag=>by
  rw[gwL]
  split
  ·obtain⟨B,N,h3,_⟩:=Gt hi m f (k+1) (S++[(gwM ins S bs p).1]) (gwM ins S bs p).2 (h.snoc (NV hi ag)) (ag.snoc (qp hi ag))
   rw[yal]at N h3
   simp only[yaq,List.length_nil]at N h3
   exact⟨B,by omega,by omega,λ_ _ _=>by omega⟩
  ·rename_i c
   exact⟨h,yad,Nat.le_add_right _ _,λa b _=>absurd (show k<m/\(k<3\/p<bs.length) from⟨by omega,.inl xaa⟩) c⟩
theorem BU(bs p):∀k,OkS (hH bs p k).1 (hH bs p k).2.1
 |0=>λk J=>(by cases J)
 |k+1=>by
  have h:=BU bs p k
  have ag:=(lK bs p k).2
  obtain⟨ad,be⟩:=lT bs p k
  have B:=(lK bs p (k+1)).2 k (by rw[(lT bs p (k+1)).1];omega)
  have N:((hH bs p (k+1)).1).getD k 0=((1+nv bs (hH bs p k).2.2%4:Nat):Int):=by
   rw[hH,yai,yas xaa,ad,Nat.sub_self];rfl
  rw[N]at B
  have G:∀x,OkS ((hH bs p k).1++[x]) (hH bs p k).2.1:=λx j hj=>xE x (h j hj)
  have:=(G ((1+nv bs (hH bs p k).2.2%4:Nat):Int)).snoc (v:=⟨0,((1+nv bs (hH bs p k).2.2%4:Nat):Int),(k:Int),0,0,0⟩) (Gq _ _ _ _ (by rw[yal,ad];simp) N B)
  exact this
theorem Db(h:LenS S):eY S<=1000*(S.length:Int):=by
 have:∀k,k<=S.length->eY (S.take k)<=1000*(k:Int):=by
  intro k;induction k with
  |zero=>intro _;simp[eY]
  |succ k Z=>
   intro J;rw[nT xaa];have:(S.getD k i0).len<=1000:=(h k xaa).2;have:=Z xaa;omega
 have:=this S.length yad;rwa [List.take_length]at this
theorem Kn{len}(v)(h:0<len):0<=rL len v/\rL len v<len:=by
 unfold rL;have:=Nat.mod_lt v h;split
 ·split<;>omega
 omega
theorem zt(bs l p):∀k,∀o∈(nD bs l p k).1,∃v,o=rL l v
 |0=>λo h=>by cases h
 |k+1=>λo h=>by
  rw[nD]at h
  rcases List.mem_append.1 h with h|h
  ·exact zt bs l p k o h
  ·exact⟨_,by simpa using h⟩
theorem L7(bs i):okG (dgI bs i).1 (dgG bs i).1 (dgO bs i).1=true:=by
 have b1:=lK bs (ni bs i) (nv bs i%4);have ag:=(lT bs (ni bs i) (nv bs i%4))
 have az:=Gt (bs:=bs) (ins:=(dgI bs i).1) b1.2 (2+nv bs (dgI bs i).2.2%24) (2+nv bs (dgI bs i).2.2%24) 0 (dgI bs i).2.1 (ni bs (dgI bs i).2.2) (BU bs _ _) b1.1;have bI:=(zo bs i).1;have bn:=Db bI;change OkS (dgI bs i).1 (dgG bs i).1/\(dgI bs i).2.1.length<=(dgG bs i).1.length/\(dgG bs i).1.length<=(dgI bs i).2.1.length+_/\_ at az;have ad:(dgI bs i).1.length=nv bs i%4:=ag.1;have be:(dgI bs i).2.1.length=nv bs i%4:=ag.2;obtain⟨ca,a2,aB,cc⟩:=az;have bS:(dgI bs i).2.1.length+1<=(dgG bs i).1.length:=cc rfl xaa xaa;have aR:(dgO bs i).1.length=nv bs (dgG bs i).2%5:=qq _ _ _ _;unfold okG;rw[decide_eq_true xaa,List.all_eq_true.2,List.all_eq_true.2,List.all_eq_true.2,decide_eq_true xaa]
 ·rfl
 ·intro o q;obtain⟨k,rfl⟩:=zt _ _ _ _ o q;exact decide_eq_true (Kn k xaa)
 ·intro j hj;exact ca j (List.mem_range.1 hj)
 intro x aH;obtain⟨k,J,rfl⟩:=List.getElem_of_mem aH;have:1<=(dgI bs i).1.getD k 0/\(dgI bs i).1.getD k 0<=1000:=b1.2 k J;rw[yai,yam J]at this;exact jX this.1 this.2
