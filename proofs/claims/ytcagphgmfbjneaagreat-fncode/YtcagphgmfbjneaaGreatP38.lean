import Derived.Test.YtcagphgmfbjneaaGreatP37
import Derived.Test.YtcagphgmfbjneaaGreatP27
namespace Go.Proofs.Z
variable{Zp:Prop}
open Tryz Go.RowKit Flt
set_option maxRecDepth 1000000
set_option maxHeartbeats 0
section
attribute[local go_sem] eE eD eC
variable{C w ax bo:World}{P n cap i c1 c2 c3:Nat}{a a1 J a3:Option Addr}{bs ins outs:List Int}{vs S:List Vl}
theorem h.qab(h:Zp:=by
 obtain⟨g,b7,az,_,bC,bw⟩:=gO HD.o.dg.r2 rfl u;cases az;exact qdh):Zp:=h
theorem h.qdi(h:Zp:=by
 have G:(nv bs i:Int)%12=1:=ix b.o
 clear b;obtain⟨z,y⟩:∃z,(vd vs j).b=z:=⟨_,rfl⟩
 rw[show(vs.getD j _).b=z from y]at y3;have HZ:V _:=y;clear y;have au:V _:=HD.o.setV (q:=3) (x:=.int _ (IntKind.i64.wrap (z-1))) (v':=⟨(vd _ j).op,(vd _ j).len,(vd _ j).a,IntKind.i64.wrap (z-1),(vd _ j).c,(vd _ j).k⟩) u xab (by rw[<-HZ.o];rfl) HK.o;replace au:V _:=au.o.keep (eF _);have Y:V _:=au.o.finS (S':=S.set (nv bs _%S.length) ({vd S (nv bs _%S.length) with b:=IntKind.i64.wrap ((vd S (nv bs _%S.length)).b-1)})) (List.length_set ..) (by rw[List.map_set,HSV.o,<-v.o];exact congrArg _ (by rw[<-HSV.o,svd,<-HZ.o];rfl));have a5:=T (j*6+3);go_upto_region 9 with fail;exact xbe):Zp:=h
open h in
theorem OZ(f:DG w C.heap.size (.slice a1 ins.length c1) (.slice J vs.length c2) (.slice a3 outs.length c3) ins vs outs)(K:RdF w P a n cap i bs)(hP:P<C.heap.size)(ad:Kept P (P+1) C w)(aw:vs.map sv=S)(ag:vs.length<=100000)(F:0<S.length)(O:nv bs i%12=1):
  Calls prog 95 #[eX a1 ins.length c1 J vs.length c2 a3 outs.length c3,hZ P] w (DgF C P a n cap bs ins (S.set (nv bs (ni bs i)%S.length) ({vd S (nv bs (ni bs i)%S.length) with b:=IntKind.i64.wrap ((vd S (nv bs (ni bs i)%S.length)).b-1)})) outs (ni bs (ni bs i))):=by
 exact qaa
theorem i.qab(h:Zp:=by
 obtain⟨g,b7,az,_,bC,bw⟩:=gO HD.o.dg.r2 rfl u;cases az;exact qdh):Zp:=h
theorem i.qdi(h:Zp:=by
 have G:(nv bs i:Int)%12=2:=ix b.o
 clear b;obtain⟨z,y⟩:∃z,(vd vs j).c=z:=⟨_,rfl⟩
 rw[show(vs.getD j _).c=z from y]at y4;have HZ:V _:=y;clear y;have au:V _:=HD.o.setV (q:=4) (x:=.int _ (IntKind.i64.wrap (z+1))) (v':=⟨(vd _ j).op,(vd _ j).len,(vd _ j).a,(vd _ j).b,IntKind.i64.wrap (z+1),(vd _ j).k⟩) u xab (by rw[<-HZ.o];rfl) HK.o;replace au:V _:=au.o.keep (eF _);have Y:V _:=au.o.finS (S':=S.set (nv bs _%S.length) ({vd S (nv bs _%S.length) with c:=IntKind.i64.wrap ((vd S (nv bs _%S.length)).c+1)})) (List.length_set ..) (by rw[List.map_set,HSV.o,<-v.o];exact congrArg _ (by rw[<-HSV.o,svd,<-HZ.o];rfl));have a5:=T (j*6+4);go_upto_region 11 with fail;exact xbe):Zp:=h
open i in
theorem O0(f:DG w C.heap.size (.slice a1 ins.length c1) (.slice J vs.length c2) (.slice a3 outs.length c3) ins vs outs)(K:RdF w P a n cap i bs)(hP:P<C.heap.size)(ad:Kept P (P+1) C w)(aw:vs.map sv=S)(ag:vs.length<=100000)(F:0<S.length)(O:nv bs i%12=2):
  Calls prog 95 #[eX a1 ins.length c1 J vs.length c2 a3 outs.length c3,hZ P] w (DgF C P a n cap bs ins (S.set (nv bs (ni bs i)%S.length) ({vd S (nv bs (ni bs i)%S.length) with c:=IntKind.i64.wrap ((vd S (nv bs (ni bs i)%S.length)).c+1)})) outs (ni bs (ni bs i))):=by
 exact qaa
theorem j.qab(h:Zp:=by
 obtain⟨g,b7,az,_,bC,bw⟩:=gO HD.o.dg.r2 rfl u;cases az;exact qdh):Zp:=h
theorem j.qdi(h:Zp:=by
 have G:(nv bs i:Int)%12=3:=ix b.o
 clear b;obtain⟨z,y⟩:∃z,(vd vs j).len=z:=⟨_,rfl⟩
 rw[show(vs.getD j _).len=z from y]at aJ;have HZ:V _:=y;clear y;have au:V _:=HD.o.setV (q:=1) (x:=.int _ (IntKind.i64.wrap (z+1))) (v':=⟨(vd _ j).op,IntKind.i64.wrap (z+1),(vd _ j).a,(vd _ j).b,(vd _ j).c,(vd _ j).k⟩) u xab (by rw[<-HZ.o];rfl) HK.o;replace au:V _:=au.o.keep (eF _);have Y:V _:=au.o.finS (S':=S.set (nv bs _%S.length) ({vd S (nv bs _%S.length) with len:=IntKind.i64.wrap ((vd S (nv bs _%S.length)).len+1)})) (List.length_set ..) (by rw[List.map_set,HSV.o,<-v.o];exact congrArg _ (by rw[<-HSV.o,svd,<-HZ.o];rfl));have a5:=T (j*6+1);go_upto_region 13 with fail;exact xbe):Zp:=h
open j in
theorem O1(f:DG w C.heap.size (.slice a1 ins.length c1) (.slice J vs.length c2) (.slice a3 outs.length c3) ins vs outs)(K:RdF w P a n cap i bs)(hP:P<C.heap.size)(ad:Kept P (P+1) C w)(aw:vs.map sv=S)(ag:vs.length<=100000)(F:0<S.length)(O:nv bs i%12=3):
  Calls prog 95 #[eX a1 ins.length c1 J vs.length c2 a3 outs.length c3,hZ P] w (DgF C P a n cap bs ins (S.set (nv bs (ni bs i)%S.length) ({vd S (nv bs (ni bs i)%S.length) with len:=IntKind.i64.wrap ((vd S (nv bs (ni bs i)%S.length)).len+1)})) outs (ni bs (ni bs i))):=by
 exact qaa
theorem k.qab(h:Zp:=by
 obtain⟨g,b7,az,_,bC,bw⟩:=gO HD.o.dg.r2 rfl u;cases az;exact qdh):Zp:=h
theorem k.qdi(h:Zp:=by
 have G:(nv bs i:Int)%12=10:=ix b.o
 clear b;have x:50+(nv bs (ni bs i):Int)%2=(50+nv bs (ni bs i)%2:Nat):=xaa;have aC:50+nv bs (ni bs i)%2<=60:=xaa;have ab:V (∀(Q:Nat) e B,Q=50+nv _ (ni bs i)%2->DgF C P a n cap _ ins S _ _ e B->DgF _ P a n _ bs _ S (outs++List.replicate (50+nv bs _%2-outs.length) ((((nv bs _%S.length:Nat)):Int))) (ni bs (ni bs i)) e _):=λQ e B Y aO=>by rw[<-Y];rw[<-v.o];exact aO
 generalize y:50+nv bs _%2=k at x aC;have X:V _:=y.symm;clear y;have cM:V _:=x;have HE:V (Dy C bo P a n cap (ni bs (ni bs i)) bs (w.heap.size+1) w.heap.size (.slice a1 ins.length c1) (h0 g vs.length c2) (.slice a3 (outs++List.replicate 0 ((j:Int))).length c3) ins vs (outs++List.replicate 0 ((j:Int)))):=by rw[List.replicate_zero,List.append_nil];exact HD.o
 go_wp2_with fail;rw[show((vs.length:Int)==0)=false from yan xaa];clear aP ay aB HD bh aJ y2 y3 y4 b5 T;go_loopg [] k (λq W=>∃(aj:Nat) (aX:Option Addr) (aK:Nat),aj<=k-outs.length/\k-outs.length-aj<=q/\V (Dy C W P a n cap (ni bs (ni bs i)) bs (w.heap.size+1) w.heap.size (.slice a1 ins.length c1) (h0 g vs.length c2) (.slice aX (outs++List.replicate aj ((j:Int))).length aK) ins vs (outs++List.replicate aj ((j:Int)))))
 case atStart=>grind
 case round=>
  obtain⟨aj,aX,aK,bA,aA,bx⟩:=hrel;clear HE;have ao:V ((outs++List.replicate aj ((j:Int))).length=outs.length+aj):=by show _=_;rw[yal,List.length_replicate]
  have m:=bx.o;have I:V (∃xs,xs=outs++List.replicate aj ((j:Int))):=⟨_,rfl⟩
  exact qfy):Zp:=h
theorem k.qfz(h:Zp:=by
 by_cases hlt:l<k
 ·have N:=HD.o.keep (eA 0 0 _ (.cells #[h1 (j)] 3));have aL:=N.dg.r3;have z:V _:=N;clear N cH;go_upto_region 28 with fail;go_wp2_with (first|(at_builtin;refine fR _ rfl _ _ rfl _ _ _ rfl aL _ (j) rfl xac (ix Z.o) z.o.dg.sz ?_;intro g9 cap9 n9 bn an bU aG bO;obtain⟨aM,(au:V _)⟩:=z.o.outs_ aG bU an bO;replace an:V _:=an;obtain⟨_,bP,aR,bd,bN,f1,f2⟩:=aM));go_roundg (gk-1)
  case measure=>have:=cS.o;omega
  case rel=>
   have:=cS.o;refine⟨aj+1,some ⟨g9,0,none⟩,cap9,by omega,by omega,?_⟩;have e:outs++List.replicate (aj+1) ((j:Int))=xs++[(j:Int)]:=by rw[HX.o,List.append_assoc,List.replicate_succ']
   have ae:=au.o;rw[an.o]at ae⊢;rw[e];exact ae
 have aD:V _:=HD.o.finS rfl HSV.o;have ap:aj=k-outs.length:=xaa;have al:V (xs=outs++List.replicate (k-outs.length) ((j:Int))):=i2 ap HX.o
 obtain⟨_,bq,aq,aT,bR,bS,bT⟩:=HD.o.rs;clear ap cH;go_wp2_with fail;obtain⟨bH,bk,p2⟩:=fd _ _ _ _ _ bq aq aT (.slice a1 ins.length c1) (h0 g vs.length c2) (.slice aX l aK);exact yaz (v:=eX a1 ins.length c1 (some ⟨g,0,none⟩) vs.length c2 aX l aK) (by simp[results,results95,go_sem,bH,bk,p2]) rfl (ab.o k _ _ X.o (i2 al.o aD.o))):Zp:=h
open k in
theorem Ly(f:DG w C.heap.size (.slice a1 ins.length c1) (.slice J vs.length c2) (.slice a3 outs.length c3) ins vs outs)(K:RdF w P a n cap i bs)(hP:P<C.heap.size)(ad:Kept P (P+1) C w)(aw:vs.map sv=S)(ag:vs.length<=100000)(F:0<S.length)(cD:outs.length<=1000)(O:nv bs i%12=10):
  Calls prog 95 #[eX a1 ins.length c1 J vs.length c2 a3 outs.length c3,hZ P] w (DgF C P a n cap bs ins S (outs++List.replicate (50+nv bs (ni bs i)%2-outs.length) ((((nv bs (ni bs i)%S.length:Nat)):Int))) (ni bs (ni bs i))):=by
 exact qaa
theorem l.qab(h:Zp:=by
 obtain⟨g,b7,az,_,bC,bw⟩:=gO HD.o.dg.r2 rfl u;cases az;exact qdh):Zp:=h
theorem l.qdi(h:Zp:=by
 have G:(nv bs i:Int)%12=11:=ix b.o
 clear b;have x:20+(nv bs (ni bs i):Int)%2=(20+nv bs (ni bs i)%2:Nat):=xaa;have aC:20+nv bs (ni bs i)%2<=60:=xaa;have ab:V (∀(Q:Nat) e B,Q=20+nv _ (ni bs i)%2->DgF _ P a n _ bs _ S _ _ e _->DgF C P a n cap _ (ins++List.replicate (20+nv bs _%2-ins.length) (2)) S outs (ni bs (ni bs i)) e B):=λQ e B Y aO=>i2 Y aO
 generalize y:20+nv bs _%2=k at x aC;have X:V _:=y.symm;clear y;have cM:V _:=x;have HE:V (Dy C bo P a n cap (ni bs (ni bs i)) bs (w.heap.size+1) w.heap.size (.slice a1 (ins++List.replicate 0 (2)).length c1) (h0 g vs.length c2) (.slice a3 outs.length c3) (ins++List.replicate 0 (2)) vs outs):=by rw[List.replicate_zero,List.append_nil];exact HD.o
 go_wp2_with fail;rw[show((vs.length:Int)==0)=false from yan xaa];clear aP ay aB HD bh aJ y2 y3 y4 b5 T;go_loopg [] k (λq W=>∃(aj:Nat) (aX:Option Addr) (aK:Nat),aj<=k-ins.length/\k-ins.length-aj<=q/\V (Dy C W P a n cap (ni bs (ni bs i)) bs (w.heap.size+1) w.heap.size (.slice aX (ins++List.replicate aj (2)).length aK) (h0 g vs.length c2) (.slice a3 outs.length c3) (ins++List.replicate aj (2)) vs outs))
 case atStart=>grind
 case round=>
  obtain⟨aj,aX,aK,bA,aA,bx⟩:=hrel;clear HE;have ao:V ((ins++List.replicate aj (2)).length=ins.length+aj):=by show _=_;rw[yal,List.length_replicate]
  have m:=bx.o;have I:V (∃xs,xs=ins++List.replicate aj (2)):=⟨_,rfl⟩
  exact qfy):Zp:=h
theorem l.qfz(h:Zp:=by
 by_cases hlt:l<k
 ·have N:=HD.o.keep (eA 0 0 _ (.cells #[h1 (2)] 3));have aL:=N.dg.r1;have z:V _:=N;clear N cH;go_upto_region 30 with fail;go_wp2_with (first|(at_builtin;refine fR _ rfl _ _ rfl _ _ _ rfl aL _ (2) rfl xac (ix Z.o) z.o.dg.sz ?_;intro g9 cap9 n9 bn an bU aG bO;obtain⟨aM,(au:V _)⟩:=z.o.ins_ aG bU an bO;replace an:V _:=an;obtain⟨_,bP,aR,bd,bN,f1,f2⟩:=aM));go_roundg (gk-1)
  case measure=>have:=cS.o;omega
  case rel=>
   have:=cS.o;refine⟨aj+1,some ⟨g9,0,none⟩,cap9,by omega,by omega,?_⟩;have e:ins++List.replicate (aj+1) (2)=xs++[2]:=by rw[HX.o,List.append_assoc,List.replicate_succ']
   have ae:=au.o;rw[an.o]at ae⊢;rw[e];exact ae
 have aD:V _:=HD.o.finS rfl HSV.o;have ap:aj=k-ins.length:=xaa;have al:V (xs=ins++List.replicate (k-ins.length) (2)):=i2 ap HX.o
 obtain⟨_,bq,aq,aT,bR,bS,bT⟩:=HD.o.rs;clear ap cH;go_wp2_with fail;obtain⟨bH,bk,p2⟩:=fd _ _ _ _ _ bq aq aT (.slice aX l aK) (h0 g vs.length c2) (.slice a3 outs.length c3);exact yaz (v:=eX aX l aK (some ⟨g,0,none⟩) vs.length c2 a3 outs.length c3) (by simp[results,results95,go_sem,bH,bk,p2]) rfl (ab.o k _ _ X.o (i2 al.o aD.o))):Zp:=h
open l in
theorem Lz(f:DG w C.heap.size (.slice a1 ins.length c1) (.slice J vs.length c2) (.slice a3 outs.length c3) ins vs outs)(K:RdF w P a n cap i bs)(hP:P<C.heap.size)(ad:Kept P (P+1) C w)(aw:vs.map sv=S)(ag:vs.length<=100000)(F:0<S.length)(cD:ins.length<=1000)(O:nv bs i%12=11):
  Calls prog 95 #[eX a1 ins.length c1 J vs.length c2 a3 outs.length c3,hZ P] w (DgF C P a n cap bs (ins++List.replicate (20+nv bs (ni bs i)%2-ins.length) (2)) S outs (ni bs (ni bs i))):=by
 exact qaa
def spM(ins:List Int)(S:List Vl)(outs:List Int)(bs:List Int)(i:Nat):List Int×List Vl×List Int:=
 if S.length=0 then (ins,S,outs)
 else if nv bs i%12=0 then (ins,S.set (nv bs (ni bs i)%S.length) {vd S (nv bs (ni bs i)%S.length) with a:=((nv bs (ni bs i)%S.length:Nat):Int)},outs)
 else if nv bs i%12=1 then (ins,S.set (nv bs (ni bs i)%S.length) {vd S (nv bs (ni bs i)%S.length) with b:=IntKind.i64.wrap ((vd S (nv bs (ni bs i)%S.length)).b-1)},outs)
 else if nv bs i%12=2 then (ins,S.set (nv bs (ni bs i)%S.length) {vd S (nv bs (ni bs i)%S.length) with c:=IntKind.i64.wrap ((vd S (nv bs (ni bs i)%S.length)).c+1)},outs)
 else if nv bs i%12=3 then (ins,S.set (nv bs (ni bs i)%S.length) {vd S (nv bs (ni bs i)%S.length) with len:=IntKind.i64.wrap ((vd S (nv bs (ni bs i)%S.length)).len+1)},outs)
 else if nv bs i%12=4 then (ins,S.set (nv bs (ni bs i)%S.length) {vd S (nv bs (ni bs i)%S.length) with op:=(nv bs (ni bs i):Int)%17},outs)
 else if nv bs i%12=5 then (ins,S,outs++[(S.length:Int)-(nv bs (ni bs i):Int)%2])
 else if nv bs i%12=6 then (ins++[(nv bs (ni bs i):Int)%3*500],S,outs)
 else if nv bs i%12=7 then (ins,S,outs++[-1])
 else if nv bs i%12=8 then (ins,S.set (nv bs (ni bs i)%S.length) {vd S (nv bs (ni bs i)%S.length) with k:=fbz 4619567317775286272},outs)
 else if nv bs i%12=9 then (ins,S.set (nv bs (ni bs i)%S.length) {vd S (nv bs (ni bs i)%S.length) with op:=-1},outs)
 else if nv bs i%12=10 then (ins,S,outs++List.replicate (50+nv bs (ni bs i)%2-outs.length) (((nv bs (ni bs i)%S.length:Nat)):Int))
 else (ins++List.replicate (20+nv bs (ni bs i)%2-ins.length) 2,S,outs)
theorem O2(f:DG w C.heap.size (.slice a1 ins.length c1) (.slice J vs.length c2) (.slice a3 outs.length c3) ins vs outs)(K:RdF w P a n cap i bs)(hP:P<C.heap.size)(ad:Kept P (P+1) C w)(aw:vs.map sv=S)(ag:vs.length<=100000)(hi:ins.length<=1000)(ho:outs.length<=1000):
  Calls prog 95 #[eX a1 ins.length c1 J vs.length c2 a3 outs.length c3,hZ P] w (DgF C P a n cap bs (spM ins S outs bs i).1 (spM ins S outs bs i).2.1 (spM ins S outs bs i).2.2 (ni bs (ni bs i))):=by
 unfold spM;by_cases ak:S.length=0
 ·rw[h7 ak];exact OY f K hP ad aw ag ak
 have F:0<S.length:=xaa;have ap:nv bs i%12<12:=Nat.mod_lt _ xaa;rw[h6 ak];by_cases c:nv bs i%12=0
 ·rw[h7 c];exact OP f K hP ad aw ag F c
 rw[h6 c];by_cases c:nv bs i%12=1
 ·rw[h7 c];exact OZ f K hP ad aw ag F c
 rw[h6 c];by_cases c:nv bs i%12=2
 ·rw[h7 c];exact O0 f K hP ad aw ag F c
 rw[h6 c];by_cases c:nv bs i%12=3
 ·rw[h7 c];exact O1 f K hP ad aw ag F c
 rw[h6 c];by_cases c:nv bs i%12=4
 ·rw[h7 c];exact OQ f K hP ad aw ag F c
 rw[h6 c];by_cases c:nv bs i%12=5
 ·rw[h7 c];exact OV f K hP ad aw ag F ho c
 rw[h6 c];by_cases c:nv bs i%12=6
 ·rw[h7 c];exact OX f K hP ad aw ag F hi c
 rw[h6 c];by_cases c:nv bs i%12=7
 ·rw[h7 c];exact OW f K hP ad aw ag F ho c
 rw[h6 c];by_cases c:nv bs i%12=8
 ·rw[h7 c];exact OT f K hP ad aw ag F c
 rw[h6 c];by_cases c:nv bs i%12=9
 ·rw[h7 c];exact OU f K hP ad aw ag F c
 rw[h6 c];by_cases c:nv bs i%12=10
 ·rw[h7 c];exact Ly f K hP ad aw ag F ho c
 rw[h6 c];exact Lz f K hP ad aw ag F hi xaa
theorem Dy.fresh{u1 u2 u3}(aF:RB ax w.heap.size iR iR iR)(hP:P<w.heap.size)(an:Kept P (P+1) w ax)(d:DG bo ax.heap.size u1 u2 u3 ins vs outs)(az:RdF bo P a n cap i bs)(av:Kept P (P+1) ax bo):
  Dy w (bo.alloc (.cells #[u1,u2,u3] 108)) P a n cap i bs w.heap.size bo.heap.size u1 u2 u3 ins vs outs:=by
 have bj:=eA 0 0 bo (.cells #[u1,u2,u3] 108);have hb:=sZ (S:=λ_=>False) bo _ #[u1,u2,u3] 108 (iv).chg (λc=>c);have F:=aF.sz;have h2:=av.size;refine⟨az.keep0 bj,(d.keep bj).mono xaa,⟨hb.2.2,hb.1 0,hb.1 1,hb.1 2,hb.2.1 0,hb.2.1 1,hb.2.1 2⟩,(aF.kept av xaa).keep bj,hP,⟨yad,by omega,by omega⟩,?_,(an.trans av).trans (e8 bj)⟩;rintro b (h|h|h)
 ·have:=eG d.r1 h;omega
 ·have:=eG d.r2 h;omega
 have:=eG d.r3 h;omega
theorem DgF.up(aF:RB ax w.heap.size iR iR iR)(hP:P<w.heap.size)(an:Kept P (P+1) w ax)(aw:vs.map sv=S)(d:DG bo ax.heap.size (.slice a1 ins.length c1) (.slice J vs.length c2) (.slice a3 outs.length c3) ins vs outs)(az:RdF bo P a n cap i bs)(av:Kept P (P+1) ax bo):
  RB bo w.heap.size iR iR iR/\DgF w P a n cap bs ins S outs i (.returned (eX a1 ins.length c1 J vs.length c2 a3 outs.length c3)) (fg bo w.heap.size (.slice a1 ins.length c1) (.slice J vs.length c2) (.slice a3 outs.length c3)):=by
 have aj:=fk bo w.heap.size (.slice a1 ins.length c1) (.slice J vs.length c2) (.slice a3 outs.length c3);have F:=aF.sz;have h2:=an.size;have h3:=av.size;refine⟨aF.kept av xaa,_,_,_,_,_,_,_,rfl,aw,(d.kept aj xaa).mono xaa,az.keep aj (.inl xaa),⟨aj.os.trans (av.os.trans an.os),aj.tape.trans (av.tape.trans an.tape),aj.output.trans (av.output.trans an.output),yao h2 (yao h3 aj.size),λb hb ag=>?_⟩⟩;refine(aj.block b xaa xaa).trans ?_;exact(an.trans av).block b hb ag
theorem CW(bs ins m):∀f k S p,(gwL bs ins m f k S p).1.length<=S.length+f
 |0,_,S,_=>by rw[gwL];grind
 |f+1,k,S,p=>by
  rw[gwL]
  split
  ·have:=CW bs ins m f (k+1) (S++[(gwM ins S bs p).1]) (gwM ins S bs p).2
   grind
  grind
theorem AD(bs i):(dgI bs i).1.length<=3/\(dgG bs i).1.length<=28/\(dgO bs i).1.length<=4:=by
 grind[ms,CW,dgI,re,dgG,dgO]
def rg(bs:List Int)(i:Nat):List Int×List Vl×List Int×Nat:=
 if nv bs i%40=0 then ([],mV 1 (1999+nv bs (ni bs i)%3),[0],ni bs (ni bs i))
 else if nv bs i%40=1 then (if nv bs (ni bs i)%2=1 then ([],mV 1000 50++[⟨1,1,0,0,0,0⟩],[0],ni bs (ni bs i))else ([],mV 1000 50,[0],ni bs (ni bs i)))
 else if nv bs i%40<8 then ((spM (dgI bs (ni bs i)).1 (dgG bs (ni bs i)).1 (dgO bs (ni bs i)).1 bs (dgO bs (ni bs i)).2).1,(spM (dgI bs (ni bs i)).1 (dgG bs (ni bs i)).1 (dgO bs (ni bs i)).1 bs (dgO bs (ni bs i)).2).2.1,(spM (dgI bs (ni bs i)).1 (dgG bs (ni bs i)).1 (dgO bs (ni bs i)).1 bs (dgO bs (ni bs i)).2).2.2,ni bs (ni bs (dgO bs (ni bs i)).2))
 else ((dgI bs (ni bs i)).1,(dgG bs (ni bs i)).1,(dgO bs (ni bs i)).1,(dgO bs (ni bs i)).2)
abbrev DgT(w:World)(P:Nat)(a:Option Addr)(n cap:Nat)(bs:List Int)(T:List Int×List Vl×List Int×Nat):Ending->World->Prop:=DgF w P a n cap bs T.1 T.2.1 T.2.2.1 T.2.2.2
theorem Re(K:RdF w P a n cap i bs):
  Calls prog 82 #[hZ P] w (DgT w P a n cap bs (rg bs i)):=by
 have ap:=fp K.ys i;have cj:=fp K.ys (ni bs i);have hP:=K.lt;have bj:=eA 0 0 w fH;have HN:V _:=iw _ P a n _ i _ (K.keep0 bj);have bO:V (∀T,rg _ i=T->∀e B,DgT w P a n cap bs T e _->DgT w P a n _ _ (rg bs i) e B):=λT h e B d=>i1 h d
 have x:V _:=bj;clear K bj;go_enter func82,ntmps82;go_wp2_with fail;refine yaj HN.o ?_;rintro e ax ⟨rfl,(bK:V _),an,cW⟩;have bZ:V _:=(e8 x.o).trans an;have Z:V (RB _ _ iR iR iR):=(iW w).kept an xaa;clear an cW x HN;by_cases c0:nv bs i%40=0
 ·have HE:V (rg bs i=([],mV 1 (1999+nv bs (ni bs i)%3),[0],ni bs (ni bs i))):=by show _=_;unfold rg;grind
  have ak:(nv bs i:Int)%40=0:=xaa;have aO:1999+(nv bs (ni bs i):Int)%3=(1999+nv bs (ni bs i)%3:Nat):=xaa;have r:1999+nv bs (ni bs i)%3<=3000:=xaa;clear c0;go_wp2_with fail;refine yaj (iw _ _ _ _ _ _ _ bK.o) ?_;rintro e bo ⟨rfl,R2,av,bJ⟩;have bQ:V _:=bZ.o.trans av;have y:V _:=Z.o.kept av xaa;have bE:V _:=Nc R2 _ 1 r;clear R2 av bJ;generalize 1999+nv bs _%3=m at aO bE HE r;go_wp2_with fail;refine yaj bE.o ?_;rintro e aU ⟨a1,c1,J,c2,a3,c3,vs,rfl,aw,d,az,aZ⟩;obtain⟨hb,(aD:V _)⟩:=DgF.up y.o hP bQ.o aw d az aZ;obtain⟨_,bq,aq,aT,bR,bS,bT⟩:=hb;clear aw d az aZ;rw[show([]:List _).length=0 from rfl,show([0]:List Int).length=1 from rfl]at aD⊢;go_wp2_with fail;obtain⟨bH,bk,p2⟩:=fd _ _ _ _ _ bq aq aT (.slice a1 0 c1) (.slice J vs.length c2) (.slice a3 1 c3);exact yaz (v:=eX a1 0 c1 J vs.length c2 a3 1 c3) (by simp[results,results82,go_sem,bH,bk,p2]) rfl (bO.o _ HE.o _ _ aD.o)
 by_cases c1:nv bs i%40=1
 ·have G:(nv bs i:Int)%40=1:=xaa;have bE:V _:=Nc bK.o 50 1000 xaa;have f:V (nv bs _%2=1->rg _ i=([],mV _ _++[⟨1,1,0,0,0,0⟩],[0],ni bs _)):=λh=>by unfold rg;rw[h6 c0,h7 c1,h7 h]
  have a6:V (¬nv bs _%2=1->rg _ i=([],mV _ _,[0],ni bs _)):=λh=>by unfold rg;rw[h6 c0,h7 c1,h6 h]
  clear c0 c1;go_wp2_with fail;refine yaj bE.o ?_;rintro e aU ⟨a1,c1,J,c2,a3,c3,vs,rfl,(HSV:V _),d,az,aZ⟩;have HD:V _:=Dy.fresh Z.o hP bZ.o d az aZ;have cr:vs.length<=100000:=by have:=HSV.o;grind[rP]
  clear d az aZ;rw[show([]:List _).length=0 from rfl,show([0]:List Int).length=1 from rfl]at HD⊢;go_wp2_with fail;generalize aU.alloc _=cc at HD⊢;generalize aU.heap.size=Q at HD⊢;refine yaj HD.o.next ?_;rintro e ca ⟨rfl,ab⟩;replace HD:V _:=ab;clear ab;by_cases h2:nv bs (ni bs i)%2=1
  ·have cC:(nv bs (ni bs i):Int)%2=1:=xaa;have aD:V (∀a7,Kept 0 0 _ a7->_):=λa7 bY=>HD.o.put bY (eJ 1 1 0 0 0) (Nat.zero_lt_succ _) cr;obtain⟨_,bP,aR,bd,bN,f1,f2⟩:=HD.o.bx;go_upto_region 8 with fail
   go_region_with (first
    |(go_at_call 78;refine yaj (aD.o _ ((eF _).trans a2)) ?_;rintro e am ⟨aC,cap',rfl,a0,aH⟩;obtain⟨_,bq,aq,aT,bR,bS,bT⟩:=a0)
    |(go_at_call 94;refine yaj (pt _ _) ?_;rintro e a7 ⟨rfl,a2⟩;obtain⟨_,aY,ar,aW,_,_,_⟩:=(HD.o.keep ((eF _).trans a2)).bx))
   all_goals
    have g:V _:=aH
    have Y:V _:=aH.finS (S':=mV _ _++[⟨1,1,0,0,0,0⟩]) (by rw[yal];rfl) (by rw[List.map_append,HSV.o];rfl)
    clear aH
    go_upto_region 9 with fail
    rw[show((am.setCell _ _).setCell ⟨Q,1,_⟩ _).setCell _ _=fg _ Q _ _ _ from rfl]
    generalize fg _ Q _ _ _=b6 at g Y⊢
    obtain⟨_,bl,aS,a9,_,_,_⟩:=g.o.bx
    obtain⟨_,u0,u1,u2,k,l,t⟩:=g.o.rs
    go_wp2_with fail
    obtain⟨bH,bk,p2⟩:=fd _ _ _ _ _ u0 u1 u2 (.slice a1 0 c1) (h0 aC (vs.length+1) cap') (.slice a3 1 c3)
    exact yaz (v:=eX a1 0 c1 (some ⟨aC,0,none⟩) (vs.length+1) cap' a3 1 c3) (by simp[results,results82,go_sem,bH,bk,p2]) rfl (bO.o _ (f.o h2) _ _ Y.o)
  have cC:¬(nv bs (ni bs i):Int)%2=1:=xaa;have Y:V _:=HD.o.fin HSV.o;obtain⟨_,bl,aS,a9,_,_,_⟩:=HD.o.bx;obtain⟨_,u0,u1,u2,k,l,t⟩:=HD.o.rs;go_wp2_with fail;obtain⟨bH,bk,p2⟩:=fd _ _ _ _ _ u0 u1 u2 (.slice a1 0 c1) (.slice J vs.length c2) (.slice a3 1 c3);exact yaz (v:=eX a1 0 c1 J vs.length c2 a3 1 c3) (by simp[results,results82,go_sem,bH,bk,p2]) rfl (bO.o _ (a6.o h2) _ _ Y.o)
 have ak:¬(nv bs i:Int)%40=0:=xaa;have G:¬(nv bs i:Int)%40=1:=xaa;have bv:V _:=BN bK.o;have F:V _:=AD bs (ni bs i);have f:V (nv _ i%40<8->rg _ i=((spM _ _ _ _ _).1,(spM _ _ _ _ _).2.1,(spM _ _ _ _ _).2.2,ni bs _)):=λh=>by unfold rg;rw[h6 c0,h6 c1,h7 h]
 have a6:V (¬nv _ i%40<8->rg _ i=((dgI bs _).1,(dgG bs _).1,(dgO bs _).1,(dgO bs _).2)):=λh=>by unfold rg;rw[h6 c0,h6 c1,h6 h]
 clear c0 c1;generalize (dgI bs _).1=af at bv F f a6;generalize (dgG bs _).1=ah at bv F f a6;generalize dgO bs _=H at bv F f a6;go_wp2_with fail;refine yaj bv.o ?_;rintro e aU ⟨a1,c1,J,c2,a3,c3,vs,rfl,(HSV:V _),d,az,aZ⟩;have HD:V _:=Dy.fresh Z.o hP bZ.o d az aZ;have cr:vs.length<=100000:=by have ae:=congrArg List.length HSV.o;have:=F.o;rw[List.length_map]at ae;omega
 have aj:=eA 0 0 aU (.cells #[.slice a1 af.length c1,.slice J vs.length c2,.slice a3 H.1.length c3] 108);have b:V _:=O2 (d.keep aj) (az.keep0 aj) (yak hP bZ.o.size) (aZ.trans (e8 aj)) HSV.o cr (ix F.o) (ix F.o);clear d az aZ aj bv;by_cases b2:nv bs i%40<8
 ·have u:(nv bs i:Int)%40<8:=xaa;obtain⟨_,bl,aS,a9,_,_,_⟩:=HD.o.bx;generalize bm:spM _ _ _ _ _=T at b f;clear bm;go_wp2_with fail;refine yaj b.o ?_;rintro e a7 ⟨U,aM,aV,bi,aa,aI,us,rfl,j,d,az,bY⟩;obtain⟨hb,(aD:V _)⟩:=DgF.up Z.o hP bZ.o j d az bY;obtain⟨_,bq,aq,aT,bR,bS,bT⟩:=hb;clear j d az bY bl aS a9;go_wp2_with fail;obtain⟨bH,bk,p2⟩:=fd _ _ _ _ _ bq aq aT (.slice U T.1.length aM) (.slice aV us.length bi) (.slice aa T.2.2.length aI);exact yaz (v:=eX U T.1.length aM aV us.length bi aa T.2.2.length aI) (by simp[results,results82,go_sem,bH,bk,p2]) rfl (bO.o _ (f.o b2) _ _ aD.o)
 have u:¬(nv bs i:Int)%40<8:=xaa;have Y:V _:=HD.o.fin HSV.o;obtain⟨_,bl,aS,a9,_,_,_⟩:=HD.o.bx;obtain⟨_,u0,u1,u2,k,l,t⟩:=HD.o.rs;clear b;go_wp2_with fail;obtain⟨bH,bk,p2⟩:=fd _ _ _ _ _ u0 u1 u2 (.slice a1 af.length c1) (.slice J vs.length c2) (.slice a3 H.1.length c3);exact yaz (v:=eX a1 af.length c1 J vs.length c2 a3 H.1.length c3) (by simp[results,results82,go_sem,bH,bk,p2]) rfl (bO.o _ (a6.o b2) _ _ Y.o)
end
section
variable{ins bs:List Int}{S:List Vl}
def BP(ins:List Int):Prop:=∀k,k<ins.length->1<=ins.getD k 0/\ins.getD k 0<=1000
theorem AE{bs ins}(hi:BP ins)(m):∀f k S p,LenS S->LenS (gwL bs ins m f k S p).1
 |0,_,S,_,h=>by rw[gwL];exact h
 |f+1,k,S,p,h=>by
  rw[gwL]
  split
  ·exact AE hi m f _ _ _ (h.snoc (qZ hi h))
  ·exact h
theorem AF(bs i):LenS (dgG bs i).1/\BP (dgI bs i).1:=
 have h:=lW bs (ni bs i) (nv bs i%4)
 ⟨AE h.2 _ _ _ _ _ h.1,h.2⟩
def stM(ins:List Int)(base:Nat)(bs:List Int)(s:List Vl×Nat):List Vl×Nat:=
 let c:=nv bs s.2
 let d:=nv bs (ni bs s.2)
 let j:=ni bs (ni bs s.2)
 let x:=d%s.1.length
 let m:=(vd s.1 x).len
 if c%8=0 then (s.1++[eJ 6 m x 0 0],j)
 else if c%8=1 then (s.1++[eJ 6 m x 0 0]++[eJ 6 m s.1.length 0 0],j)
 else if c%8=2 then (s.1++[vd s.1 x],j)
 else if m=1/\c%8<6 then (s.1++[if c%2=1 then eJ ([2,3,4,5,7].getD (c/8%5) 0) 1 x ((base+d/8%6:Nat):Int) 0 else eJ ([2,3,4,5,7].getD (c/8%5) 0) 1 ((base+d/8%6:Nat):Int) x 0],j)
 else if c%8=6 then (s.1++[eJ 10 2 ((base+d/8%6:Nat):Int) 0 0]++[eJ 12 2 ((base+d/4%6:Nat):Int) 0 ((d%2:Nat):Int)],j)
 else (s.1++[(gwM ins s.1 bs j).1],(gwM ins s.1 bs j).2)
def lpM(ins:List Int)(base:Nat)(bs:List Int)(s:List Vl×Nat):Nat->List Vl×Nat
 |0=>s
 |k+1=>if (lpM ins base bs s k).2<bs.length then stM ins base bs (lpM ins base bs s k)else lpM ins base bs s k
def ksM(k:Nat):Nat:=fb (([4607182418800017408,0,9223372036854775808,4611686018427387904,cop .quo 0 0,cop .quo 4607182418800017408 0]:List Nat).getD k 0)
def csM(S:List Vl)(k:Nat):List Vl:=S++(List.range k).map λj=>⟨1,1,0,0,0,ksM j⟩
def rsL(bs:List Int)(i:Nat):List Vl×Nat:=lpM (dgI bs i).1 (dgG bs i).1.length bs (csM (dgG bs i).1 6,(dgO bs i).2) 14
def rsT(bs:List Int)(i:Nat):List Int×List Vl×List Int×Nat:=((dgI bs i).1,(rsL bs i).1,(dgO bs i).1++[((rsL bs i).1.length:Int)-1]++[((rsL bs i).1.length:Int)-2],(rsL bs i).2)
theorem LB(ins base bs s):(stM ins base bs s).1.length<=s.1.length+2/\s.1.length<=(stM ins base bs s).1.length:=by
 grind[stM]
theorem BQ(ins base bs s):∀k,(lpM ins base bs s k).1.length<=s.1.length+2*k/\s.1.length<=(lpM ins base bs s k).1.length
 |0=>⟨yad,yad⟩
 |k+1=>by
  have h:=BQ ins base bs s k
  grind[LB,lpM]
theorem LC(ins base bs s){k}(O:k<=14)(h:k=14\/¬(lpM ins base bs s k).2<bs.length):lpM ins base bs s 14=lpM ins base bs s k:=by
 rcases h with rfl|h
 ·rfl
 have:∀m,lpM ins base bs s (k+m)=lpM ins base bs s k:=by
  intro m;induction m with
  |zero=>rfl
  |succ m G=>rw[<-Nat.add_assoc,lpM,G,h6 h]
 have e:=this (14-k);grind
theorem AG(S k):csM S (k+1)=csM S k++[⟨1,1,0,0,0,ksM k⟩]:=by simp_all[csM,List.range_succ]
theorem CX{S}(h:LenS S):∀k,LenS (csM S k)
 |0=>by rw[csM];grind
 |k+1=>by rw[AG];exact(CX h k).snoc ⟨show 1<=1 by decide,show 1<=1000 by decide⟩
theorem LD{base s}(hi:BP ins)(h:LenS s.1)(ak:0<s.1.length):LenS (stM ins base bs s).1:=by
 have ap:=h (nv bs (ni bs s.2)%s.1.length) (Nat.mod_lt _ ak);have F:1<=(1:Int)/\(1:Int)<=1000:=xab;have h2:1<=(2:Int)/\(2:Int)<=1000:=xab;unfold stM;simp only;(repeat' split)<;>simp only
 ·exact h.snoc ap
 ·exact(h.snoc (v:=eJ 6 _ _ 0 0) ap).snoc ap
 ·exact h.snoc ap
 ·exact h.snoc F
 ·exact h.snoc F
 ·exact(h.snoc h2).snoc h2
 exact h.snoc (qZ hi h)
theorem yE{ins bs base s}(hi:BP ins)(h:LenS s.1)(ak:0<s.1.length):∀k,LenS (lpM ins base bs s k).1
 |0=>h
 |k+1=>by
  rw[lpM]
  split
  ·exact LD hi (yE hi h ak k) (yak ak (BQ _ _ _ s k).2)
  ·exact yE hi h ak k
theorem uS(vs n fr):∀m k,(mr vs n fr m k=-1/\∀j,j<m->(vd vs ((fr+(k+j))%vs.length)).len≠n)\/∃q,mr vs n fr m k=((q%vs.length:Nat):Int)/\(vd vs (q%vs.length)).len=n
 |0,_=>.inl ⟨rfl,λ_ h=>xaa⟩
 |m+1,k=>by
  rw[mr]
  by_cases c:(vs.getD ((fr+k)%vs.length) h9).len=n
  ·grind
  ·rw[h6 c]
   rcases uS vs n fr m (k+1) with⟨F,h2⟩|h
   ·refine .inl ⟨F,λj hj=>?_⟩
    rcases j with _|j<;>grind
   grind
theorem uT(vs n fr)(ak:0<vs.length):jg vs n fr=-1/\(∀x,x<vs.length->(vd vs x).len≠n)\/∃q:Nat,jg vs n fr=(q:Int)/\q<vs.length/\(vd vs q).len=n:=by
 rcases uS vs n fr vs.length 0 with⟨F,h2⟩|⟨q,F,h2⟩
 ·refine .inl ⟨F,λx ap=>?_⟩;have:=h2 ((x+(vs.length-fr%vs.length))%vs.length) (Nat.mod_lt _ ak);rw[Nat.zero_add,Nat.add_mod,Nat.mod_mod,<-Nat.add_mod]at this
  have e:(fr+(x+(vs.length-fr%vs.length)))%vs.length=x:=by
   have aF:=Nat.mod_lt fr ak;rw[Nat.add_mod,show fr%vs.length=fr%vs.length from rfl,Nat.add_mod x];have:=Nat.mod_add_div fr vs.length;rw[<-Nat.add_mod x,<-Nat.add_mod,show fr+(x+(vs.length-fr%vs.length))=x+vs.length*(fr/vs.length)+vs.length by omega,Nat.add_mod_right,Nat.add_mul_mod_self_left,Nat.mod_eq_of_lt ap]
  grind
 exact .inr ⟨_,F,Nat.mod_lt _ ak,h2⟩
theorem CY{c:Nat}{m}(h:(c:Int)<m):gm c m=true:=decide_eq_true ⟨by omega,h⟩
def OkS(ins:List Int)(S:List Vl):Prop:=∀j,j<S.length->okV ins S j=true
theorem OkS.snoc{v}(h:OkS ins S)(aN:okV ins (S++[v]) S.length=true):OkS ins (S++[v]):=λj hj=>by
 rw[yal]at hj
 by_cases c:j<S.length
 ·exact sU c (h j c)
 grind
theorem Ip(ins S n a)(az:a<ins.length)(ag:ins.getD a 0=n)(ai:1<=n/\n<=1000):okV ins (S++[⟨0,n,a,0,0,0⟩]) S.length=true:=by
 simp_all[okV,fF,lenB,gm]
theorem kH{v}(xs:List Nat)(ak:v.op≠0)(ai:1<=v.len/\v.len<=1000)(aw:fF v=true)(ho:fo v=xs.map (Int.ofNat ·))(ap:∀x∈xs,x<S.length)(d:eQ v.op v.len v.c (xs.map λx=>(vd S x).len)=true):okV ins (S++[v]) S.length=true:=by
 refine yj _ _ _ ak ai aw (λo h=>?_) ?_
 ·grind
 rw[ho,List.map_map];exact d
theorem O3{i}(hi:BP ins)(bV:LenS S):okV ins (S++[(gwM ins S bs i).1]) S.length=true:=by
 have ai:=qZ (bs:=bs) (i:=i) hi bV;unfold gwM at ai⊢;by_cases ak:nv bs i%16=0\/S.length=0
 ·rw[h7 ak]at ai⊢;split at ai
  ·rename_i F;rw[h7 F];exact Ip _ _ _ _ (Nat.mod_lt _ F.1) rfl ai
  rename_i F;rw[h6 F];exact kH [] (by grind) ai rfl rfl xac rfl
 have t:0<S.length:=xaa;rw[h6 ak]at ai⊢;generalize ap:nv bs _%S.length=x at ai⊢;have ce:x<S.length:=by rw[<-ap];exact Nat.mod_lt _ t
 have ao:=bV x ce;obtain⟨m,z⟩:∃m,(vd S x).len=m:=⟨_,rfl⟩
 rw[z]at ao ai⊢;have P:∀f,_:=λf=>(uT S m f t).resolve_left λh=>h.2 x ce z;obtain⟨ay,af,b6,m1⟩:=P (nv bs (ni bs (ni bs i)));obtain⟨aB,bg,cf,bl⟩:=P (nv bs (ni bs (ni bs (ni bs i))));have a:=uT S 1 (nv bs (ni bs (ni bs i))) t;rw[af,bg]at ai⊢;have bE:nv _ i%16≠0:=λc=>ak (.inl c);clear P ap ak;have aC:=iV ao.1 ao.2;have e:nv bs i%16<16:=Nat.mod_lt _ xaa;generalize nv _ i%16=k at ai e bE⊢;generalize jg S 1 _=a6 at ai a⊢;by_cases bp:k<9
 ·rw[h7 bp]at ai⊢;rcases (by omega:k=0\/k=1\/k=2\/k=3\/k=4\/k=5\/k=6\/k=7\/k=8) with rfl|rfl|rfl|rfl|rfl|rfl|rfl|rfl|rfl
  ·omega
  all_goals exact kH [x,ay] (by simp[opT]) ai rfl rfl (by grind) (by simp_all[eQ,opT])
 rw[h6 bp]at ai⊢;rcases (by omega:k=9\/k=10\/k=11\/k=12\/k=13\/k=14\/k=15) with rfl|rfl|rfl|rfl|rfl|rfl|rfl
 ·exact kH [x] xac ai rfl rfl (by simp[ce]) (by simp only[List.map_cons,List.map_nil,z];simp[eQ])
 ·exact kH [x,ay,aB] xac ai rfl rfl (by grind) (by simp only[List.map_cons,List.map_nil,z,m1,bl];simp[eQ])
 ·exact kH [x] xac ai rfl rfl (by simp[ce]) (by simp only[List.map_cons,List.map_nil,z];simp[eQ,aC])
 ·refine kH [x] xac ai rfl rfl (by simp[ce]) ?_;have h:nv bs (ni bs (ni bs i))%m.toNat<m.toNat:=Nat.mod_lt _ xaa;generalize nv bs _%m.toNat=c at h ai⊢;simp only[List.map_cons,List.map_nil,z];simp[eQ,aC,CY (show(c:Int)<m by omega)]
 ·exact kH [x] xac ai rfl rfl (by simp[ce]) (by simp only[List.map_cons,List.map_nil,z];simp[eQ])
 ·rcases a with⟨ah,-⟩|⟨bz,ah,b7,m3⟩
  ·exact xgr
  rw[ah]at ai⊢;have h3:¬(bz:Int)<0:=xaa;simp only[Nat.reduceEqDiff,if_false,h6 h3]at ai⊢;exact kH [bz] xac ai rfl rfl (by simp[b7]) (by simp_all[eQ])
 rcases a with⟨ah,-⟩|⟨bz,ah,b7,m3⟩
 ·exact xgr
 rw[ah]at ai⊢;have h3:¬(bz:Int)<0:=xaa;simp only[Nat.reduceEqDiff,if_false,h6 h3]at ai⊢;generalize nv bs _%4=d at ai⊢;have h:nv bs (ni bs (ni bs (ni bs (ni bs i))))%(1+d)<1+d:=Nat.mod_lt _ xaa;generalize nv bs _%(1+d)=c at h ai⊢;refine kH [bz] xac ai rfl rfl (by simp[b7]) ?_;simp only[List.map_cons,List.map_nil,m3];simp[eQ];exact CY xaa
theorem Iq{bs ins}(hi:BP ins)(m):∀f k S p,OkS ins S->LenS S->OkS ins (gwL bs ins m f k S p).1/\S.length<=(gwL bs ins m f k S p).1.length/\(gwL bs ins m f k S p).1.length<=S.length+f/\(k=0->0<m->0<f->S.length+1<=(gwL bs ins m f k S p).1.length)
 |0,_,S,_,h,_=>by grind[gwL]
 |f+1,k,S,p,h,ai=>by
  rw[gwL]
  split
  ·obtain⟨F,h2,h3,_⟩:=Iq hi m f (k+1) (S++[(gwM ins S bs p).1]) (gwM ins S bs p).2 (h.snoc (O3 hi ai)) (ai.snoc (qZ hi ai))
   rw[yal]at h2 h3
   simp only[yaq,List.length_nil]at h2 h3
   exact⟨F,by omega,by omega,λ_ _ _=>by omega⟩
  grind
theorem CZ(bs p):∀k,OkS (iD bs p k).1 (iD bs p k).2.1
 |0=>λk O=>(by cases O)
 |k+1=>by
  have h:=CZ bs p k
  have ai:=(lW bs p k).2
  obtain⟨af,bg⟩:=ms bs p k
  have F:=(lW bs p (k+1)).2 k (by rw[(ms bs p (k+1)).1];omega)
  have h2:((iD bs p (k+1)).1).getD k 0=(1+nv bs (iD bs p k).2.2%4:Nat):=by simp_all[iD]
  rw[h2]at F
  have Y:∀x,OkS _ _:=λx j hj=>yr x (h j hj)
  have:=(Y (1+nv bs (iD bs p k).2.2%4:Nat)).snoc (Ip _ _ _ _ (by grind) h2 F)
  exact this
theorem ED(h:LenS S):eZ S<=1000*(S.length:Int):=by
 have:∀k,k<=S.length->eZ (S.take k)<=1000*k:=by
  intro k;induction k with
  |zero=>intro _;simp[eZ]
  |succ k G=>
   intro O;rw[oD xaa];have:(S.getD k _).len<=1000:=(h k xaa).2;omega
 grind
theorem LE{len}(v)(h:0<len):0<=sM len v/\sM len v<len:=by
 unfold sM;have:=Nat.mod_lt v h;omega
theorem AH(bs l p):∀k,∀o∈(oq bs l p k).1,∃v,o=sM l v
 |0=>λo h=>by cases h
 |k+1=>λo h=>by
  rw[oq]at h
  rcases List.mem_append.1 h with h|h
  ·exact AH _ l p k o h
  grind
theorem Nd(bs i):okG (dgI bs i).1 (dgG bs i).1 (dgO bs i).1=true:=by
 have aL:=lW bs (ni bs i) (nv bs i%4);have ai:=(ms bs (ni bs i) (nv bs i%4))
 have aK:=Iq (bs:=bs) (ins:=(dgI _ i).1) aL.2 (2+nv bs (dgI bs i).2.2%24) (2+nv bs (dgI bs i).2.2%24) 0 (dgI _ i).2.1 (ni bs (dgI bs i).2.2) (CZ _ _ _) aL.1;have bV:=(AF bs i).1;have aj:=ED bV;change OkS _ (dgG _ i).1/\(dgI _ i).2.1.length<=(dgG _ i).1.length/\(dgG _ i).1.length<=(dgI _ i).2.1.length+_/\_ at aK;have af:(dgI _ i).1.length=nv _ i%4:=ai.1;have bg:(dgI _ i).2.1.length=nv _ i%4:=ai.2;obtain⟨b5,a0,b9,bN⟩:=aK;have cz:(dgI _ i).2.1.length+1<=(dgG _ i).1.length:=bN rfl xaa xaa;have ho:(dgO _ i).1.length=nv bs _%5:=re _ _ _ _;unfold okG;rw[decide_eq_true xaa,List.all_eq_true.2,List.all_eq_true.2,List.all_eq_true.2,decide_eq_true xaa]
 ·rfl
 ·intro o r;obtain⟨k,rfl⟩:=AH _ _ _ _ o r;exact decide_eq_true (LE k xaa)
 ·intro j hj;exact b5 j (List.mem_range.1 hj)
 intro x ap;obtain⟨k,O,rfl⟩:=List.getElem_of_mem ap;have:1<=(dgI _ i).1.getD k 0/\(dgI _ i).1.getD k 0<=1000:=aL.2 k O;rw[yai,yam O]at this;exact iV this.1 this.2
