import Derived.Test.YtbhmhdllnfkjhaaGreatP49
namespace Go.Proofs.Z
variable{Zp:Prop}
open Tryz Go.RowKit Flt
set_option maxRecDepth 1000000
set_option maxHeartbeats 0
section
attribute[local go_sem] eG eE eD
variable{H w az W2:World}{P n cap i c1 c2 c3:Nat}{a a1 Y a3:Option Addr}{bs ins outs:List Int}{vs S:List Vl}
theorem j.qab(h:Zp:=by
 obtain⟨g,cp,aK,_,aR,be⟩:=ig HD.o.dg.r2 rfl s;cases aK;exact qdd):Zp:=h
theorem j.qde(h:Zp:=by
 have av:(nv bs i:Int)%12=1:=hM ap.o
 clear ap;obtain⟨z,x⟩:∃z,(vd vs j).b=z:=⟨_,rfl⟩
 rw[show(vs.getD j _).b=z from x]at bY;have b7:V _:=x;clear x;have T:V _:=HD.o.setV (q:=3) (x:=.int _ (IntKind.i64.wrap (z-1))) (v':=⟨(vd _ j).op,(vd _ j).len,(vd _ j).a,IntKind.i64.wrap (z-1),(vd _ j).c,(vd _ j).k⟩) s xab (by rw[<-b7.o];rfl) HK.o;replace T:V _:=T.o.keep (eF _);have al:V _:=T.o.finS (S':=S.set (nv bs _%S.length) ({vd S (nv bs _%S.length) with b:=IntKind.i64.wrap ((vd S (nv bs _%S.length)).b-1)})) (List.length_set ..) (by rw[List.map_set,HSV.o,<-p.o];exact congrArg _ (by rw[<-HSV.o,svd,<-b7.o];rfl));have bi:=u (j*6+3);go_upto_region 9 with fail;exact xbd):Zp:=h
open j in
theorem OD(f:DG w H.heap.size (.slice a1 ins.length c1) (.slice Y vs.length c2) (.slice a3 outs.length c3) ins vs outs)(C:RdF w P a n cap i bs)(hP:P<H.heap.size)(an:Kept P (P+1) H w)(ar:vs.map sv=S)(hn:vs.length<=100000)(B:0<S.length)(N:nv bs i%12=1):
  Calls prog 66 #[eV a1 ins.length c1 Y vs.length c2 a3 outs.length c3,hB P] w (DgF H P a n cap bs ins (S.set (nv bs (ni bs i)%S.length) ({vd S (nv bs (ni bs i)%S.length) with b:=IntKind.i64.wrap ((vd S (nv bs (ni bs i)%S.length)).b-1)})) outs (ni bs (ni bs i))):=by
 exact qaa
theorem k.qab(h:Zp:=by
 obtain⟨g,cp,aK,_,aR,be⟩:=ig HD.o.dg.r2 rfl s;cases aK;exact qdd):Zp:=h
theorem k.qde(h:Zp:=by
 have av:(nv bs i:Int)%12=2:=hM ap.o
 clear ap;obtain⟨z,x⟩:∃z,(vd vs j).c=z:=⟨_,rfl⟩
 rw[show(vs.getD j _).c=z from x]at cg;have b7:V _:=x;clear x;have T:V _:=HD.o.setV (q:=4) (x:=.int _ (IntKind.i64.wrap (z+1))) (v':=⟨(vd _ j).op,(vd _ j).len,(vd _ j).a,(vd _ j).b,IntKind.i64.wrap (z+1),(vd _ j).k⟩) s xab (by rw[<-b7.o];rfl) HK.o;replace T:V _:=T.o.keep (eF _);have al:V _:=T.o.finS (S':=S.set (nv bs _%S.length) ({vd S (nv bs _%S.length) with c:=IntKind.i64.wrap ((vd S (nv bs _%S.length)).c+1)})) (List.length_set ..) (by rw[List.map_set,HSV.o,<-p.o];exact congrArg _ (by rw[<-HSV.o,svd,<-b7.o];rfl));have bi:=u (j*6+4);go_upto_region 11 with fail;exact xbd):Zp:=h
open k in
theorem OE(f:DG w H.heap.size (.slice a1 ins.length c1) (.slice Y vs.length c2) (.slice a3 outs.length c3) ins vs outs)(C:RdF w P a n cap i bs)(hP:P<H.heap.size)(an:Kept P (P+1) H w)(ar:vs.map sv=S)(hn:vs.length<=100000)(B:0<S.length)(N:nv bs i%12=2):
  Calls prog 66 #[eV a1 ins.length c1 Y vs.length c2 a3 outs.length c3,hB P] w (DgF H P a n cap bs ins (S.set (nv bs (ni bs i)%S.length) ({vd S (nv bs (ni bs i)%S.length) with c:=IntKind.i64.wrap ((vd S (nv bs (ni bs i)%S.length)).c+1)})) outs (ni bs (ni bs i))):=by
 exact qaa
theorem l.qab(h:Zp:=by
 obtain⟨g,cp,aK,_,aR,be⟩:=ig HD.o.dg.r2 rfl s;cases aK;exact qdd):Zp:=h
theorem l.qde(h:Zp:=by
 have av:(nv bs i:Int)%12=3:=hM ap.o
 clear ap;obtain⟨z,x⟩:∃z,(vd vs j).len=z:=⟨_,rfl⟩
 rw[show(vs.getD j _).len=z from x]at aM;have b7:V _:=x;clear x;have T:V _:=HD.o.setV (q:=1) (x:=.int _ (IntKind.i64.wrap (z+1))) (v':=⟨(vd _ j).op,IntKind.i64.wrap (z+1),(vd _ j).a,(vd _ j).b,(vd _ j).c,(vd _ j).k⟩) s xab (by rw[<-b7.o];rfl) HK.o;replace T:V _:=T.o.keep (eF _);have al:V _:=T.o.finS (S':=S.set (nv bs _%S.length) ({vd S (nv bs _%S.length) with len:=IntKind.i64.wrap ((vd S (nv bs _%S.length)).len+1)})) (List.length_set ..) (by rw[List.map_set,HSV.o,<-p.o];exact congrArg _ (by rw[<-HSV.o,svd,<-b7.o];rfl));have bi:=u (j*6+1);go_upto_region 13 with fail;exact xbd):Zp:=h
open l in
theorem OF(f:DG w H.heap.size (.slice a1 ins.length c1) (.slice Y vs.length c2) (.slice a3 outs.length c3) ins vs outs)(C:RdF w P a n cap i bs)(hP:P<H.heap.size)(an:Kept P (P+1) H w)(ar:vs.map sv=S)(hn:vs.length<=100000)(B:0<S.length)(N:nv bs i%12=3):
  Calls prog 66 #[eV a1 ins.length c1 Y vs.length c2 a3 outs.length c3,hB P] w (DgF H P a n cap bs ins (S.set (nv bs (ni bs i)%S.length) ({vd S (nv bs (ni bs i)%S.length) with len:=IntKind.i64.wrap ((vd S (nv bs (ni bs i)%S.length)).len+1)})) outs (ni bs (ni bs i))):=by
 exact qaa
def spM(ins:List Int)(S:List Vl)(outs:List Int)(bs:List Int)(i:Nat):List Int×List Vl×List Int:=
 if S.length=0 then (ins,S,outs)
 else if nv bs i%12=0 then (ins,S.set (nv bs (ni bs i)%S.length) {vd S (nv bs (ni bs i)%S.length) with a:=((nv bs (ni bs i)%S.length:Nat):Int)},outs)
 else if nv bs i%12=1 then (ins,S.set (nv bs (ni bs i)%S.length) {vd S (nv bs (ni bs i)%S.length) with b:=IntKind.i64.wrap ((vd S (nv bs (ni bs i)%S.length)).b-1)},outs)
 else if nv bs i%12=2 then (ins,S.set (nv bs (ni bs i)%S.length) {vd S (nv bs (ni bs i)%S.length) with c:=IntKind.i64.wrap ((vd S (nv bs (ni bs i)%S.length)).c+1)},outs)
 else if nv bs i%12=3 then (ins,S.set (nv bs (ni bs i)%S.length) {vd S (nv bs (ni bs i)%S.length) with len:=IntKind.i64.wrap ((vd S (nv bs (ni bs i)%S.length)).len+1)},outs)
 else if nv bs i%12=4 then (ins,S.set (nv bs (ni bs i)%S.length) {vd S (nv bs (ni bs i)%S.length) with op:=(nv bs (ni bs i):Int)%17},outs)
 else if nv bs i%12=5 then (ins,S,outs++[(S.length:Int)-(nv bs (ni bs i):Int)%2])
 else if nv bs i%12=6 then (ins++[(nv bs (ni bs i):Int)%3*500],S,outs)
 else if nv bs i%12=7 then (ins,S,outs++[-1])
 else if nv bs i%12=8 then (ins,S.set (nv bs (ni bs i)%S.length) {vd S (nv bs (ni bs i)%S.length) with k:=fbz 4619567317775286272},outs)
 else if nv bs i%12=9 then (ins,S.set (nv bs (ni bs i)%S.length) {vd S (nv bs (ni bs i)%S.length) with op:=-1},outs)
 else if nv bs i%12=10 then (ins,S,outs++List.replicate (50+nv bs (ni bs i)%2-outs.length) (((nv bs (ni bs i)%S.length:Nat)):Int))
 else (ins++List.replicate (20+nv bs (ni bs i)%2-ins.length) 2,S,outs)
theorem OG(f:DG w H.heap.size (.slice a1 ins.length c1) (.slice Y vs.length c2) (.slice a3 outs.length c3) ins vs outs)(C:RdF w P a n cap i bs)(hP:P<H.heap.size)(an:Kept P (P+1) H w)(ar:vs.map sv=S)(hn:vs.length<=100000)(hi:ins.length<=1000)(al:outs.length<=1000):
  Calls prog 66 #[eV a1 ins.length c1 Y vs.length c2 a3 outs.length c3,hB P] w (DgF H P a n cap bs (spM ins S outs bs i).1 (spM ins S outs bs i).2.1 (spM ins S outs bs i).2.2 (ni bs (ni bs i))):=by
 unfold spM;by_cases ae:S.length=0
 ·rw[hG ae];exact OC f C hP an ar hn ae
 have B:0<S.length:=xaa;have ak:nv bs i%12<12:=Nat.mod_lt _ xaa;rw[hF ae];by_cases c:nv bs i%12=0
 ·rw[hG c];exact Ov f C hP an ar hn B c
 rw[hF c];by_cases c:nv bs i%12=1
 ·rw[hG c];exact OD f C hP an ar hn B c
 rw[hF c];by_cases c:nv bs i%12=2
 ·rw[hG c];exact OE f C hP an ar hn B c
 rw[hF c];by_cases c:nv bs i%12=3
 ·rw[hG c];exact OF f C hP an ar hn B c
 rw[hF c];by_cases c:nv bs i%12=4
 ·rw[hG c];exact Ow f C hP an ar hn B c
 rw[hF c];by_cases c:nv bs i%12=5
 ·rw[hG c];exact Oz f C hP an ar hn B al c
 rw[hF c];by_cases c:nv bs i%12=6
 ·rw[hG c];exact OB f C hP an ar hn B hi c
 rw[hF c];by_cases c:nv bs i%12=7
 ·rw[hG c];exact OA f C hP an ar hn B al c
 rw[hF c];by_cases c:nv bs i%12=8
 ·rw[hG c];exact Ox f C hP an ar hn B c
 rw[hF c];by_cases c:nv bs i%12=9
 ·rw[hG c];exact Oy f C hP an ar hn B c
 rw[hF c];by_cases c:nv bs i%12=10
 ·rw[hG c];exact LC f C hP an ar hn B al c
 rw[hF c];exact LD f C hP an ar hn B hi xaa
theorem Dy.fresh{u1 u2 u3}(av:RB az w.heap.size iS iS iS)(hP:P<w.heap.size)(aj:Kept P (P+1) w az)(d:DG W2 az.heap.size u1 u2 u3 ins vs outs)(an:RdF W2 P a n cap i bs)(ah:Kept P (P+1) az W2):
  Dy w (W2.alloc (.cells #[u1,u2,u3] 26)) P a n cap i bs w.heap.size W2.heap.size u1 u2 u3 ins vs outs:=by
 have bx:=ez 0 0 W2 (.cells #[u1,u2,u3] 26);have hb:=sO (S:=λ_=>False) W2 _ #[u1,u2,u3] 26 (hL).chg (λc=>c);have B:=av.sz;have J:=ah.size;refine⟨an.keep0 bx,(d.keep bx).mono xaa,⟨hb.2.2,hb.1 0,hb.1 1,hb.1 2,hb.2.1 0,hb.2.1 1,hb.2.1 2⟩,(av.kept ah xaa).keep bx,hP,⟨yad,by omega,by omega⟩,?_,(aj.trans ah).trans (fh bx)⟩;rintro b (h|h|h)
 ·have:=eH d.r1 h;omega
 ·have:=eH d.r2 h;omega
 have:=eH d.r3 h;omega
theorem DgF.up(av:RB az w.heap.size iS iS iS)(hP:P<w.heap.size)(aj:Kept P (P+1) w az)(ar:vs.map sv=S)(d:DG W2 az.heap.size (.slice a1 ins.length c1) (.slice Y vs.length c2) (.slice a3 outs.length c3) ins vs outs)(an:RdF W2 P a n cap i bs)(ah:Kept P (P+1) az W2):
  RB W2 w.heap.size iS iS iS/\DgF w P a n cap bs ins S outs i (.returned (eV a1 ins.length c1 Y vs.length c2 a3 outs.length c3)) (fw W2 w.heap.size (.slice a1 ins.length c1) (.slice Y vs.length c2) (.slice a3 outs.length c3)):=by
 have ai:=fg W2 w.heap.size (.slice a1 ins.length c1) (.slice Y vs.length c2) (.slice a3 outs.length c3);have B:=av.sz;have J:=aj.size;have h3:=ah.size;refine⟨av.kept ah xaa,_,_,_,_,_,_,_,rfl,ar,(d.kept ai xaa).mono xaa,an.keep ai (.inl xaa),⟨ai.os.trans (ah.os.trans aj.os),ai.tape.trans (ah.tape.trans aj.tape),ai.output.trans (ah.output.trans aj.output),yao J (yao h3 ai.size),λb hb hn=>?_⟩⟩;refine(ai.block b xaa xaa).trans ?_;exact(aj.trans ah).block b hb hn
theorem CH(bs ins m):∀f k S p,(gwL bs ins m f k S p).1.length<=S.length+f
 |0,_,S,_=>by rw[gwL];exact yad
 |f+1,k,S,p=>by
  rw[gwL]
  split
  ·have:=CH bs ins m f (k+1) (S++[(gwM ins S bs p).1]) (gwM ins S bs p).2
   rw[yal]at this
   simp at this
   omega
  ·simp only;omega
theorem Ao(bs i):(dgI bs i).1.length<=3/\(dgG bs i).1.length<=28/\(dgO bs i).1.length<=4:=by
 have B:=rg bs (ni bs i) (nv bs i%4);have J:=CH bs (dgI bs i).1 (2+nv bs (dgI bs i).2.2%24) (2+nv bs (dgI bs i).2.2%24) 0 (dgI bs i).2.1 (ni bs (dgI bs i).2.2);have h3:=uJ bs (dgG bs i).1.length (ni bs (dgG bs i).2) (nv bs (dgG bs i).2%5);have e1:(dgI _ i).1.length=nv _ i%4:=B.1;have e2:(dgI _ i).2.1.length=nv _ i%4:=B.2;have af:(dgO _ i).1.length=nv bs _%5:=h3;have e4:(dgG _ i).1.length<=(dgI _ i).2.1.length+(2+nv bs _%24):=J;omega
def rh(bs:List Int)(i:Nat):List Int×List Vl×List Int×Nat:=
 if nv bs i%40=0 then ([],nd 1 (1999+nv bs (ni bs i)%3),[0],ni bs (ni bs i))
 else if nv bs i%40=1 then (if nv bs (ni bs i)%2=1 then ([],nd 1000 50++[⟨1,1,0,0,0,0⟩],[0],ni bs (ni bs i))else ([],nd 1000 50,[0],ni bs (ni bs i)))
 else if nv bs i%40<8 then ((spM (dgI bs (ni bs i)).1 (dgG bs (ni bs i)).1 (dgO bs (ni bs i)).1 bs (dgO bs (ni bs i)).2).1,(spM (dgI bs (ni bs i)).1 (dgG bs (ni bs i)).1 (dgO bs (ni bs i)).1 bs (dgO bs (ni bs i)).2).2.1,(spM (dgI bs (ni bs i)).1 (dgG bs (ni bs i)).1 (dgO bs (ni bs i)).1 bs (dgO bs (ni bs i)).2).2.2,ni bs (ni bs (dgO bs (ni bs i)).2))
 else ((dgI bs (ni bs i)).1,(dgG bs (ni bs i)).1,(dgO bs (ni bs i)).1,(dgO bs (ni bs i)).2)
abbrev DgT(w:World)(P:Nat)(a:Option Addr)(n cap:Nat)(bs:List Int)(T:List Int×List Vl×List Int×Nat):Ending->World->Prop:=DgF w P a n cap bs T.1 T.2.1 T.2.2.1 T.2.2.2
theorem Qi(C:RdF w P a n cap i bs):
  Calls prog 34 #[hB P] w (DgT w P a n cap bs (rh bs i)):=by
 have ak:=fH C.ys i;have cb:=fH C.ys (ni bs i);have hP:=C.lt;have bx:=ez 0 0 w fj;have bu:V _:=jh _ P a n _ i _ (C.keep0 bx);have aa:V (∀bl,rh _ i=bl->∀e I,DgT w P a n cap bs bl e _->DgT w P a n _ _ (rh bs i) e I):=λbl h e I d=>hO h d
 have aZ:V _:=bx;clear C bx;go_enter func34,ntmps34;go_wp2_with fail;refine yaj bu.o ?_;rintro e az ⟨rfl,(aK:V _),aj,c9⟩;have bY:V _:=(fh aZ.o).trans aj;have aS:V (RB _ _ iS iS iS):=(fF w).kept aj xaa;clear aj c9 aZ bu;by_cases c0:nv bs i%40=0
 ·have HE:V (rh bs i=([],nd 1 (1999+nv bs (ni bs i)%3),[0],ni bs (ni bs i))):=by show _=_;unfold rh;rw[hG c0]
  have T:(nv bs i:Int)%40=0:=xaa;have G:1999+(nv bs (ni bs i):Int)%3=(1999+nv bs (ni bs i)%3:Nat):=xaa;have r:1999+nv bs (ni bs i)%3<=3000:=xaa;clear c0;go_wp2_with fail;refine yaj (jh _ _ _ _ _ _ _ aK.o) ?_;rintro e W2 ⟨rfl,R2,ah,cg⟩;have bD:V _:=bY.o.trans ah;have y:V _:=aS.o.kept ah xaa;have bo:V _:=Mo R2 _ 1 r;clear R2 ah cg;generalize 1999+nv bs _%3=m at G bo HE r;go_wp2_with fail;refine yaj bo.o ?_;rintro e ab ⟨a1,c1,Y,c2,a3,c3,vs,rfl,ae,d,an,aF⟩;obtain⟨hb,(aI:V _)⟩:=DgF.up y.o hP bD.o ae d an aF;obtain⟨_,bm,ay,aW,bv,bA,bM⟩:=hb;clear ae d an aF;rw[show([]:List _).length=0 from rfl,show([0]:List Int).length=1 from rfl]at aI⊢;go_wp2_with fail;obtain⟨a8,aV,p2⟩:=eZ _ _ _ _ _ bm ay aW (.slice a1 0 c1) (.slice Y vs.length c2) (.slice a3 1 c3);exact yaz (v:=eV a1 0 c1 Y vs.length c2 a3 1 c3) (by simp[results,results34,go_sem,a8,aV,p2]) rfl (aa.o _ HE.o _ _ aI.o)
 by_cases c1:nv bs i%40=1
 ·have af:(nv bs i:Int)%40=1:=xaa;have bo:V _:=Mo aK.o 50 1000 xaa;have a5:V (nv bs _%2=1->rh _ i=([],nd _ _++[⟨1,1,0,0,0,0⟩],[0],ni bs _)):=λh=>by unfold rh;rw[hF c0,hG c1,hG h]
  have s:V (¬nv bs _%2=1->rh _ i=([],nd _ _,[0],ni bs _)):=λh=>by unfold rh;rw[hF c0,hG c1,hF h]
  clear c0 c1;go_wp2_with fail;refine yaj bo.o ?_;rintro e ab ⟨a1,c1,Y,c2,a3,c3,vs,rfl,(HSV:V _),d,an,aF⟩;have HD:V _:=Dy.fresh aS.o hP bY.o d an aF;have cu:vs.length<=100000:=by have bp:=congrArg List.length HSV.o;rw[List.length_map,r9]at bp;omega
  clear d an aF;rw[show([]:List _).length=0 from rfl,show([0]:List Int).length=1 from rfl]at HD⊢;go_wp2_with fail;generalize ab.alloc _=bj at HD⊢;generalize ab.heap.size=Q at HD⊢;refine yaj HD.o.next ?_;rintro e ci ⟨rfl,aq⟩;replace HD:V _:=aq;clear aq;by_cases J:nv bs (ni bs i)%2=1
  ·have b3:(nv bs (ni bs i):Int)%2=1:=xaa;have aI:V (∀a7,Kept 0 0 _ a7->_):=λa7 cc=>HD.o.put cc (eL 1 1 0 0 0) (Nat.zero_lt_succ _) cu;obtain⟨_,bC,aN,a2,bG,f1,f2⟩:=HD.o.bx;go_upto_region 8 with fail
   go_region_with (first
    |(go_at_call 38;refine yaj (aI.o _ ((eF _).trans bS)) ?_;rintro e ag ⟨aB,cap',rfl,aO,aA⟩;obtain⟨_,bm,ay,aW,bv,bA,bM⟩:=aO)
    |(go_at_call 65;refine yaj (pw _ _) ?_;rintro e a7 ⟨rfl,bS⟩;obtain⟨_,aT,ao,aG,_,_,_⟩:=(HD.o.keep ((eF _).trans bS)).bx))
   all_goals
    have f:V _:=aA
    have al:V _:=aA.finS (S':=nd _ _++[⟨1,1,0,0,0,0⟩]) (by rw[yal];rfl) (by rw[List.map_append,HSV.o];rfl)
    clear aA
    go_upto_region 9 with fail
    rw[show((ag.setCell _ _).setCell ⟨Q,1,_⟩ _).setCell _ _=fw _ Q _ _ _ from rfl]
    generalize fw _ Q _ _ _=N at f al⊢
    obtain⟨_,bf,aP,aY,_,_,_⟩:=f.o.bx
    obtain⟨_,u0,u1,u2,j,k,l⟩:=f.o.rs
    go_wp2_with fail
    obtain⟨a8,aV,p2⟩:=eZ _ _ _ _ _ u0 u1 u2 (.slice a1 0 c1) (hC aB (vs.length+1) cap') (.slice a3 1 c3)
    exact yaz (v:=eV a1 0 c1 (some ⟨aB,0,none⟩) (vs.length+1) cap' a3 1 c3) (by simp[results,results34,go_sem,a8,aV,p2]) rfl (aa.o _ (a5.o J) _ _ al.o)
  have b3:¬(nv bs (ni bs i):Int)%2=1:=xaa;have al:V _:=HD.o.fin HSV.o;obtain⟨_,bf,aP,aY,_,_,_⟩:=HD.o.bx;obtain⟨_,u0,u1,u2,j,k,l⟩:=HD.o.rs;go_wp2_with fail;obtain⟨a8,aV,p2⟩:=eZ _ _ _ _ _ u0 u1 u2 (.slice a1 0 c1) (.slice Y vs.length c2) (.slice a3 1 c3);exact yaz (v:=eV a1 0 c1 Y vs.length c2 a3 1 c3) (by simp[results,results34,go_sem,a8,aV,p2]) rfl (aa.o _ (s.o J) _ _ al.o)
 have T:¬(nv bs i:Int)%40=0:=xaa;have af:¬(nv bs i:Int)%40=1:=xaa;have aX:V _:=I3 aK.o;have B:V _:=Ao bs (ni bs i);have a5:V (nv _ i%40<8->rh _ i=((spM _ _ _ _ _).1,(spM _ _ _ _ _).2.1,(spM _ _ _ _ _).2.2,ni bs _)):=λh=>by unfold rh;rw[hF c0,hF c1,hG h]
 have s:V (¬nv _ i%40<8->rh _ i=((dgI bs _).1,(dgG bs _).1,(dgO bs _).1,(dgO bs _).2)):=λh=>by unfold rh;rw[hF c0,hF c1,hF h]
 clear c0 c1;generalize (dgI bs _).1=aM at aX B a5 s;generalize (dgG bs _).1=aD at aX B a5 s;generalize dgO bs _=am at aX B a5 s;go_wp2_with fail;refine yaj aX.o ?_;rintro e ab ⟨a1,c1,Y,c2,a3,c3,vs,rfl,(HSV:V _),d,an,aF⟩;have HD:V _:=Dy.fresh aS.o hP bY.o d an aF;have cu:vs.length<=100000:=by have bp:=congrArg List.length HSV.o;have:=B.o;rw[List.length_map]at bp;omega
 have bZ:=ez 0 0 ab (.cells #[.slice a1 aM.length c1,.slice Y vs.length c2,.slice a3 am.1.length c3] 26);have c:V _:=OG (d.keep bZ) (an.keep0 bZ) (yak hP bY.o.size) (aF.trans (fh bZ)) HSV.o cu (hM B.o) (hM B.o);clear d an aF bZ aX;by_cases ad:nv bs i%40<8
 ·have p:(nv bs i:Int)%40<8:=xaa;obtain⟨_,bf,aP,aY,_,_,_⟩:=HD.o.bx;generalize bh:spM _ _ _ _ _=bl at c a5;clear bh;go_wp2_with fail;refine yaj c.o ?_;rintro e a7 ⟨O,d1,ax,d2,Z,d3,us,rfl,g,d,an,cc⟩;obtain⟨hb,(aI:V _)⟩:=DgF.up aS.o hP bY.o g d an cc;obtain⟨_,bm,ay,aW,bv,bA,bM⟩:=hb;clear g d an cc bf aP aY;go_wp2_with fail;obtain⟨a8,aV,p2⟩:=eZ _ _ _ _ _ bm ay aW (.slice O bl.1.length d1) (.slice ax us.length d2) (.slice Z bl.2.2.length d3);exact yaz (v:=eV O bl.1.length d1 ax us.length d2 Z bl.2.2.length d3) (by simp[results,results34,go_sem,a8,aV,p2]) rfl (aa.o _ (a5.o ad) _ _ aI.o)
 have p:¬(nv bs i:Int)%40<8:=xaa;have al:V _:=HD.o.fin HSV.o;obtain⟨_,bf,aP,aY,_,_,_⟩:=HD.o.bx;obtain⟨_,u0,u1,u2,j,k,l⟩:=HD.o.rs;clear c;go_wp2_with fail;obtain⟨a8,aV,p2⟩:=eZ _ _ _ _ _ u0 u1 u2 (.slice a1 aM.length c1) (.slice Y vs.length c2) (.slice a3 am.1.length c3);exact yaz (v:=eV a1 aM.length c1 Y vs.length c2 a3 am.1.length c3) (by simp[results,results34,go_sem,a8,aV,p2]) rfl (aa.o _ (s.o ad) _ _ al.o)
end
section
def I4(ins:List Int):Prop:=∀k,k<ins.length->1<=ins.getD k 0/\ins.getD k 0<=1000
theorem Ap{bs ins}(hi:I4 ins)(m):∀f k S p,LenS S->LenS (gwL bs ins m f k S p).1
 |0,_,S,_,h=>by rw[gwL];exact h
 |f+1,k,S,p,h=>by
  rw[gwL]
  split
  ·exact Ap hi m f _ _ _ (h.snoc (x9 hi h))
  ·exact h
theorem I5(bs i):LenS (dgG bs i).1/\I4 (dgI bs i).1:=
 have h:=r8 bs (ni bs i) (nv bs i%4)
 ⟨Ap h.2 _ _ _ _ _ h.1,h.2⟩
def stM(ins:List Int)(base:Nat)(bs:List Int)(s:List Vl×Nat):List Vl×Nat:=
 let c:=nv bs s.2
 let d:=nv bs (ni bs s.2)
 let j:=ni bs (ni bs s.2)
 let x:=d%s.1.length
 let m:=(vd s.1 x).len
 if c%8=0 then (s.1++[eL 6 m x 0 0],j)
 else if c%8=1 then (s.1++[eL 6 m x 0 0]++[eL 6 m s.1.length 0 0],j)
 else if c%8=2 then (s.1++[vd s.1 x],j)
 else if m=1/\c%8<6 then (s.1++[if c%2=1 then eL ([2,3,4,5,7].getD (c/8%5) 0) 1 x ((base+d/8%6:Nat):Int) 0 else eL ([2,3,4,5,7].getD (c/8%5) 0) 1 ((base+d/8%6:Nat):Int) x 0],j)
 else if c%8=6 then (s.1++[eL 10 2 ((base+d/8%6:Nat):Int) 0 0]++[eL 12 2 ((base+d/4%6:Nat):Int) 0 ((d%2:Nat):Int)],j)
 else (s.1++[(gwM ins s.1 bs j).1],(gwM ins s.1 bs j).2)
def lpM(ins:List Int)(base:Nat)(bs:List Int)(s:List Vl×Nat):Nat->List Vl×Nat
 |0=>s
 |k+1=>if (lpM ins base bs s k).2<bs.length then stM ins base bs (lpM ins base bs s k)else lpM ins base bs s k
def ksM(k:Nat):Nat:=fb (([4607182418800017408,0,9223372036854775808,4611686018427387904,cop .quo 0 0,cop .quo 4607182418800017408 0]:List Nat).getD k 0)
def csM(S:List Vl)(k:Nat):List Vl:=S++(List.range k).map λj=>⟨1,1,0,0,0,ksM j⟩
def rsL(bs:List Int)(i:Nat):List Vl×Nat:=lpM (dgI bs i).1 (dgG bs i).1.length bs (csM (dgG bs i).1 6,(dgO bs i).2) 14
def rsT(bs:List Int)(i:Nat):List Int×List Vl×List Int×Nat:=((dgI bs i).1,(rsL bs i).1,(dgO bs i).1++[((rsL bs i).1.length:Int)-1]++[((rsL bs i).1.length:Int)-2],(rsL bs i).2)
theorem LE(ins base bs s):(stM ins base bs s).1.length<=s.1.length+2/\s.1.length<=(stM ins base bs s).1.length:=by
 unfold stM;simp only;(repeat' split)<;>simp
theorem BE(ins base bs s):∀k,(lpM ins base bs s k).1.length<=s.1.length+2*k/\s.1.length<=(lpM ins base bs s k).1.length
 |0=>⟨yad,yad⟩
 |k+1=>by
  have h:=BE ins base bs s k
  have g:=LE ins base bs (lpM ins base bs s k)
  rw[lpM]
  split<;>omega
theorem LF(ins base bs s){k}(N:k<=14)(h:k=14\/¬(lpM ins base bs s k).2<bs.length):lpM ins base bs s 14=lpM ins base bs s k:=by
 rcases h with rfl|h
 ·rfl
 have:∀m,lpM ins base bs s (k+m)=lpM ins base bs s k:=by
  intro m;induction m with
  |zero=>rfl
  |succ m aa=>rw[<-Nat.add_assoc,lpM,aa,hF h]
 have e:=this (14-k);rwa [Nat.add_sub_cancel' N]at e
theorem Aq(S k):csM S (k+1)=csM S k++[⟨1,1,0,0,0,ksM k⟩]:=by rw[csM,csM,List.range_succ,List.map_append,List.append_assoc];rfl
theorem CJ{S}(h:LenS S):∀k,LenS (csM S k)
 |0=>by rw[csM];simpa using h
 |k+1=>by rw[Aq];exact(CJ h k).snoc ⟨show 1<=1 by decide,show 1<=1000 by decide⟩
theorem LH{ins bs base s}(hi:I4 ins)(h:LenS s.1)(ae:0<s.1.length):LenS (stM ins base bs s).1:=by
 have ak:=h (nv bs (ni bs s.2)%s.1.length) (Nat.mod_lt _ ae);have B:1<=(1:Int)/\(1:Int)<=1000:=xab;have J:1<=(2:Int)/\(2:Int)<=1000:=xab;unfold stM;simp only;(repeat' split)<;>simp only
 ·exact h.snoc ak
 ·exact(h.snoc (v:=eL 6 _ _ 0 0) ak).snoc ak
 ·exact h.snoc ak
 ·exact h.snoc B
 ·exact h.snoc B
 ·exact(h.snoc J).snoc J
 exact h.snoc (x9 hi h)
theorem yl{ins bs base s}(hi:I4 ins)(h:LenS s.1)(ae:0<s.1.length):∀k,LenS (lpM ins base bs s k).1
 |0=>h
 |k+1=>by
  rw[lpM]
  split
  ·exact LH hi (yl hi h ae k) (yak ae (BE _ _ _ s k).2)
  ·exact yl hi h ae k
