import Derived.Test.YtkjahdegnkmejaaGreatP43
namespace Go.Proofs.Z
open Tryz
set_option maxRecDepth 1000000
set_option maxHeartbeats 0
open Go.RowKit Flt
attribute[local go_sem] eE eC eB
theorem OG(w R a6 U Y c1 ae c2 aa c3 ins vs outs)(f:GS w R Y a6 ae U aa ins vs outs)(af:okG ins vs outs=true):
  Calls prog 37 #[eX R Y c1 a6 ae c2 U aa c3] w λe O=>∃a1 aX K bk a3 ab,e=.returned (jh a1 Y aX K ae bk a3 aa ab (fH vs (ft vs outs ae) ae))/\OCd O w.heap.size (.slice a1 Y aX) (.slice K ae bk) (.slice a3 aa ab) ins (gj vs (ft vs outs ae) ae) (outs.map (jJ vs (ft vs outs ae)))/\Kept 0 0 w O:=by
 obtain⟨bY,cU,cg,b8,cc⟩:=info_parts xI;obtain⟨cd,dv,dc,ez,eP⟩:=info_parts sj;obtain⟨⟨cp,cw,cJ⟩,_,aL,aR,cM⟩:=jZ af;have cI:vs.length=ae:=f.v.len;have d1:outs.length=aa:=f.o.len;have d0:ins.length=Y:=f.i.len;have N:Y<=20:=xaa;have ah:ae<=2000:=xaa;have c8:aa<=50:=xaa;have b2:V (∀j,j<ae->okV ins vs j=true):=λj hj=>aL j xaa;have HO:V (∀o∈outs,0<=o/\o<(ae:Int)):=λo h=>i4 (aR o h)
 have aG:V (iE vs ae<=50000):=by
  exact xiz
 have bG:V _:=qz (outs:=outs) (n:=ae) (λk J=>(fV (b2.o k J)).1) aG.o ae yad;have bK:V (∀j,j<=ae->iE vs j<=50000):=λj hj=>Int.le_trans (ig (n:=ae) (λk J=>(fV (b2.o k J)).1) hj yad) aG.o;have eS:V (∀v∈vs,v.k<18446744073709551616):=f.v.lt;have aV:V (vs.length=ae/\outs.length=aa/\ins.length=Y):=⟨cI,d1,d0⟩
 have bF:=eA 0 0 w (fB R Y c1 a6 ae c2 U aa c3);have aZ:=ib w (.slice R Y c1) (.slice a6 ae c2) (.slice U aa c3);have ap:=eA 0 0 (w.alloc (fB R Y c1 a6 ae c2 U aa c3)) gK;have ao:V _:=aZ.keep ap;have aO:V _:=(f.keep bF).keep ap;have HK:V _:=bF.trans ap;have bi:V _:=G1 _ R a6 U Y c1 ae c2 aa c3 ins vs outs ((f.keep bF).keep ap) af;clear f af cp cw cJ aL aR cI d1 d0 cM bF ap aG;obtain⟨_,aU,ax,aF⟩:=ao.o;go_enter func37,ntmps37;go_wp2_with fail;refine yaj bi.o ?_;rintro e ak ⟨ca,el,rfl,d8,aC⟩;have b1:V _:=d8;have bN:V _:=HK.o.trans aC;have y:V _:=ao.o.keep aC;have d:V _:=aO.o.keep aC;have ep:V _:=nW ak _ _ R Y c1 ins xaa (aO.o.keep aC).i;have dp:V _:=(kz (w.alloc (fB R Y c1 a6 ae c2 U aa c3))).keep aC;have eu:V ((w.alloc (fB R Y c1 a6 ae c2 U aa c3)).heap.size=w.heap.size+1):=by show _=_;simp
 rw[eu.o]at dp;have bP:V (w.heap.size+1<ak.heap.size):=dp.o.sz;clear bi ao aO HK d8 aC aU ax aF aZ eu;obtain⟨_,aU,ax,aF⟩:=y.o;go_wp2_with fail;refine yaj ep.o ?_;rintro e aM ⟨bb,id,rfl,(d7:V _),a9⟩;have e5:V _:=nV d7.o aV.o.2.2;have bZ:V _:=bN.o.trans a9;have b7:V _:=y.o.keep a9;have cz:V _:=d.o.keep a9;have aj:V _:=IS.mono (b1.o.keep a9 yaa) yad a9.size;have cn:V _:=dp.o.keep a9;clear ep y d bN b1 dp a9 aU ax aF;go_wp2_with fail;have cQ:V (w.heap.size+1<aM.heap.size):=cn.o.sz;have er:V _:=G2 aM (.slice bb Y id);go_loopw [5] (λx W=>∃(k:Nat) (u:Value),k<=ae/\x=ih k/\V (LP W aM aM.heap.size (aM.heap.size+1) (.slice bb Y id) u (.slice none 0 0) k 0 (fH vs (ft vs outs ae) k) (gj vs (ft vs outs ae) k) [])) (λx _=>ae-(intOf x).toNat)
 case atStart=>exact⟨0,_,yae,rfl,er⟩
 case round=>
  obtain⟨i,u,hi,rfl,hP⟩:=hrel;clear er;have B:V (Kept 0 0 aM wr):=Chg.kept (Kept.refl 0 0 aM) hP.o.ch (λb hb=>by rcases hb with h|h<;>omega);obtain⟨_,aU,ax,aF⟩:=b7.o.keep B.o;by_cases aY:i<ae
  ·obtain⟨g,an,rfl,az,cV,_,a8,aJ,aP,bw,b3,cf⟩:=cz.o.v.keep B.o yaa |>.at_idx aY
   obtain⟨cy,d4,ay,ad,be,_,ew,ce⟩:=(aj.o.keep B.o yaa).at_idx (o:=i) xaa xaa;subst ad
   have e1:cy<aM.heap.size:=by
    rcases aj.o.at_ with z|⟨aI,c9,a2,_,_,bq,_⟩
    ·omega
    cases a2;exact bq
   obtain rfl:i=ay:=xaa;rw[Int.toNat_natCast]at ce;have bT:V _:=b2.o i aY;have bO:V _:=zK vs (ft vs outs ae) i;generalize ci:vs.getD i i0=v at a8 aJ aP bw b3 cf;have di:V _:=KA wr v;have bS:=eA 0 0 wr (iK v.op v.len v.a v.b v.c v.k);have d9:V _:=hP.o.keep bS;have b0:V _:=B.o.trans bS;have ej:(wr.alloc (iK v.op v.len v.a v.b v.c v.k)).heap.size=wr.heap.size+1:=by simp
   have cA:(wr.alloc (iK v.op v.len v.a v.b v.c v.k)).cell? ⟨cy,d4+i,none⟩=some (ih ((ft vs outs ae).getD i 0)):=by rw[bS.cell (p:=⟨cy,d4+i,none⟩) ew xaa];exact ce
   go_wp2_with fail;have eT:V (aM.heap.size<=wr.heap.size):=B.o.size;have eb:V (cy<aM.heap.size):=e1;have bL:V (aM.heap.size+1<=wr.heap.size):=hP.o.bz;have eR:V (∀g,u.ownBlock=some g->g<wr.heap.size):=λg h=>(eF hP.o.pu h).2;clear bS a8 aJ aP bw b3 cf aU ax aF ce hP B;generalize wr.alloc (iK v.op v.len v.a v.b v.c v.k)=bx at di d9 b0 ej cA⊢;obtain⟨a8,aJ,aP,bw,b3,cf⟩:=di.o;simp only[Nat.zero_add]at aJ aP bw b3 cf;generalize C:(ft vs outs ae).getD i 0=P at cA;have cH:V (∀g,u.ownBlock=some g->g<wr.heap.size):=eR.o;go_cut [7] (λp cq=>p=ge (wr.heap.size+1)/\V (RD cq aM aM.heap.size (aM.heap.size+1) wr.heap.size (wr.heap.size+1) (.slice bb Y id) u i (fH vs (ft vs outs ae) i) (gj vs (ft vs outs ae) i) v ⟨v.op,v.len,0,P,v.a,v.b,v.c,0⟩))
   case first=>
    have H:V _:=RD.start d9.o di.o ej bL.o yaf cH.o ⟨v.op,v.len,0,P,v.a,v.b,v.c,0⟩;go_region
    all_goals
     go_wp2_with fail
     go_meet
     exact⟨rfl,H.o.keep (eD _)⟩
   case rest=>
    obtain⟨rfl,X⟩:=hcut;clear di d9 b0 cA a8 aJ aP bw b3 cf;have co:=rW bT.o;have S:=rT bT.o;rw[ci]at co S;have cx:V _:=yy v.op co.1 co.2;obtain⟨_,aU,ax,aF⟩:=b7.o.keep (X.o.kept yad);obtain⟨a8,aJ,aP,bw,b3,cf⟩:=X.o.va;obtain⟨bm,aW,bd,cu,cD,cC,cS,dd⟩:=X.o.ta;simp only[Nat.zero_add]at aJ aP bw b3 cf aW bd cu cD cC cS dd;have bg:=X.o.tf 2;have bB:=X.o.tf 4;have cF:=X.o.tf 5;have bD:=X.o.tf 6;have bI:=X.o.tf 7;have dl:V _:=X.o.kept yad;have e2:w.heap.size+1<aM.heap.size:=cQ.o;have fa:aM.heap.size<=wr.heap.size:=eT.o
    have cl:V (∀m:Nat,m<ae->wc.cell? ⟨cy,d4+m,none⟩=some (ih ((ft vs outs ae).getD m 0))):=λm aD=>by
     obtain⟨da,db,t,ad,be,_,_,c⟩:=(aj.o.keep dl.o yaa).at_idx (o:=m) xaa xaa
     cases ad
     obtain rfl:m=t:=xaa
     rw[Int.toNat_natCast]at c
     exact c
    have d6:V (∀m:Nat,m<ae->wc.cell? ⟨g,an+m*6+1,none⟩=some (ih (vs.getD m i0).len)):=λm aD=>by
     obtain⟨aI,cR,ad,_,_,_,c⟩:=(cz.o.v.keep dl.o yaa).at_idx aD
     cases ad
     exact c.c1
    have e8:cy<aM.heap.size:=eb.o;have e6:g<aM.heap.size:=cV;rcases (by have:=io v.op;omega:cnt v.op=0\/cnt v.op=1\/cnt v.op=2\/cnt v.op=3) with ai|ai|ai|ai
    ·rw[ai]at cx;by_cases d2:v.op=1
     ·have HE:V (jO vs (ft vs outs ae) i=⟨v.op,v.len,0,P,v.a,v.b,v.c,v.k⟩):=by
       show _=_;unfold jO;rw[ci,ai,C];simp[d2]
      have H:V _:=X.o.set (AtT.put7 X.o.ta v.k);rw[d2]at a8 cx;clear d2 co S ai;go_upto_region 18 with (first|(go_at_call 38;refine yaj (cx.o _) ?_;rintro e a7 ⟨rfl,rfl⟩)|fail);generalize wc.setCell ⟨wr.heap.size+1,7,none⟩ (.float .f64 v.k)=r at H⊢;exact xad
     have HE:V (jO vs (ft vs outs ae) i=⟨v.op,v.len,0,P,v.a,v.b,v.c,0⟩):=by
      show _=_;unfold jO;rw[ci,ai,C];simp[d2]
     have H:V _:=X.o;go_upto_region 18 with (first|(go_at_call 38;refine yaj (cx.o _) ?_;rintro e a7 ⟨rfl,rfl⟩)|fail);generalize wc=r at H⊢;exact xad
    ·obtain⟨aA,bU,ex⟩:∃m:Nat,v.a=(m:Int)/\m<i:=by
      exact xfx
     rw[bU]at aP;have ca:=cl.o aA xaa;have cX:¬v.op=1:=by intro e;rw[e]at ai;simp[cnt]at ai
     have cO:=d6.o aA xaa;rw[ai]at cx;obtain⟨A,bl⟩:∃A,A=(ft vs outs ae).getD aA 0:=⟨_,rfl⟩
     obtain⟨F,aH⟩:∃A,A=(vs.getD aA i0).len:=⟨_,rfl⟩
     have HE:V (jO vs (ft vs outs ae) i=⟨v.op,v.len,F,P,A,v.b,v.c,0⟩):=by
      show _=_;unfold jO;rw[ci,ai,C,bU,bl,aH];simp[cX]
     rw[<-bl]at ca;rw[<-aH]at cO;have bu:=RD.set X.o (AtT.setC4 (X.o).ta A);have R1:=RD.set bu (AtT.put2 (bu).ta F);have H:V _:=R1;clear bu R1 bl aH;go_upto_region 18 with (first|(go_at_call 38;refine yaj (cx.o _) ?_;rintro e a7 ⟨rfl,rfl⟩)|fail);generalize ((wc.setCell ⟨wr.heap.size+1,4,none⟩ (ih A)).setCell ⟨wr.heap.size+1,2,none⟩ (ih F))=r at H⊢;exact xad
    ·obtain⟨aA,bU,ex⟩:∃m:Nat,v.a=(m:Int)/\m<i:=by
      exact xfx
     rw[bU]at aP;have ca:=cl.o aA xaa
     obtain⟨c7,bv,c6⟩:∃m:Nat,v.b=(m:Int)/\m<i:=by
      exact xiy
     rw[bv]at bw;have ek:=cl.o c7 xaa;have cX:¬v.op=1:=by intro e;rw[e]at ai;simp[cnt]at ai
     have cO:=d6.o aA xaa;rw[ai]at cx;obtain⟨A,bl⟩:∃A,A=(ft vs outs ae).getD aA 0:=⟨_,rfl⟩
     obtain⟨F,aH⟩:∃A,A=(vs.getD aA i0).len:=⟨_,rfl⟩
     obtain⟨bz,b9⟩:∃A,A=(ft vs outs ae).getD c7 0:=⟨_,rfl⟩
     have HE:V (jO vs (ft vs outs ae) i=⟨v.op,v.len,F,P,A,bz,v.c,0⟩):=by
      show _=_;unfold jO;rw[ci,ai,C,bU,bv,bl,aH,b9];simp[cX]
     rw[<-bl]at ca;rw[<-aH]at cO;rw[<-b9]at ek;have bu:=RD.set X.o (AtT.setC4 (X.o).ta A);have R1:=RD.set bu (AtT.put2 (bu).ta F);have R2:=RD.set R1 (AtT.put5 (R1).ta bz);have H:V _:=R2;clear bu R1 R2 bl aH b9;go_upto_region 18 with (first|(go_at_call 38;refine yaj (cx.o _) ?_;rintro e a7 ⟨rfl,rfl⟩)|fail);generalize (((wc.setCell ⟨wr.heap.size+1,4,none⟩ (ih A)).setCell ⟨wr.heap.size+1,2,none⟩ (ih F)).setCell ⟨wr.heap.size+1,5,none⟩ (ih bz))=r at H⊢;exact xad
    obtain⟨aA,bU,ex⟩:∃m:Nat,v.a=(m:Int)/\m<i:=by
     exact xfx
    rw[bU]at aP;have ca:=cl.o aA xaa
    obtain⟨c7,bv,c6⟩:∃m:Nat,v.b=(m:Int)/\m<i:=by
     exact xiy
    rw[bv]at bw;have ek:=cl.o c7 xaa
    obtain⟨bn,am,e9⟩:∃m:Nat,v.c=(m:Int)/\m<i:=by
     have:=S v.c (by unfold fp;rw[ai];simp);exact⟨v.c.toNat,by omega,by omega⟩
    rw[am]at b3;have e3:=cl.o bn xaa;have cX:¬v.op=1:=by intro e;rw[e]at ai;simp[cnt]at ai
    have cO:=d6.o aA xaa;rw[ai]at cx;obtain⟨A,bl⟩:∃A,A=(ft vs outs ae).getD aA 0:=⟨_,rfl⟩
    obtain⟨F,aH⟩:∃A,A=(vs.getD aA i0).len:=⟨_,rfl⟩
    obtain⟨bz,b9⟩:∃A,A=(ft vs outs ae).getD c7 0:=⟨_,rfl⟩
    obtain⟨d5,ed⟩:∃A,A=(ft vs outs ae).getD bn 0:=⟨_,rfl⟩
    have HE:V (jO vs (ft vs outs ae) i=⟨v.op,v.len,F,P,A,bz,d5,0⟩):=by
     show _=_;unfold jO;rw[ci,ai,C,bU,bv,am,bl,aH,b9,ed];simp[cX]
    rw[<-bl]at ca;rw[<-aH]at cO;rw[<-b9]at ek;rw[<-ed]at e3;have bu:=RD.set X.o (AtT.setC4 (X.o).ta A);have R1:=RD.set bu (AtT.put2 (bu).ta F);have R2:=RD.set R1 (AtT.put5 (R1).ta bz);have R3:=RD.set R2 (AtT.put6 (R2).ta d5);have H:V _:=R3;clear bu R1 R2 R3 bl aH b9 ed;go_upto_region 18 with (first|(go_at_call 38;refine yaj (cx.o _) ?_;rintro e a7 ⟨rfl,rfl⟩)|fail);generalize ((((wc.setCell ⟨wr.heap.size+1,4,none⟩ (ih A)).setCell ⟨wr.heap.size+1,2,none⟩ (ih F)).setCell ⟨wr.heap.size+1,5,none⟩ (ih bz)).setCell ⟨wr.heap.size+1,6,none⟩ (ih d5))=r at H⊢;exact xad
  obtain rfl:i=ae:=xaa;go_wp2_with fail;go_loopw [9] (λx W=>∃(k:Nat) (v':Value),k<=aa/\x=ih k/\V (LP W aM aM.heap.size (aM.heap.size+1) (.slice bb Y id) u v' i k (fH vs (ft vs outs i) i) (gj vs (ft vs outs i) i) ((outs.take k).map (jJ vs (ft vs outs i))))) (λx _=>aa-(intOf x).toNat)
  case atStart=>exact⟨0,_,yae,rfl,by rw[List.take_zero];exact hP⟩
  case round=>
   obtain⟨k,v',J,rfl,cj⟩:=hrel;clear hP B aU ax aF;have B:V (Kept 0 0 aM wr):=Chg.kept (Kept.refl 0 0 aM) cj.o.ch (λb hb=>by rcases hb with h|h<;>omega);obtain⟨_,aU,ax,aF⟩:=b7.o.keep B.o;obtain⟨_,bC,bH,bJ,cb,_,_,f2,_⟩:=cj.o.bx;by_cases ct:k<aa
   ·have ev:=lJ (xs:=outs) (q:=k) (jn aV.o.2.1 ct);have e0:=HO.o _ ev;obtain⟨m,em,aD⟩:∃m:Nat,outs.getD k 0=m/\m<i:=⟨(outs.getD k 0).toNat,by omega,by omega⟩
    obtain⟨fj,eg,al,rfl,cG,_,e7,cW⟩:=(cz.o.o.keep B.o yaa).at_idx (o:=k) xaa xaa;obtain rfl:k=al:=xaa;rw[Int.toNat_natCast,em]at cW;obtain⟨cy,d4,ay,rfl,be,_,ew,ce⟩:=(aj.o.keep B.o yaa).at_idx (o:=m) xaa xaa;obtain rfl:m=ay:=xaa;rw[Int.toNat_natCast]at ce;obtain⟨g,an,rfl,az,_,_,bf⟩:=(cz.o.v.keep B.o yaa).at_idx aD;have b4:=bf.c1
    have bA:V ((outs.take (k+1)).map (jJ vs (ft vs outs i))=(outs.take k).map (jJ vs (ft vs outs i))++[⟨(ft vs outs i).getD m 0,(vs.getD m i0).len⟩]):=by
     show _=_;rw[yau (jn aV.o.2.1 ct),List.map_append]
     have e:outs[k]'(jn aV.o.2.1 ct)=(m:Int):=by
      rw[<-em,yai,yam (jn aV.o.2.1 ct)];rfl
     rw[List.map_singleton,e];rfl
    generalize (ft vs outs i).getD m 0=A at ce bA;generalize (vs.getD m i0).len=F at b4 bA;have eq:=cj.o.bz;obtain⟨cN,cP,rfl⟩:=iH cj.o.pv;clear ev e0 em bf;go_wp2_with fail;go_region_law ((refine step_append_lies _ rfl (.tmp 122) (.tmp 134) 26 rfl (aM.heap.size+1) 56 cd Spn.zero.agg 2 16 underlying26 dv dc ez eP rfl xab _ _ (gZ ((outs.take k).map (jJ vs (ft vs outs i)))) (by simp[Act.eval]) (kN cj.o.pv 1 _) ⟨wr.heap.size,0,none⟩ 1 1 (Spn.cells ⟨A,F⟩) (by simp[Act.eval]) rfl (BZ wr ⟨A,F⟩ 1) (Kz _) xab (by unfold maxLen;omega) xaa yag _ rfl ?_;intro g9 cap9 a7 Z bp br cr;obtain⟨_,a0,av,aT,G,_,_,hy,_⟩:=LP.midV cj.o yaf bp))
    all_goals
     have bE:(Value.slice cN k cP).ownBlock=some g9\/g9=wr.heap.size+1:=br.imp (λh=>h) (λe=>by rw[e];show(wr.alloc _).heap.size=_;simp)
     have H:V _:=LP.putV (s:=⟨A,F⟩) cj.o yaf Z bp bE
     rw[<-bA.o]at H
     clear Z bp br bE cr
     go_wp2
     go_roundw;exact⟨k+1,_,by omega,by go_num,H⟩;simp[intOf];omega
   obtain rfl:k=aa:=xaa;obtain⟨K,bk,rfl⟩:=iH cj.o.pu;obtain⟨a3,ab,rfl⟩:=iH cj.o.pv;have X:=cn.o.keep B.o;obtain⟨_,bo,ar,aQ,aN,bR,bV,bW,dg⟩:=X;have cK:V (Kept 0 0 w wr):=bZ.o.trans B.o;have et:V _:=eN d7.o B.o;have cT:V _:=cj.o.pu
   have ec:V (wr.ownsRow (aM.heap.size+1) 56 2 (.slice a3 k ab) k (gZ (outs.map (jJ vs (ft vs outs i))))):=by
    have:=cj.o.pv;rw[yap (by rw[aV.o.2.1];exact yad)]at this;exact this
   have ea:V _:=cj.o.ne;have e2:w.heap.size+1<aM.heap.size:=cQ.o;have ff:w.heap.size+1<ak.heap.size:=bP.o;clear cj;obtain⟨en,ef⟩:∃z,z=fH vs (ft vs outs i) i:=⟨_,rfl⟩
   rw[<-ef]at cb;have ey:V _:=ef;clear ef;go_wp2_with fail;obtain⟨a8,aJ,aP,bw⟩:=iN wr (w.heap.size+1) _ _ _ _ bo ar aQ aN (.slice bb Y id) (.slice K i bk) (.slice a3 k ab) (ih en);have aS:=fR wr (w.heap.size+1) (.slice bb Y id) (.slice K i bk) (.slice a3 k ab) (ih en);refine yaz (v:=jh bb Y id K i bk a3 k ab en) (by simp[results,results37,go_sem,a8,aJ,aP,bw]) rfl ⟨bb,id,K,bk,a3,ab,by rw[ey.o],⟨?_,?_,?_,λg h c=>?_,λg h c=>?_,ea.o,?_⟩,cK.o.new aS xaa⟩
   ·rw[aV.o.2.2];exact gi (fJ et.o aS (λb hb=>i4 (eF et.o hb))) xaa
   ·rw[jT];exact gi (fJ cT.o aS (λb hb=>i4 (eF cT.o hb))) xaa
   ·rw[List.length_map,aV.o.2.1];exact gi (fJ ec.o aS (λb hb=>i4 (eF ec.o hb))) xaa
   ·have:=eF d7.o h;have:=eF cT.o c;omega
   ·have:=eF d7.o h;have:=eF ec.o c;omega
   intro s aw;unfold gj at aw;obtain⟨q,_,rfl⟩:=List.mem_map.1 aw;unfold jO;dsimp only;split
   ·exact IY eS.o q
   decide
