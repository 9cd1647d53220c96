import Derived.Test.YtcjhlkdleojbjaaGreatP20
import Derived.Test.YtcjhlkdleojbjaaGreatP18
namespace Go.Proofs.Z
variable{Zp:Prop}
open Tryz Go.RowKit Flt
set_option maxRecDepth 1000000
set_option maxHeartbeats 0
section
attribute[local go_sem] eF eE eD
variable{w:World}{R aa b U:Option Addr}{n m1 ae base m3 ai cap bJ:Nat}{vs:List Vl}{o C r bE d t z:Int}{H R':Option Nat}{c0 c1 c2 c5 cp cr cn bd ca N aM cx an cy ct cu cw:Value}
theorem It{W vb}(HM:E (MS w W R m1 ae aa m3 ai vs ⟨o,C,r,vb,bE,bJ⟩ base H R' U cap))(au:vs.length<=900000):PfC 27 W (MpR w R m1 ae aa m3 ai vs ⟨o,C,r,vb,bE,bJ⟩ base H (eK 8 C t d z)) c0 c1 c2 (hA d) (hy w.heap.size) c5 cp cr cn bd ca (hy (w.heap.size+1+1)) (hA C) (hA t) cx (hA z) cy ct cu cw bd ca:=by
 unfold PfC;intros;rename_i HK;have HC:E (∀az,Kept 0 0 W az->_):=λaz k=>MS.call HM.o k (eK 8 C t d z) xaa;exact xaf
theorem Iu{W vb}(HM:E (MS w W R m1 ae aa m3 ai vs ⟨o,C,r,vb,bE,bJ⟩ base H R' U cap))(au:vs.length<=900000):PfC 28 W (MpR w R m1 ae aa m3 ai vs ⟨o,C,r,vb,bE,bJ⟩ base H (eK 8 C t z d)) c0 c1 c2 (hA d) (hy w.heap.size) c5 cp cr cn bd ca (hy (w.heap.size+1+1)) (hA C) (hA t) cx (hA z) cy ct cu cw bd ca:=by
 unfold PfC;intros;rename_i HK;have HC:E (∀az,Kept 0 0 W az->_):=λaz k=>MS.call HM.o k (eK 8 C t z d) xaa;exact xaf
theorem On{W vb}(HM:E (MS w W R m1 ae aa m3 ai vs ⟨o,C,r,vb,bE,bJ⟩ base H R' U cap))(au:vs.length<=900000):PfC 36 W (MpR w R m1 ae aa m3 ai vs ⟨o,C,r,vb,bE,bJ⟩ base H (eK 11 1 d 0 bE)) c0 c1 c2 (hA d) (hy w.heap.size) c5 cp cr cn bd ca (hy (w.heap.size+1+1)) N aM cx an cy ct cu cw bd ca:=by
 unfold PfC;intros;rename_i HK;have HC:E (∀az,Kept 0 0 W az->_):=λaz k=>MS.call HM.o k (eK 11 1 d 0 bE) xaa;have aZ:=HM.o.g.c0;have ax:=HM.o.g.c1;have aU:=HM.o.g.c2;have G:=HM.o.v.c4;exact xad
theorem Oo{W vb}{aN j:Nat}{l}(HM:E (MS w W R m1 ae aa m3 ai vs ⟨o,C,(j:Int),vb,bE,bJ⟩ base H R' (some ⟨aN,0,none⟩) cap))(au:vs.length<=900000)(hj:j<vs.length)(m:(vs.getD j hF).len=l):PfC 30 W (MpR w R m1 ae aa m3 ai vs ⟨o,C,(j:Int),vb,bE,bJ⟩ base H (eK 10 l d 0 0)) c0 c1 c2 (hA d) (hy w.heap.size) c5 cp cr cn bd ca (hy (w.heap.size+1+1)) N aM cx an cy ct cu cw bd ca:=by
 unfold PfC;intros;rename_i HK;have HC:E (∀az,Kept 0 0 W az->_):=λaz k=>MS.call HM.o k (eK 10 l d 0 0) xaa;have aZ:=HM.o.g.c0;have ax:=HM.o.g.c1;have aU:=HM.o.g.c2;have a7:=HM.o.v.c2;exact xbr
theorem Lc{W d xs}(h:W.ownsRow base 64 8 (.slice b n d) n (lg xs))(af:xs.length=n)(O:∀v∈xs,v.k<18446744073709551616):TS W base W.heap.size b n xs:=by
 refine⟨af,O,?_⟩;rcases h.2 with⟨_,c⟩|⟨g,cap,av,e,R,aS,aa,_,b7,ba⟩
 ·exact .inl c
 injection e with aC aL b1;have aJ:g<W.heap.size:=by grind
 refine .inr ⟨g,0,aC,R,aJ,aJ,λk O=>?_⟩
 have ah:∀j,j<8->W.cell? ⟨g,0+k*8+j,_⟩=(xs.getD k _).cells[j]?:=λj hj=>by
  rw[cell_of_row W g _ _ _ _ aS,<-Array.getElem?_toList]
  have:(av.toList.take (n*8))[k*8+j]? =(lg xs)[k*8+j]?:=by rw[ba]
  rw[List.getElem?_take_of_lt xaa,zu _ _ _ xaa hj]at this
  rw[Nat.zero_add]
  exact this
 exact⟨ah 0 xaa,ah 1 xaa,ah 2 xaa,ah 3 xaa,ah 4 xaa,ah 5 xaa,ah 6 xaa,ah 7 xaa⟩
theorem Ld{W d xs}(h:W.ownsRow base 67 2 (.slice b n d) n (fL xs))(af:xs.length=n):PS W base W.heap.size b n xs:=by
 refine⟨af,?_⟩;rcases h.2 with⟨_,c⟩|⟨g,cap,av,e,R,aS,aa,_,b7,ba⟩
 ·exact .inl c
 injection e with aC aL b1;have aJ:g<W.heap.size:=by grind
 refine .inr ⟨g,0,aC,R,aJ,aJ,λk O=>?_⟩
 have ah:∀j,j<2->W.cell? ⟨g,0+k*2+j,_⟩=(xs.getD k _).cells[j]?:=λj hj=>by
  rw[cell_of_row W g _ _ _ _ aS,<-Array.getElem?_toList]
  have:(av.toList.take (n*2))[k*2+j]? =(fL xs)[k*2+j]?:=by rw[ba]
  rw[List.getElem?_take_of_lt xaa,qz _ _ _ xaa hj]at this
  rw[Nat.zero_add]
  exact this
 exact⟨ah 0 xaa,ah 1 xaa⟩
theorem CJ{W d xs}(h:W.ownsRow base 3 1 (.slice b n d) n (xs.map (Value.int .i64)))(af:xs.length=n):IS W base W.heap.size b n xs:=by
 rcases wM h af with al|⟨g,e,hb,q⟩
 ·exact⟨af,.inl al⟩
 exact⟨af,.inr ⟨g,0,e,hb,q.lt,q.lt,λk O=>by rw[Nat.zero_add];exact q.at_ k O⟩⟩
theorem opm{x:Int}{q:Nat}(h:0<=x/\x<q):∃m:Nat,x=m/\m<q:=⟨x.toNat,by omega,by omega⟩
theorem PlP{y:Prop}(h:y:=by
 obtain⟨m,em,am⟩:=ho c;have F:=HPC.o _ (HR0.o.kept yad) m xaa;have H:E _:=hput m;simp only[Nat.zero_add]at tq;simp only[em]at y2 y3 y4;have ar:=Int.ofNat_lt.2 c;have g8:(m:Int)<n2:=xaa;have a6:(0:Int)<=m:=xaa;generalize (eW vs outs n2).getD m 0=A at F H;clear c em hops HR0 HPC HGC ho hput;go_wp2_with fail;go_meet;exact⟨_,H⟩):y:=h
theorem PlN{y:Prop}(h:y:=by
 have ar:=mt Int.ofNat_lt.1 c;clear c;go_wp2_with fail;go_meet;exact⟨_,HR0⟩):y:=h
theorem bG.qcf(h:Zp:=by
 have HK:E _:=bq.trans aw;have HC:E _:=GN _ R aS aa Z c1 n2 c2 ab c3 ins vs outs ((f.keep bq).keep aw) bV;clear f bV cf b1 cB aO ho cq cK cH cG bq aw ao;obtain⟨_,aY,aC,aL⟩:=av.o;go_enter func17,ntmps17;go_wp2_with fail;refine yaj HC.o ?_;rintro e ag ⟨F,di,rfl,d5,ak⟩;have bL:E _:=d5;have bB:E _:=HK.o.trans ak;have y:E _:=av.o.keep ak;have bU:E _:=HF.o.keep ak;have aI:E _:=nZ ag _ _ R Z c1 ins xaa (HF.o.keep ak).i;have bN:E _:=(tU (w.alloc (e9 R Z c1 aS n2 c2 aa ab c3))).keep ak;have aB:E ((w.alloc (e9 R Z c1 aS n2 c2 aa ab c3)).heap.size=w.heap.size+1):=by show _=_;simp
 rw[aB.o]at bN;have az:E (w.heap.size+1<ag.heap.size):=bN.o.sz;clear HC av HF HK d5 ak aY aC aL aT aB;obtain⟨_,aY,aC,aL⟩:=y.o;go_wp2_with fail;refine yaj aI.o ?_;rintro e aF ⟨ap,id,rfl,aX,aR⟩;have aK:E _:=bB.o.trans aR;have cj:E _:=y.o.keep aR;have bX:E _:=bU.o.keep aR;have aD:E _:=IS.mono (bL.o.keep aR yaa) yad aR.size;have X:E _:=bN.o.keep aR;clear aI y bU bB bL bN aX aR aY aC aL;go_wp2_with fail;have G:E (w.heap.size+1<aF.heap.size):=X.o.sz;have aV:E _:=zv aF (.slice ap Z id);go_loopw [5] (λx W=>∃(k:Nat) (u:Value) (ss:List Ste),k<=n2/\x=hA k/\E (LP W aF aF.heap.size (aF.heap.size+1) (.slice ap Z id) u (.slice none 0 0) k 0 (fg vs (eW vs outs n2) k) ss [])) (λx _=>n2-(intOf x).toNat)
 case atStart=>exact⟨0,_,_,yae,rfl,aV⟩
 case round=>
  obtain⟨i,u,ss,hi,rfl,hP⟩:=hrel;clear aV;have Q:E (Kept 0 0 aF wr):=Chg.kept (Kept.refl 0 0 aF) hP.o.ch (λb hb=>by rcases hb with h|h<;>omega);obtain⟨_,aY,aC,aL⟩:=cj.o.keep Q.o;by_cases aG:i<n2
  ·obtain⟨g,off,rfl,aJ,cM,_,ba,aP,y2,y3,y4,ck⟩:=bX.o.v.keep Q.o yaa |>.at_idx aG
   obtain⟨q,I,bA,ae,a9,_,d1,ce⟩:=(aD.o.keep Q.o yaa).at_idx (o:=i) xaa xaa;subst ae
   have ec:q<aF.heap.size:=by
    rcases aD.o.at_ with z|⟨aq,bp,aN,_,_,bi,_⟩
    ·omega
    cases aN;exact bi
   obtain rfl:i=bA:=xaa;rw[Int.toNat_natCast]at ce;have c7:E _:=bH.o i aG;generalize cV:vs.getD i hF=v at ba aP y2 y3 y4 ck;have J:E _:=i9 wr v;have bM:=ez 0 0 wr (fH v.op v.len v.a v.b v.c v.k);have cX:E _:=hP.o.keep bM;have bO:E _:=Q.o.trans bM;have c8:(wr.alloc (fH v.op v.len v.a v.b v.c v.k)).heap.size=wr.heap.size+1:=by simp
   have cI:(wr.alloc (fH v.op v.len v.a v.b v.c v.k)).cell? ⟨q,I+i,none⟩=some (hA ((eW vs outs n2).getD i 0)):=by rw[bM.cell (p:=⟨q,I+i,none⟩) d1 xaa];exact ce
   go_wp2_with fail;have d7:E (aF.heap.size<=wr.heap.size):=Q.o.size;have c6:E (q<aF.heap.size):=ec;have al:E (aF.heap.size+1<=wr.heap.size):=hP.o.bz;have d6:E (∀g,u.ownBlock=some g->g<wr.heap.size):=λg h=>(eH hP.o.pu h).2;clear bM ba aP y2 y3 y4 ck aY aC aL ce hP Q;generalize wr.alloc (fH v.op v.len v.a v.b v.c v.k)=bc at J cX bO c8 cI⊢;obtain⟨ba,aP,y2,y3,y4,ck⟩:=J.o;simp only[Nat.zero_add]at aP y2 y3 y4 ck;generalize aA:(eW vs outs n2).getD i 0=P at cI;have dT:E (∀g,u.ownBlock=some g->g<wr.heap.size):=d6.o;go_cut [7] (λp cd=>p=hy (wr.heap.size+1)/\E (RD cd aF aF.heap.size (aF.heap.size+1) wr.heap.size (wr.heap.size+1) (.slice ap Z id) u i (fg vs (eW vs outs n2) i) ss v ⟨v.op,v.len,0,P,v.a,v.b,v.c,0⟩))
   case first=>
    have H:E _:=RD.start cX.o J.o c8 al.o yaf dT.o ⟨v.op,v.len,0,P,v.a,v.b,v.c,0⟩;go_region
    all_goals
     go_wp2_with fail
     go_meet
     exact⟨rfl,H.o.keep (eG _)⟩
   case rest=>
    obtain⟨rfl,K⟩:=hcut;clear J cX bO cI ba aP y2 y3 y4 ck;have b9:=mY c7.o;have hops:=qe c7.o;rw[cV]at b9 hops;have a5:E _:=Cc v.op b9.1 b9.2;have d4:w.heap.size+1<aF.heap.size:=G.o;have ep:aF.heap.size<=wr.heap.size:=d7.o
    have HPC:E (∀W,Kept 0 0 aF W->∀m:Nat,m<n2->W.cell? ⟨q,I+m,none⟩=some (hA ((eW vs outs n2).getD m 0))):=λW k m am=>by
     obtain⟨ee,ef,ds,ae,a9,_,_,c⟩:=(aD.o.keep k yaa).at_idx (o:=m) xaa xaa
     cases ae
     obtain rfl:m=ds:=xaa
     rw[Int.toNat_natCast]at c
     exact c
    have HGC:E (∀W,Kept 0 0 aF W->∀m:Nat,m<n2->W.cell? ⟨g,off+m*6+1,none⟩=some (hA (vs.getD m hF).len)):=λW k m am=>by
     obtain⟨aq,aQ,ae,_,_,_,c⟩:=(bX.o.v.keep k yaa).at_idx am
     cases ae
     exact c.c1
    have en:q<aF.heap.size:=c6.o;have ek:g<aF.heap.size:=cM;have co:E (vs.getD i hF=v):=cV;have HR0:E _:=K;clear K cV;obtain⟨_,aY,aC,aL⟩:=cj.o.keep (HR0.o.kept yad);obtain⟨ba,aP,y2,y3,y4,ck⟩:=HR0.o.va;simp only[Nat.zero_add]at aP y2 y3 y4 ck;go_upto_if 48 with (first|(go_at_call 51;refine yaj (a5.o _) ?_;rintro e bj ⟨rfl,rfl⟩)|fail)
    go_cut [] from 47 to 62 (λcd=>∃s,E (RD cd aF aF.heap.size (aF.heap.size+1) wr.heap.size (wr.heap.size+1) (.slice ap Z id) u i (fg vs (eW vs outs n2) i) ss v s))
    case first=>
     by_cases c:0<cnt v.op
     ·obtain⟨m,em,am⟩:=opm (hops v.a (wJ c));have F:=HPC.o _ (HR0.o.kept yad) m xaa;have d0:=HGC.o _ (HR0.o.kept yad) m xaa;have ah:=RD.set HR0.o (AtT.setC4 HR0.o.ta ((eW vs outs n2).getD m 0));have H:E _:=RD.set ah (AtT.put2 ah.ta (vs.getD m hF).len);have a8:=HR0.o.tf 2;have bb:=HR0.o.ta.c2;clear ah;have bk:=HR0.o.tf 4;have cg:=HR0.o.ta.c4;simp only[Nat.zero_add]at cg bb;rw[em]at y2;have ar:=Int.ofNat_lt.2 c;have g8:(m:Int)<n2:=xaa;have a6:(0:Int)<=m:=xaa;generalize (eW vs outs n2).getD m 0=A at F H;generalize (vs.getD m hF).len=bv at d0 H;clear c em hops HR0 HPC HGC;go_wp2_with fail;go_meet;exact⟨_,H⟩
     exact PlN
    case rest=>
    obtain⟨s,HR0⟩:=hcut;clear aY aC aL ba aP y2 y3 y4 ck;obtain⟨_,aY,aC,aL⟩:=cj.o.keep (HR0.o.kept yad);obtain⟨ba,aP,y2,y3,y4,ck⟩:=HR0.o.va;simp only[Nat.zero_add]at aP y2 y3 y4 ck;go_upto_if 64 with fail
    go_cut [] from 63 to 70 (λcd=>∃s,E (RD cd aF aF.heap.size (aF.heap.size+1) wr.heap.size (wr.heap.size+1) (.slice ap Z id) u i (fg vs (eW vs outs n2) i) ss v s))
    case first=>
     have ho:=λc=>opm (hops v.b (wK c));have hput:=λm=>RD.set HR0.o (AtT.put5 HR0.o.ta ((eW vs outs n2).getD m 0));have hf:=HR0.o.tf 5;have tq:=HR0.o.ta.c5;by_cases c:1<cnt v.op
     ·exact PlP
     exact PlN
    case rest=>
    obtain⟨s,HR0⟩:=hcut;clear aY aC aL ba aP y2 y3 y4 ck;obtain⟨_,aY,aC,aL⟩:=cj.o.keep (HR0.o.kept yad);obtain⟨ba,aP,y2,y3,y4,ck⟩:=HR0.o.va;simp only[Nat.zero_add]at aP y2 y3 y4 ck;go_upto_if 72 with fail
    go_cut [] from 71 to 78 (λcd=>∃s,E (RD cd aF aF.heap.size (aF.heap.size+1) wr.heap.size (wr.heap.size+1) (.slice ap Z id) u i (fg vs (eW vs outs n2) i) ss v s))
    case first=>
     have ho:=λc=>opm (hops v.c (wL c));have hput:=λm=>RD.set HR0.o (AtT.put6 HR0.o.ta ((eW vs outs n2).getD m 0));have hf:=HR0.o.tf 6;have tq:=HR0.o.ta.c6;by_cases c:2<cnt v.op
     ·exact PlP
     exact PlN
    case rest=>
    obtain⟨s,HR0⟩:=hcut;clear aY aC aL ba aP y2 y3 y4 ck;obtain⟨_,aY,aC,aL⟩:=cj.o.keep (HR0.o.kept yad);obtain⟨ba,aP,y2,y3,y4,ck⟩:=HR0.o.va;simp only[Nat.zero_add]at aP y2 y3 y4 ck;go_upto_if 81 with fail
    go_cut [] from 79 to 84 (λcd=>∃s,E (RD cd aF aF.heap.size (aF.heap.size+1) wr.heap.size (wr.heap.size+1) (.slice ap Z id) u i (fg vs (eW vs outs n2) i) ss v s))
    case first=>
     by_cases c:v.op=1
     ·have H:E _:=RD.set HR0.o (AtT.put7 HR0.o.ta v.k);have b8:=HR0.o.tf 7;have cc:=HR0.o.ta.c7;simp only[Nat.zero_add]at cc;have ar:(v.op==1)=true:=by rw[beq_iff_eq];exact c
      clear c HR0;go_wp2_with fail;go_meet;exact⟨_,H⟩
     have ar:(v.op==1)=false:=by rw[beq_eq_false_iff_ne];exact c
     clear c;go_wp2_with fail;go_meet;exact⟨_,HR0⟩
    case rest=>
    obtain⟨st,H⟩:=hcut;clear HR0 aY aC aL ba aP y2 y3 y4 ck b9 hops HPC HGC;have au:=cW.o i aG;have bn:=bS.o (i+1) xaa;rw[aA,co.o]at au
    have cF:E (fg vs (eW vs outs n2) (i+1)=if fg vs (eW vs outs n2) i<P+v.len then P+v.len else fg vs (eW vs outs n2) i):=by
     show _=_;rw[fg,aA,co.o]
    generalize fg vs (eW vs outs n2) i=bA at H cF;obtain⟨_,bz,bo,bw,bR,_,f1,_,f3⟩:=H.o.lp.bx;obtain⟨aZ,ax,aU,bx,cD,cJ,cl,dv⟩:=H.o.ta;simp only[Nat.zero_add]at ax aU bx cD cJ cl dv;have cS:=H.o.lp.bz;have ej:=H.o.lt;go_wp2_with (first|(at_builtin;refine wpList_append_lies _ rfl _ _ 30 rfl (aF.heap.size+1) 64 bW Ste.zero.agg 8 64 underlying30 c9 b4 b3 b0 rfl xab _ _ (lg ss) rfl (H.o.lp.pu.alloc _) ⟨wc.heap.size,0,none⟩ 1 1 st.cells rfl rfl (MW wc st 0) (PC st) xab (by unfold maxLen;omega) xaa yag _ rfl ?_;intro g9 cap9 bj bF aW bT cz;obtain⟨_,ci,m1,b7,m3,_,dd,_,df⟩:=LP.mid (z:=0) H.o.lp yaf aW)|fail);have bQ:u.ownBlock=some g9\/g9=wc.heap.size+1:=bT.imp (λh=>h) (λe=>by rw[e];simp);have R2:E _:=LP.putU (z:=0) (s:=st) H.o.lp yaf bF aW bQ;have d2:bj.cell? ⟨wr.heap.size,1,none⟩=some (hA v.len):=kG (m:=0) aW (hJ H.o.vs) (λc=>hJ (dT.o _ c)) (by have:=H.o.va.c1;rw[Nat.zero_add]at this;exact this)
    have d3:(bj.setCell ⟨aF.heap.size,1,none⟩ (hz g9 (i+1) cap9)).cell? ⟨wr.heap.size,1,none⟩=some (hA v.len):=by
     rw[eQ _ _ _ _ _ _ (.inl (hJ H.o.bv))];exact d2
    have bY:E (Kept 0 0 aF (bj.setCell ⟨aF.heap.size,1,none⟩ (hz g9 (i+1) cap9))):=Chg.kept (Kept.refl 0 0 aF) R2.o.ch (λb hb=>by rcases hb with h|h<;>omega);have bu:E (wr.heap.size<(bj.setCell ⟨aF.heap.size,1,none⟩ (hz g9 (i+1) cap9)).heap.size):=World.block_lt_of_cell? _ _ d3;clear bF aW bT bQ cz ci m1 b7 m3 dd df bz bo bw bR f1 f3 aZ ax aU bx cD cJ cl dv d2 H;generalize bj.setCell ⟨aF.heap.size,1,none⟩ (hz g9 (i+1) cap9)=bD at R2 d3 bY bu⊢;obtain⟨_,bz,bo,bw,bR,_,_,_,f3⟩:=R2.o.bx;obtain⟨ee,ef,ds,ae,a9,_,el,a2⟩:=(aD.o.keep bY.o yaa).at_idx (o:=i) xaa xaa;cases ae;obtain rfl:i=ds:=xaa;rw[Int.toNat_natCast,aA]at a2;have bg:=fU c7.o;rw[co.o]at bg;by_cases ew:bA<P+v.len
    ·rw[hD ew]at cF;have R3:E _:=LP.putP R2.o yaf (P+v.len);go_region
     all_goals
      go_wp2_with fail
      go_region
      all_goals
       go_wp2
       go_roundw;exact⟨i+1,_,_,by omega,by go_num,by rw[cF.o];exact R3.o.keep ((eG _).trans (eG _))⟩;simp[intOf];omega
    rw[hC ew]at cF;rw[<-cF.o]at R2;go_region
    all_goals
     go_wp2
     go_roundw;exact⟨i+1,_,_,by omega,by go_num,R2.o.keep (eG _)⟩;simp[intOf];omega
  obtain rfl:i=n2:=xaa;go_wp2_with fail;go_loopw [9] (λx W=>∃(k:Nat) (v':Value) (bG:List Spn),k<=ab/\x=hA k/\E (LP W aF aF.heap.size (aF.heap.size+1) (.slice ap Z id) u v' i k (fg vs (eW vs outs i) i) ss bG)) (λx _=>ab-(intOf x).toNat)
  case atStart=>exact⟨0,_,_,yae,rfl,hP⟩
  case round=>
   obtain⟨k,v',bG,O,rfl,ad⟩:=hrel;clear hP Q aY aC aL;have Q:E (Kept 0 0 aF wr):=Chg.kept (Kept.refl 0 0 aF) ad.o.ch (λb hb=>by rcases hb with h|h<;>omega);obtain⟨_,aY,aC,aL⟩:=cj.o.keep Q.o;obtain⟨_,bz,bo,bw,bR,_,_,f2,_⟩:=ad.o.bx;by_cases bK:k<ab
   ·exact qfw
   obtain rfl:k=ab:=xaa;obtain⟨U,bf,rfl⟩:=im ad.o.pu;obtain⟨a3,Y,rfl⟩:=im ad.o.pv;have K:=X.o.keep Q.o;obtain⟨_,br,ay,a0,ch,bZ,b5,b6,eg⟩:=K;have bl:E (Kept 0 0 w wr):=aK.o.trans Q.o;have d4:w.heap.size+1<aF.heap.size:=G.o;have er:w.heap.size+1<ag.heap.size:=az.o;clear ad;obtain⟨af,bC⟩:∃z,z=fg vs (eW vs outs i) i:=⟨_,rfl⟩
   rw[<-bC]at bR;have cU:E _:=bC;clear bC;go_wp2_with fail;obtain⟨ba,aP,y2,y3⟩:=xu wr (w.heap.size+1) _ _ _ _ br ay a0 ch (.slice ap Z id) (.slice U i bf) (.slice a3 k Y) (hA af);have S:=oV wr (w.heap.size+1) (.slice ap Z id) (.slice U i bf) (.slice a3 k Y) (hA af);refine yaz (v:=re ap Z id U i bf a3 k Y af) (by simp[results,results17,go_sem,ba,aP,y2,y3]) rfl ⟨ap,id,U,bf,a3,Y,by rw[cU.o],bl.o.new S xaa⟩):Zp:=h
theorem bG.qei(h:Zp:=by
 have l:Z<=20:=xaa;have be:n2<=2000:=xaa;have cP:ab<=50:=xaa;have bH:E (∀j,j<n2->okV ins vs j=true):=λj hj=>aO j xaa;have HO:E (∀o∈outs,0<=o/\o<(n2:Int)):=λo h=>hJ (ho o h)
 have ao:E (jW vs n2<=50000):=by
  exact xfc
 have cW:E _:=kZ (outs:=outs) (n:=n2) (λk O=>(fU (bH.o k O)).1) ao.o n2 yad;have bS:E (∀j,j<=n2->jW vs j<=50000):=λj hj=>Int.le_trans (gY (n:=n2) (λk O=>(fU (bH.o k O)).1) hj yad) ao.o;have cA:E (vs.length=n2/\outs.length=ab/\ins.length=Z):=⟨cq,cK,cH⟩
 exact qce):Zp:=h
theorem bG.qfx(h:Zp:=by
 obtain⟨ed,dg,aj,rfl,ea,_,eb,cR⟩:=(bX.o.o.keep Q.o yaa).at_idx (o:=k) xaa xaa;obtain rfl:k=aj:=xaa;rw[Int.toNat_natCast,em]at cR;obtain⟨q,I,bA,rfl,a9,_,d1,ce⟩:=(aD.o.keep Q.o yaa).at_idx (o:=m) xaa xaa;obtain rfl:m=bA:=xaa;rw[Int.toNat_natCast]at ce;obtain⟨g,off,rfl,aJ,_,_,a7⟩:=(bX.o.v.keep Q.o yaa).at_idx am;have b2:=a7.c1;generalize (eW vs outs i).getD m 0=A at ce;generalize (vs.getD m hF).len=bv at b2;have cQ:=ad.o.bz;obtain⟨cN,cO,rfl⟩:=im ad.o.pv;clear cT dc em a7;go_wp2_with fail;go_region_law ((refine step_append_lies _ rfl (.tmp 122) (.tmp 134) 31 rfl (aF.heap.size+1) 67 bm Spn.zero.agg 2 16 underlying31 bI cC bh bP rfl xab _ _ (fL bG) (by simp[Act.eval]) (kE ad.o.pv 1 _) ⟨wr.heap.size,0,none⟩ 1 1 (Spn.cells ⟨A,bv⟩) (by simp[Act.eval]) rfl (MX wr ⟨A,bv⟩ 1) (PD _) xab (by unfold maxLen;omega) xaa yag _ rfl ?_;intro g9 cap9 bj bF aW bT cz;obtain⟨_,aZ,ax,aU,bx,_,_,ei,_⟩:=LP.midV ad.o yaf aW))
 all_goals
  have bQ:(Value.slice cN k cO).ownBlock=some g9\/g9=wr.heap.size+1:=bT.imp (λh=>h) (λe=>by rw[e];show(wr.alloc _).heap.size=_;simp)
  have H:E _:=LP.putV (s:=⟨A,bv⟩) ad.o yaf bF aW bQ
  clear bF aW bT bQ cz
  go_wp2
  go_roundw;exact⟨k+1,_,_,by omega,by go_num,H⟩;simp[intOf];omega):Zp:=h
open bG in
theorem CK(w R aS aa Z c1 n2 c2 ab c3 ins vs outs)(f:GS w R Z aS n2 aa ab ins vs outs)(bV:okG ins vs outs=true):
  Calls prog 17 #[eZ R Z c1 aS n2 c2 aa ab c3] w λe B=>∃a1 aH U bf a3 Y,e=.returned (re a1 Z aH U n2 bf a3 ab Y (fg vs (eW vs outs n2) n2))/\Kept 0 0 w B:=by
 exact qeh
theorem cL.qen(h:Zp:=by
 obtain⟨bA,P⟩:∃z,z=fg vs (eW vs outs n2) n2:=⟨_,rfl⟩
 rw[<-P]at hb⊢;have cF:E _:=P;clear f bV bq aw bv P;obtain⟨_,aY,aC,aL⟩:=av.o;go_enter func6,ntmps6;go_wp2_with fail;refine yaj bH.o ?_;rintro e ag ⟨rfl,ak⟩;have bI:E _:=HR.o.keep ak;have bB:E _:=HK.o.trans ak;have al:E _:=CK ag R aS aa Z c1 n2 c2 ab c3 ins vs outs (HF.o.keep ak) cD.o;rw[<-cF.o]at al;obtain⟨_,aY,aC,aL⟩:=av.o.keep ak;clear bH av HR HK HF ak;go_wp2_with fail;refine yaj al.o ?_;rintro e aF ⟨a1,aH,U,bf,a3,Y,rfl,aR⟩;have p:=ez 0 0 aF (mH a1 Z aH U n2 bf a3 ab Y bA);have aK:E _:=(bB.o.trans aR).trans p;obtain⟨gy,_⟩:=bI.o.keep aR;obtain⟨_,br,ay,a0,ch,bG,f1,f2,f3⟩:=(bI.o.keep aR).keep p;obtain⟨_,bz,bo,bw,bR⟩:=jZ aF (.slice a1 Z aH) (.slice U n2 bf) (.slice a3 ab Y) (hA bA);clear al bI bB aY aC aL aR p;go_upto_region 4 with fail;generalize aF.alloc (mH a1 Z aH U n2 bf a3 ab Y bA)=bc at aK br ay a0 ch bG f1 f2 f3 bz bo bw bR⊢;go_wp2_with fail;obtain⟨ba,aP,y2,y3⟩:=xu bc (w.heap.size+1) _ _ _ _ br ay a0 ch (.slice a1 Z aH) (.slice U n2 bf) (.slice a3 ab Y) (hA bA);have S:=oV bc (w.heap.size+1) (.slice a1 Z aH) (.slice U n2 bf) (.slice a3 ab Y) (hA bA);exact yaz (v:=.tuple #[re a1 Z aH U n2 bf a3 ab Y bA,hA 0]) (by simp[results,results6,go_sem,ba,aP,y2,y3]) rfl ⟨a1,aH,U,bf,a3,Y,rfl,aK.o.new S xaa⟩):Zp:=h
open cL in
theorem EW{aS Z c1 n2 c2 ab c3 bud ins outs}(f:GS w R Z aS n2 aa ab ins vs outs)(bV:okG ins vs outs=true)(hb:¬bud<fg vs (eW vs outs n2) n2):
  Calls prog 6 #[eZ R Z c1 aS n2 c2 aa ab c3,hA bud] w λe B=>∃a1 aH U bf a3 Y,e=.returned (.tuple #[re a1 Z aH U n2 bf a3 ab Y (fg vs (eW vs outs n2) n2),hA 0])/\Kept 0 0 w B:=by
 have bq:=ez 0 0 w (e9 R Z c1 aS n2 c2 aa ab c3);have aw:=ez 0 0 (w.alloc (e9 R Z c1 aS n2 c2 aa ab c3)) tO;have av:E _:=(fB w (.slice R Z c1) (.slice aS n2 c2) (.slice aa ab c3)).keep aw;have HF:E _:=(f.keep bq).keep aw;have bH:E _:=oU _ R aS aa Z c1 n2 c2 ab c3 ins vs outs ((f.keep bq).keep aw);rw[bV]at bH;have cD:E _:=bV;exact qem
end
section
variable{I:World}{D J n:Nat}{u:Nat->Value}{L:Nat->List Int}
structure DB(W:World)(D B n:Nat)(u:Nat->Value)(L:Nat->List Int):Prop where
 lt:D<W.heap.size
 fr:∀o,W.frozen? ⟨D,o,none⟩=false
 at_:∀b,b<n->W.cell? ⟨D,b,none⟩=some (u b)
 row:∀b,b<n->W.ownsRow B 3 1 (u b) (L b).length ((L b).map (Value.int .i64))
 ne:∀b b',b<n->b'<n->b≠b'->∀g,(u b).ownBlock=some g->(u b').ownBlock≠some g
theorem DB.keepC{W S}(f:DB W D J n u L)(k:Chg S W I)(bl:¬S D)(aT:∀g,J<=g->g<W.heap.size->¬S g):DB I D J n u L where
 lt:=yak f.lt k.size
 fr:=λo=>by rw[k.frozen (p:=⟨D,o,none⟩) f.lt bl];exact f.fr o
 at_:=λb hb=>by rw[k.cell (p:=⟨D,b,none⟩) f.lt bl];exact f.at_ b hb
 row:=λb hb=>fi (f.row b hb) k (λg aJ=>by have:=eH (f.row b hb) aJ;exact aT g this.1 this.2)
 ne:=f.ne
theorem DB.keep{W}(f:DB W D J n u L)(k:Kept 0 0 W I):DB I D J n u L:=f.keepC (S:=λ_=>False) k.chg (λh=>h) (λ_ _ _ h=>h)
theorem DB.congr{W L'}(f:DB W D J n u L)(h:∀b,b<n->L b=L' b):DB W D J n u L':=
 ⟨f.lt,f.fr,f.at_,λb hb=>by rw[<-h b hb];exact f.row b hb,f.ne⟩
def Le(u:Nat->Value)(b:Nat)(x:Value):Nat->Value:=λj=>if j=b then x else u j
def Lf(L:Nat->List Int)(b:Nat)(x:List Int):Nat->List Int:=λj=>if j=b then x else L j
theorem DB.put{W b g cap x o}(f:DB W D J n u L)(hb:b<n)(bl:D<J)
  (ho:I.ownsRow J 3 1 (hz g ((L b).length+1) cap) ((L b).length+1) ((L b).map (Value.int .i64)++[hA x])) (aJ:(W.alloc o).grownBy I (u b).ownBlock) (ar:(u b).ownBlock=some g\/g=W.heap.size+1):
  DB (I.setCell ⟨D,b,none⟩ (hz g ((L b).length+1) cap)) D J n (Le u b (hz g ((L b).length+1) cap)) (Lf L b (L b++[x])):=by
 have bh:=ez 0 0 W o;have aH:=gh aJ;have bQ:=eH ho (k:=g) rfl;have i:∀c,(u b).ownBlock=some c->J<=c:=λc ah=>(eH (f.row b hb) ah).1;have f1:=f.keep bh;have b9:∀o,I.cell? ⟨D,o,none⟩=(W.alloc _).cell? ⟨D,o,none⟩:=λo=>aH.cell (p:=⟨D,o,none⟩) f1.lt (λc=>hJ (i D c));have ae:∀o,I.frozen? ⟨D,o,none⟩=(W.alloc _).frozen? ⟨D,o,none⟩:=λo=>aH.frozen (p:=⟨D,o,none⟩) f1.lt (λc=>hJ (i D c));refine⟨?_,λo=>?_,λj hj=>?_,λj hj=>?_,λj v hj m bL c ah=>?_⟩
 ·have:=aH.size;have:=f1.lt;simp;omega
 ·rw[World.frozen?_setCell,ae];exact f1.fr o
 ·unfold Le;by_cases e:j=b
  ·subst e;rw[hD rfl];exact fy _ _ _ _ _ ((b9 j).trans (f1.at_ j hj))
  rw[hC e,eQ _ _ _ _ _ _ (.inr (λc=>e c.symm)),b9];exact f1.at_ j hj
 ·unfold Le Lf;by_cases e:j=b
  ·subst e;rw[hD rfl,hD rfl,yal,List.length_singleton,List.map_append];exact eI ho (λc=>by simp[Value.ownBlock]at c;omega)
  rw[hC e,hC e];refine eI (fi (f1.row j hj) aH (λc ah aV=>f.ne j b hj hb e c ah aV)) (λc=>by have:=(eH (f.row j hj) c).1;omega)
 unfold Le at ah⊢;by_cases e:j=b
 ·subst e;rw[hD rfl]at ah;rw[hC (λc=>bL c.symm)];have aV:g=c:=by simpa[Value.ownBlock] using ah
  subst aV;intro aO;rcases ar with h|h
  ·exact f.ne j v hj m bL g h aO
  have:=(eH (f.row v m) aO).2;omega
 rw[hC e]at ah;by_cases aN:v=b
 ·subst aN;rw[hD rfl];intro aO;have l:g=c:=by simpa[Value.ownBlock] using aO
  subst l;rcases ar with h|h
  ·exact f.ne j v hj m bL g ah h
  have:=(eH (f.row j hj) ah).2;omega
 rw[hC aN];exact f.ne j v hj m bL c ah
theorem Oq:(prog.info? 23).map (λi=>(i.zero,i.size,i.bytes))=some (some (.slice none 0 0),1,24):=by kernel_rfl
theorem Lg(n:Nat)(w)(ad:n<=1099511627776):
  (Instr.makeSlice 95 (hA n) (hA n)).run prog w=.ok (hz w.heap.size n n) (w.alloc (.cells (madeCells #[.slice none 0 0] n) 23)):=by
 obtain⟨i,hi,b4,b3,b0⟩:=info_parts Oq;have:=run_make (P:=prog) w 95 23 i (.slice none 0 0) underlying95 hi b4 .i64 .i64 n n xaa xaa (hN b0) xaa;exact qbr
theorem DB.made(w:World)(n):DB (w.alloc (.cells (madeCells #[.slice none 0 0] n) 23)) w.heap.size (w.heap.size+1) n (λ_=>.slice none 0 0) (λ_=>[]) where
 lt:=by simp
 fr:=λo=>by simp
 at_:=λj hj=>by
  rw[yav]
  simp only[madeCells]
  rw[Array.getElem?_map,Array.getElem?_range,hD hj]
  have am:j%1=0:=Nat.mod_one j
  simp[am]
 row:=λ_ _=>yaw _ _ _ _
 ne:=λ_ _ _ _ _ g h=>by simp[Value.ownBlock]at h
theorem Ot(w lo hi a n cap xs)(x:Nat)(f:IS w lo hi a n xs)(ad:n<=100000):
  Calls prog 111 #[.slice a n cap,hA x] w λe B=>(∃r:Int,e=.returned (hA r)/\decide (0<=r)=isO xs x)/\w=B:=by
 have HL:E (xs.length=n):=f.len;have HC:E _:=f;clear f;go_enter func111,ntmps111;go_wp2_with fail;go_loop [8] (λi=>∃k:Nat,k<=n/\i=hA k/\E ((xs.take k).any (λo=>o==(x:Int))=false)) (λi=>n-(intOf i).toNat)
 case atStart=>exact⟨0,yae,rfl,rfl⟩
 case round=>
  obtain⟨k,O,rfl,a2⟩:=hrel;by_cases aG:k<n
  ·rcases HC.o.at_ with z|⟨g,off,rfl,_,_,_,bk⟩
   ·omega
   have c:=bk k aG;clear bk;cases t:(xs.getD k 0==(x:Int))
   ·have H:E _:=y9 (hL HL.o aG) a2.o t;have F:¬xs.getD k 0=(x:Int):=by simpa using t
    have bb:¬(x:Int)=xs.getD k 0:=λe=>F e.symm;generalize xs.getD k 0=y at c t F bb;exact xeh
   have H:E (isO xs x=true):=by
    unfold isO;show _=true;rw[List.any_eq_true];refine⟨xs.getD k 0,?_,t⟩;rw[yai,yam (hL HL.o aG)];exact List.getElem_mem _
   have F:xs.getD k 0=(x:Int):=by simpa using t
   rw[F]at c;clear a2 t F;go_wp2;go_ret;exact⟨⟨k,rfl,by rw[H.o];simp⟩,rfl⟩
  have H:E (isO xs x=false):=by
   exact xey
  clear a2;go_wp2;go_ret;exact⟨⟨-1,rfl,by rw[H.o];decide⟩,rfl⟩
theorem EX(w lo hi a n cap xs)(x:Nat)(f:IS w lo hi a n xs)(ad:n<=100000):
  Calls prog 87 #[.slice a n cap,hA x] w λe B=>e=.returned (.bool (isO xs x))/\w=B:=by
 have ar:E _:=Ot w lo hi a n cap xs x f ad;clear f;go_enter func87,ntmps87;exact xfz
end
section
attribute[local go_sem] eF eE eD
variable{D J n b:Nat}{u:Nat->Value}{L:Nat->List Int}
def DwO(w:World)(n:Nat)(vs:List Vl)(outs:List Int)(e:Ending)(w':World):Prop:=∃D B u,e=.returned (.slice (some ⟨D,0,none⟩) n n)/\DB w' D B n u (iB vs outs n)/\w.heap.size<=D/\D<B/\B<=w'.heap.size/\Kept 0 0 w w'
theorem Iv{v}{i:Nat}(h:∀o∈fe v,0<=o/\o<i):∀k,k<cnt v.op->0<=fld v k/\fld v k<i:=λk O=>by
 rw[<-qY v O]
 refine h _ ?_
 rw[yai,yam (by rw[oO];exact O)]
 exact List.getElem_mem _
theorem IR.cellN{w g xs}(h:IR w g xs)(ad:xs.length=n)(k)(O:k<n):w.cell? ⟨g,k,none⟩=some (hA (xs.getD k 0)):=h.cell k xaa
theorem DB.mid{W I o}(f:DB W D J n u L)(hb:b<n)(bl:D<J)(aJ:(W.alloc o).grownBy I (u b).ownBlock):I.cell? ⟨D,b,none⟩=some (u b)/\I.frozen? ⟨D,b,none⟩=false:=by
 have f1:=f.keep (ez 0 0 W o);have aH:=gh aJ;have i:∀c,(u b).ownBlock=some c->J<=c:=λc ah=>(eH (f.row b hb) ah).1;exact⟨(aH.cell (p:=⟨D,b,none⟩) f1.lt (λc=>hJ (i D c))).trans (f1.at_ b hb),(aH.frozen (p:=⟨D,b,none⟩) f1.lt (λc=>hJ (i D c))).trans (f1.fr b)⟩
theorem DB.chg{W I o}(f:DB W D J n u L)(hb:b<n)(aJ:(W.alloc o).grownBy I (u b).ownBlock)(x):Chg (λc=>D=c\/J<=c) W (I.setCell ⟨D,b,none⟩ x):=
 Chg.andThen (ez 0 0 W o).chg (Chg.andThen ((gh aJ).mono λ_ _ ah=>.inr (eH (f.row b hb) ah).1) (fC I D b _ (.inl rfl)))
theorem Iw(w R aS aa Z c1 n2 c2 ab c3 ins vs outs)(f:GS w R Z aS n2 aa ab ins vs outs)(bV:okG ins vs outs=true):
  Calls prog 58 #[eZ R Z c1 aS n2 c2 aa ab c3] w λe B=>DwO w n2 vs outs e B:=by
 obtain⟨bm,bI,cC,bh,bP⟩:=info_parts pX;obtain⟨⟨cf,b1,cB⟩,_,aO,_,_⟩:=gU bV;have cq:vs.length=n2:=f.v.len;have cK:outs.length=ab:=f.o.len;have be:n2<=2000:=xaa;have cP:ab<=1000:=xaa;have bH:E (∀i,i<n2->∀k,k<cnt (vs.getD i hF).op->0<=fld (vs.getD i hF) k/\fld (vs.getD i hF) k<i):=λi hi=>Iv (qe (aO i xaa));have cA:E (vs.length=n2):=cq;have bq:=ez 0 0 w (e9 R Z c1 aS n2 c2 aa ab c3);have aT:=fB w (.slice R Z c1) (.slice aS n2 c2) (.slice aa ab c3);have av:E _:=aT;have HF:E _:=f.keep bq;have HK:E _:=bq;have b2:E ((w.alloc (e9 R Z c1 aS n2 c2 aa ab c3)).heap.size=w.heap.size+1):=by show _=_;simp
 clear f bV cf b1 cB aO cq cK bq;obtain⟨_,aY,aC,aL⟩:=aT;go_enter func58,ntmps58;go_upto_region 1 with fail;generalize w.alloc (e9 R Z c1 aS n2 c2 aa ab c3)=aA at av HF HK b2 aY aC aL⊢;have am:=wD n2 aA xaa;have aV:E _:=IR.made aA n2;have ak:=ez 0 0 aA (.cells (madeCells #[hA 0] n2) 3);have bB:E _:=ak;have az:E ((aA.alloc (.cells (madeCells #[hA 0] n2) 3)).heap.size=aA.heap.size+1):=by show _=_;simp
 obtain⟨_,br,ay,a0⟩:=av.o.keep ak;clear ak;go_wp2_with fail;clear aY aC aL br ay a0 am;generalize aA.alloc (.cells (madeCells #[hA 0] n2) 3)=ag at aV bB az⊢;obtain⟨T,bd⟩:∃T,T=aA.heap.size:=⟨_,rfl⟩
 rw[<-bd]at aV az⊢;have aw:E _:=bd;clear bd
 have ah:E (IR ag T (lsP vs n2 0)):=by
  have e:lsP vs n2 0=List.replicate n2 0:=by
   rw[List.eq_replicate_iff];refine⟨kS vs n2 0,λb hb=>?_⟩;obtain⟨j,_,e⟩:=List.mem_map.1 hb;rw[<-e,hC (Nat.not_lt_zero _)]
  show IR ag T (lsP vs n2 0);rw[e];exact aV.o
 clear aV;go_loopw [18] (λx W=>∃i:Nat,i<=n2/\x=hA i/\E (IR W T (lsP vs n2 i))/\E (Chg (λb=>b=T) ag W)) (λx _=>n2-(intOf x).toNat)
 case atStart=>exact⟨0,yae,rfl,ah,(hI).chg⟩
 case round=>
  obtain⟨i,hi,rfl,aM,bu⟩:=hrel;clear ah;have Q:E (Kept 0 0 aA wr):=Chg.kept bB.o bu.o (λb e=>hJ aw.o);obtain⟨_,aY,aC,aL⟩:=av.o.keep Q.o;by_cases aG:i<n2
  ·obtain⟨g,off,rfl,aJ,_,_,a7⟩:=(HF.o.keep Q.o).v.at_idx aG;have hops:=bH.o i aG;have ai:E _:=Kk (n:=n2) aG hops;have bA:E _:=hops;generalize a9:vs.getD i hF=v at a7 hops ai bA;obtain⟨ba,aP,y2,y3,y4,ck⟩:=a7;have aU:=aM.o.lt;have a2:=IR.cellN aM.o (kS vs n2 i) i aG;have an:=IR.free aM.o i;generalize (lsP vs n2 i).getD i 0=Y at a2;have ax:T≠wr.heap.size:=xaa;have C:(wr.setCell ⟨T,i,none⟩ (hA (i:Nat))).heap.size=wr.heap.size:=by simp
   have bL:=i9 (wr.setCell ⟨T,i,none⟩ (hA (i:Nat))) v;rw[C]at bL;obtain⟨bz,bo,bw,bR,cz,b0⟩:=bL;obtain⟨bD,aQ,a8,bi,bk,K⟩:=i9 wr v;simp only[Nat.zero_add]at bo bw bR cz b0 aQ a8 bi bk K;have b7:E (IR ((wr.setCell ⟨T,i,none⟩ (hA (i:Nat))).alloc (fH v.op v.len v.a v.b v.c v.k)) T (lsK (lsP vs n2 i) v i 0)):=IR.keep (IR.set aM.o i (i:Nat)) (ez 0 0 _ _) yaa;have bZ:E (Chg (λb=>b=T) ag ((wr.setCell ⟨T,i,none⟩ (hA (i:Nat))).alloc (fH v.op v.len v.a v.b v.c v.k))):=Chg.andThen bu.o (Chg.andThen (fC _ T i _ rfl) (ez 0 0 _ _).chg);clear a9 aM bu;go_wp2_with fail;clear ba aP y2 y3 y4 ck aY aC aL bz bo bw bR cz b0 bD aQ a8 bi bk K a2 an aJ C;generalize (wr.setCell ⟨T,i,none⟩ (hA (i:Nat))).alloc (fH v.op v.len v.a v.b v.c v.k)=aF at b7 bZ⊢;refine yaj (pD aF v) ?_;rintro e bc ⟨cD,rfl,S,aq,bQ⟩;have s:E _:=b7.o.keep bQ yaa;have bW:E (Chg (λb=>b=T) ag bc):=Chg.andThen bZ.o bQ.chg;obtain⟨m,am⟩:∃m,m=cnt v.op:=⟨_,rfl⟩
   rw[<-am]at ai bA⊢;have I:m<=3:=hJ (fI v.op)
   have d7:E ((∀q,q<m->bc.cell? ⟨cD,q,none⟩=some (hA (fld v q)))/\(0<m->T<cD)):=by
    refine⟨λq ap=>?_,λal=>?_⟩
    ·rcases S.at_ with bD|⟨bY,N,l,_,_,_,bG⟩
     ·omega
     injection l with l;injection l with U aj;subst U aj;have:=bG q xaa;rw[Nat.zero_add,qY v xaa]at this;exact this
    rcases S.at_ with bD|⟨bY,N,l,F,_⟩
    ·omega
    injection l with l;injection l with U aj;subst U;have:=b7.o.lt;omega
   clear S aq bQ b7 bZ am hops;go_wp2_with fail;go_loopw [30] (λx W=>∃q:Nat,q<=m/\x=hA q/\E (IR W T (lsK (lsP vs n2 i) v i q))/\E (Chg (λb=>b=T) ag W)/\E (∀q,q<m->W.cell? ⟨cD,q,none⟩=some (hA (fld v q)))) (λx _=>m-(intOf x).toNat)
   case atStart=>exact⟨0,yae,rfl,s,bW,d7.o.1⟩
   case round=>
    obtain⟨q,ap,rfl,aM,bu,bg⟩:=hrel;clear s bW;by_cases af:q<m
    ·have a5:=bA.o q af;have aH:=bg.o q af;obtain⟨o,ho⟩:=Int.eq_ofNat_of_zero_le a5.1;have aD:=d7.o.2 xaa
     have HR:E (IR (wr.setCell ⟨T,o,none⟩ (hA (i:Nat))) T (lsK (lsP vs n2 i) v i (q+1))):=by
      have:=IR.set aM.o o (i:Nat);show IR _ _ _;rw[lsK,ho];exact this
     rw[ho]at aH a5;have P:o<n2:=xaa;have a2:=IR.cellN aM.o (by rw[xy,kS]) o P;have an:=IR.free aM.o o;generalize (lsK (lsP vs n2 i) v i q).getD o 0=Y at a2;have ar:E (Chg (λb=>b=T) ag (wr.setCell ⟨T,o,none⟩ (hA (i:Nat)))):=Chg.andThen bu.o (fC _ T o _ rfl)
     have au:E (∀q,q<m->(wr.setCell ⟨T,o,none⟩ (hA (i:Nat))).cell? ⟨cD,q,none⟩=some (hA (fld v q))):=λq ap=>by
      rw[eQ _ _ _ _ _ _ (.inl xaa)];exact bg.o q ap
     have bb:0<=(o:Int):=xaa;have bn:(o:Int)<n2:=xaa;clear aM bu bg a5;go_wp2_with fail;go_roundw;exact⟨q+1,by omega,by go_num,HR,ar,au⟩;simp[intOf];omega
    obtain rfl:q=m:=xaa
    have HR:E (IR wr T (lsP vs n2 (i+1))):=by
     show IR _ _ _;rw[<-ai.o];exact aM.o
    clear aM bg;go_wp2_with fail;go_roundw;exact⟨i+1,by omega,by go_num,HR,bu⟩;simp[intOf];omega
  obtain rfl:i=n2:=xaa;have am:=Lg i wr xaa;have HD:E _:=DB.made wr i;have aR:=ez 0 0 wr (.cells (madeCells #[.slice none 0 0] i) 23);have z:E _:=aM.o.keep aR yaa;have aK:E _:=Q.o.trans aR;have G:E ((wr.alloc (.cells (madeCells #[.slice none 0 0] i) 23)).heap.size=wr.heap.size+1/\T<wr.heap.size/\aA.heap.size<=wr.heap.size):=⟨by simp,aM.o.lt,Q.o.size⟩
  clear aM bu aR Q;go_wp2_with fail;clear aY aC aL am;generalize wr.alloc (.cells (madeCells #[.slice none 0 0] i) 23)=aF at HD z aK G⊢;obtain⟨D,bl⟩:∃D,D=wr.heap.size:=⟨_,rfl⟩
  rw[<-bl]at HD G⊢;clear bl;go_loopw [46] (λx W=>∃(k:Nat) (u:Nat->Value),k<=i/\x=hA k/\E (DB W D (D+1) i u (iB vs outs k))/\E (Chg (λb=>D=b\/D+1<=b) aF W)) (λx _=>i-(intOf x).toNat)
  case atStart=>exact⟨0,λ_=>.slice none 0 0,yae,rfl,HD.o.congr (λb _=>rfl),(hI).chg⟩
  case round=>
   obtain⟨k,u,O,rfl,bl,bu⟩:=hrel;clear HD;have Q:E (Kept 0 0 aA wr):=Chg.kept aK.o bu.o (λb e=>hJ G.o);obtain⟨_,aY,aC,aL⟩:=av.o.keep Q.o;by_cases di:k<i
   ·have a2:=IR.cellN (IR.keepC z.o bu.o (hJ G.o)) (kS vs i i) k di;rw[Bi vs di,hD di]at a2;have ao:=NL vs i k di;have r:E (∀b,iB vs outs (k+1) b=_):=λb=>Bj vs outs k b;rw[cA.o]at r;obtain⟨e,aZ⟩:=Int.eq_ofNat_of_zero_le (show 0<=nG vs i k by omega);rw[aZ]at a2 ao r;have aI:E _:=EX wr 0 wr.heap.size aa ab c3 outs k (HF.o.keep Q.o).o xaa;have y:e<i:=xaa;clear aZ ao;go_wp2_with fail;refine yaj aI.o ?_;rintro aN bp ⟨rfl,rfl⟩;cases aX:isO outs k
    ·have cy:E (∀b,b<i->Lf (iB vs outs k) e (iB vs outs k e++[(k:Int)]) b=iB vs outs (k+1) b):=λb hb=>by
      rw[r.o b]
      unfold Lf
      by_cases c:b=e
      ·subst c
       rw[hD rfl,hD ⟨rfl,aX⟩]
      ·rw[hC c,hC (λh=>c (hJ h.1)),List.append_nil]
     have fG:=bl.o.at_ e y;have X:=bl.o.row e y;have ae:E _:=bl.o;have ca:(iB vs outs k e).length<=2000:=hJ (vx vs outs k e)
     have bX:D+1<=wr.heap.size:=hJ bl.o.lt
     have a6:0<=(e:Int):=xaa;have bf:(e:Int)<i:=xaa;clear aX r aI a2 aY aC aL;go_wp2_with (first|(at_builtin;refine wpList_append_lies _ rfl _ _ 23 rfl (D+1) 3 bm (hA 0) 1 8 underlying23 bI cC bh bP rfl xab _ _ _ rfl (X.alloc _) ⟨wr.heap.size,0,none⟩ 1 1 [hA k] rfl rfl (cell_one_new _ _ _) (by intro u aB;simp at aB;subst aB;rfl) xab (by unfold maxLen;omega) xaa yag _ rfl ?_;intro g9 cap9 bj bF aW bT _;obtain⟨ci,m1⟩:=ae.o.mid y yaf aW)|fail);have H:E _:=(ae.o.put y yaf bF aW (bT.imp id (λh=>h.trans xac))).congr cy.o;have p:E (Chg (λb=>D=b\/D+1<=b) aF _):=Chg.andThen bu.o (ae.o.chg y aW (hz g9 ((iB vs outs k e).length+1) cap9));clear bF aW bT ci m1 X cy;go_wp2_with fail;go_roundw;exact⟨k+1,_,by omega,by go_num,H,p⟩;simp[intOf];omega
    have H:E (DB wr D (D+1) i u (iB vs outs (k+1))):=bl.o.congr (λb _=>by rw[r.o b,hC (by rw[aX];simp),List.append_nil]);clear bl r;go_wp2_with fail;go_roundw;exact⟨k+1,u,by omega,by go_num,H,bu⟩;simp[intOf];omega
   obtain rfl:k=i:=xaa;have ad:E _:=bl.o;clear bl;go_wp2_with fail;go_ret;unfold DwO;exact⟨D,D+1,u,rfl,ad.o,hK G.o b2.o,yaf,hJ ad.o.lt,HK.o.trans Q.o⟩
end
section
variable{J:Nat}{a5 a7 z:Value}{ins:List Int}{ss:List Ste}{bG:List Spn}
abbrev cnl:Value:=re none 0 0 none 0 0 none 0 0 0
structure OCd(W:World)(B:Nat)(v1 v2 v3:Value)(ins:List Int)(ss:List Ste)(os:List Spn):Prop where
 r1:W.ownsRow B 3 1 v1 ins.length (ins.map (Value.int .i64))
 r2:W.ownsRow B 64 8 v2 ss.length (lg ss)
 r3:W.ownsRow B 67 2 v3 os.length (fL os)
 d12:∀g,v1.ownBlock=some g->v2.ownBlock≠some g
 d13:∀g,v1.ownBlock=some g->v3.ownBlock≠some g
 d23:∀g,v2.ownBlock=some g->v3.ownBlock≠some g
 kl:∀v∈ss,v.k<18446744073709551616
theorem OCd.keepC{W I S}(f:OCd W J a5 a7 z ins ss bG)(k:Chg S W I)(aK:∀g,J<=g->g<W.heap.size->¬S g):OCd I J a5 a7 z ins ss bG:=
 ⟨fi f.r1 k (λg aJ=>aK g (eH f.r1 aJ).1 (eH f.r1 aJ).2),fi f.r2 k (λg aJ=>aK g (eH f.r2 aJ).1 (eH f.r2 aJ).2),fi f.r3 k (λg aJ=>aK g (eH f.r3 aJ).1 (eH f.r3 aJ).2),f.d12,f.d13,f.d23,f.kl⟩
theorem OCd.mono{W e}(f:OCd W J a5 a7 z ins ss bG)(h:e<=J):OCd W e a5 a7 z ins ss bG:=
 ⟨iE f.r1 h,iE f.r2 h,iE f.r3 h,f.d12,f.d13,f.d23,f.kl⟩
theorem OCd.cs{W a1 U a3 Z n2 ab c1 c2 c3}(f:OCd W J (.slice a1 Z c1) (.slice U n2 c2) (.slice a3 ab c3) ins ss bG)(F:ins.length=Z)(N:ss.length=n2)(h3:bG.length=ab):CS W a1 Z U n2 a3 ab ins ss bG:=by
 subst F N h3;exact⟨(CJ f.r1 rfl).mono yae yad,(Lc f.r2 rfl f.kl).mono yae yad,(Ld f.r3 rfl).mono yae yad⟩
section
variable{W:World}{J g m c j q:Nat}{u1 u2 u3:Value}{ins:List Int}{ss:List Ste}{bG:List Spn}{x:Value}
